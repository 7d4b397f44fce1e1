/-
  NARROWER THAN 'FOR EVERY INPUT', by the rows' own cells (each row's printed sentence says how): MeetTells: laid · MeetTurns: laid · MeetLies: laid · MeetHeights: laid · MeetAll: laid.
  DERIVED. THE GIVEN ROWS OF THIS SEAT. 5 by the template 'for every input the law returns true; each argument reads behind the call as it read before'; 0 by the template 'total and deterministic' (their statements: YtipckjmgdghkiaaGreatDoorTotals.lean).
  GIVEN WITH THE SEED: the statements are not yours to turn. If you find one false, say at which input.
  Laid BY PROGRAM, IN A SANDBOX (cutbox-rows.mjs): the forced cells as the released guide's own fill.sh prints them over the translation ec21cfb66dea2b99… (all of the seat's roots in one cut). By AI agents, Wed Nov 11 2026. No macro, syntax, notation, axiom, sorry.
-/
import Derived.Test.YtipckjmgdghkiaaGreatDoorChecked
import GoSem.Claim
import GoSem.ClaimJoined
import GoSem.ClaimMapViews
import Derived.JoinedTies
import Derived.KernelRfl
namespace Go.Proofs.YtipckjmgdghkiaaGreatDoor
/- THE CELL 'sum', in the pinned program and in every row, IS THE sha256 OF THE DUMP (.gsa) THAT YtipckjmgdghkiaaGreatDoorProg.lean LOADS. Nothing in Lean hashes anything: it is a label: what it is worth is what the hold of that sum in a sandbox is worth. -/
noncomputable def Tryz.pinned : Pinned := { name := "ytipckjmgdghkiaagreatdoor", sum := "ec21cfb66dea2b99511a2135b020bc863c27e0e9e5d8f99bbb27c2ec029483a0", checked := Tryz.checked }
namespace Rows
def none {H : Type} : Left H := { results := [], args := [] }

/- WHAT THE LISTED PACKAGE-LEVEL VARIABLES READ AS WHEN THE CALL BEGINS. Each datum BY PROGRAM (the guide's laid-datum.mjs) off the statement by which the dump's own 'gosem.cut.vars' lays the variable. In a bare row this is a premise. The card (YtipckjmgdghkiaaGreatDoorCards.lean) ties it to the program's text. -/
def laid_math_bits_deBruijn32tab {H : Type} : DataW H := .agg [.lit (.int .u8 0), .lit (.int .u8 1), .lit (.int .u8 28), .lit (.int .u8 2), .lit (.int .u8 29), .lit (.int .u8 14), .lit (.int .u8 24), .lit (.int .u8 3), .lit (.int .u8 30), .lit (.int .u8 22), .lit (.int .u8 20), .lit (.int .u8 15), .lit (.int .u8 25), .lit (.int .u8 17), .lit (.int .u8 4), .lit (.int .u8 8), .lit (.int .u8 31), .lit (.int .u8 27), .lit (.int .u8 13), .lit (.int .u8 23), .lit (.int .u8 21), .lit (.int .u8 19), .lit (.int .u8 16), .lit (.int .u8 7), .lit (.int .u8 26), .lit (.int .u8 12), .lit (.int .u8 18), .lit (.int .u8 6), .lit (.int .u8 11), .lit (.int .u8 5), .lit (.int .u8 10), .lit (.int .u8 9)]
def laid_math_bits_deBruijn64tab {H : Type} : DataW H := .agg [.lit (.int .u8 0), .lit (.int .u8 1), .lit (.int .u8 56), .lit (.int .u8 2), .lit (.int .u8 57), .lit (.int .u8 49), .lit (.int .u8 28), .lit (.int .u8 3), .lit (.int .u8 61), .lit (.int .u8 58), .lit (.int .u8 42), .lit (.int .u8 50), .lit (.int .u8 38), .lit (.int .u8 29), .lit (.int .u8 17), .lit (.int .u8 4), .lit (.int .u8 62), .lit (.int .u8 47), .lit (.int .u8 59), .lit (.int .u8 36), .lit (.int .u8 45), .lit (.int .u8 43), .lit (.int .u8 51), .lit (.int .u8 22), .lit (.int .u8 53), .lit (.int .u8 39), .lit (.int .u8 33), .lit (.int .u8 30), .lit (.int .u8 24), .lit (.int .u8 18), .lit (.int .u8 12), .lit (.int .u8 5), .lit (.int .u8 63), .lit (.int .u8 55), .lit (.int .u8 48), .lit (.int .u8 27), .lit (.int .u8 60), .lit (.int .u8 41), .lit (.int .u8 37), .lit (.int .u8 16), .lit (.int .u8 46), .lit (.int .u8 35), .lit (.int .u8 44), .lit (.int .u8 21), .lit (.int .u8 52), .lit (.int .u8 32), .lit (.int .u8 23), .lit (.int .u8 11), .lit (.int .u8 54), .lit (.int .u8 26), .lit (.int .u8 40), .lit (.int .u8 15), .lit (.int .u8 34), .lit (.int .u8 20), .lit (.int .u8 31), .lit (.int .u8 10), .lit (.int .u8 25), .lit (.int .u8 14), .lit (.int .u8 19), .lit (.int .u8 9), .lit (.int .u8 13), .lit (.int .u8 8), .lit (.int .u8 7), .lit (.int .u8 6)]
def laid_strait_sint_signs {H : Type} : DataW H := .agg [.lit (.int .i64 (-1)), .lit (.int .i64 0), .lit (.int .i64 1)]

/-- 'straitlaw10.MeetTells': WHATEVER THE INPUT: true; the input reads as it did. -/
def meetTellsSpec : ChangeSpec := { name := "meetTells", fn := fun _ => fun
  | [d1, d2, d3, d4, d5, d6, d7] => { results := [.lit (.bool true)], args := [d1, d2, d3, d4, d5, d6, d7] }
  | _ => none }
def meetTellsRow : OpenClaim := { program := "ytipckjmgdghkiaagreatdoor", sum := "ec21cfb66dea2b99511a2135b020bc863c27e0e9e5d8f99bbb27c2ec029483a0", func := "strait/straitlaw10.MeetTells", spec := "meetTells", unfollowed := true, recurses := true, named := ["strait/sint.signs", "math/bits.deBruijn64tab", "math/bits.overflowError", "math/bits.deBruijn32tab"], apart := false, laid := [("math/bits.deBruijn32tab", laid_math_bits_deBruijn32tab), ("math/bits.deBruijn64tab", laid_math_bits_deBruijn64tab), ("strait/sint.signs", laid_strait_sint_signs)] }
def MeetTellsSaid : Prop := meetTellsRow.holds Tryz.pinned (OpenSpec.ofChange meetTellsSpec)

/-- ITS FALSE NEIGHBOUR: 'it returns false'. Refute it at one input. -/
def meetTellsWrong : ChangeSpec := { name := "meetTells", fn := fun _ => fun
  | [d1, d2, d3, d4, d5, d6, d7] => { results := [.lit (.bool false)], args := [d1, d2, d3, d4, d5, d6, d7] }
  | _ => none }
def MeetTellsWrongFalsely : Prop := meetTellsRow.holds Tryz.pinned (OpenSpec.ofChange meetTellsWrong)

/-- 'straitlaw10.MeetTurns': WHATEVER THE INPUT: true; the input reads as it did. -/
def meetTurnsSpec : ChangeSpec := { name := "meetTurns", fn := fun _ => fun
  | [d1, d2, d3, d4, d5] => { results := [.lit (.bool true)], args := [d1, d2, d3, d4, d5] }
  | _ => none }
def meetTurnsRow : OpenClaim := { program := "ytipckjmgdghkiaagreatdoor", sum := "ec21cfb66dea2b99511a2135b020bc863c27e0e9e5d8f99bbb27c2ec029483a0", func := "strait/straitlaw10.MeetTurns", spec := "meetTurns", unfollowed := true, recurses := true, named := ["strait/sint.signs", "math/bits.deBruijn64tab", "math/bits.overflowError", "math/bits.deBruijn32tab"], apart := false, laid := [("math/bits.deBruijn32tab", laid_math_bits_deBruijn32tab), ("math/bits.deBruijn64tab", laid_math_bits_deBruijn64tab), ("strait/sint.signs", laid_strait_sint_signs)] }
def MeetTurnsSaid : Prop := meetTurnsRow.holds Tryz.pinned (OpenSpec.ofChange meetTurnsSpec)

/-- ITS FALSE NEIGHBOUR: 'it returns false'. Refute it at one input. -/
def meetTurnsWrong : ChangeSpec := { name := "meetTurns", fn := fun _ => fun
  | [d1, d2, d3, d4, d5] => { results := [.lit (.bool false)], args := [d1, d2, d3, d4, d5] }
  | _ => none }
def MeetTurnsWrongFalsely : Prop := meetTurnsRow.holds Tryz.pinned (OpenSpec.ofChange meetTurnsWrong)

/-- 'straitlaw10.MeetLies': WHATEVER THE INPUT: true; the input reads as it did. -/
def meetLiesSpec : ChangeSpec := { name := "meetLies", fn := fun _ => fun
  | [d1, d2, d3, d4] => { results := [.lit (.bool true)], args := [d1, d2, d3, d4] }
  | _ => none }
def meetLiesRow : OpenClaim := { program := "ytipckjmgdghkiaagreatdoor", sum := "ec21cfb66dea2b99511a2135b020bc863c27e0e9e5d8f99bbb27c2ec029483a0", func := "strait/straitlaw10.MeetLies", spec := "meetLies", unfollowed := true, recurses := true, named := ["strait/sint.signs", "math/bits.deBruijn64tab", "math/bits.overflowError", "math/bits.deBruijn32tab"], apart := false, laid := [("math/bits.deBruijn32tab", laid_math_bits_deBruijn32tab), ("math/bits.deBruijn64tab", laid_math_bits_deBruijn64tab), ("strait/sint.signs", laid_strait_sint_signs)] }
def MeetLiesSaid : Prop := meetLiesRow.holds Tryz.pinned (OpenSpec.ofChange meetLiesSpec)

/-- ITS FALSE NEIGHBOUR: 'it returns false'. Refute it at one input. -/
def meetLiesWrong : ChangeSpec := { name := "meetLies", fn := fun _ => fun
  | [d1, d2, d3, d4] => { results := [.lit (.bool false)], args := [d1, d2, d3, d4] }
  | _ => none }
def MeetLiesWrongFalsely : Prop := meetLiesRow.holds Tryz.pinned (OpenSpec.ofChange meetLiesWrong)

/-- 'straitlaw10.MeetHeights': WHATEVER THE INPUT: true; the input reads as it did. -/
def meetHeightsSpec : ChangeSpec := { name := "meetHeights", fn := fun _ => fun
  | [d1, d2, d3] => { results := [.lit (.bool true)], args := [d1, d2, d3] }
  | _ => none }
def meetHeightsRow : OpenClaim := { program := "ytipckjmgdghkiaagreatdoor", sum := "ec21cfb66dea2b99511a2135b020bc863c27e0e9e5d8f99bbb27c2ec029483a0", func := "strait/straitlaw10.MeetHeights", spec := "meetHeights", unfollowed := true, recurses := true, named := ["strait/sint.signs", "math/bits.deBruijn64tab", "math/bits.overflowError", "math/bits.deBruijn32tab"], apart := false, laid := [("math/bits.deBruijn32tab", laid_math_bits_deBruijn32tab), ("math/bits.deBruijn64tab", laid_math_bits_deBruijn64tab), ("strait/sint.signs", laid_strait_sint_signs)] }
def MeetHeightsSaid : Prop := meetHeightsRow.holds Tryz.pinned (OpenSpec.ofChange meetHeightsSpec)

/-- ITS FALSE NEIGHBOUR: 'it returns false'. Refute it at one input. -/
def meetHeightsWrong : ChangeSpec := { name := "meetHeights", fn := fun _ => fun
  | [d1, d2, d3] => { results := [.lit (.bool false)], args := [d1, d2, d3] }
  | _ => none }
def MeetHeightsWrongFalsely : Prop := meetHeightsRow.holds Tryz.pinned (OpenSpec.ofChange meetHeightsWrong)

/-- 'straitlaw10.MeetAll': WHATEVER THE INPUT: true; the input reads as it did. -/
def meetAllSpec : ChangeSpec := { name := "meetAll", fn := fun _ => fun
  | [d1, d2] => { results := [.lit (.bool true)], args := [d1, d2] }
  | _ => none }
def meetAllRow : OpenClaim := { program := "ytipckjmgdghkiaagreatdoor", sum := "ec21cfb66dea2b99511a2135b020bc863c27e0e9e5d8f99bbb27c2ec029483a0", func := "strait/straitlaw10.MeetAll", spec := "meetAll", unfollowed := true, recurses := true, named := ["strait/sint.signs", "math/bits.deBruijn64tab", "math/bits.overflowError", "math/bits.deBruijn32tab"], apart := false, laid := [("math/bits.deBruijn32tab", laid_math_bits_deBruijn32tab), ("math/bits.deBruijn64tab", laid_math_bits_deBruijn64tab), ("strait/sint.signs", laid_strait_sint_signs)] }
def MeetAllSaid : Prop := meetAllRow.holds Tryz.pinned (OpenSpec.ofChange meetAllSpec)

/-- ITS FALSE NEIGHBOUR: 'it returns false'. Refute it at one input. -/
def meetAllWrong : ChangeSpec := { name := "meetAll", fn := fun _ => fun
  | [d1, d2] => { results := [.lit (.bool false)], args := [d1, d2] }
  | _ => none }
def MeetAllWrongFalsely : Prop := meetAllRow.holds Tryz.pinned (OpenSpec.ofChange meetAllWrong)

/- THE SECOND FORM. 'bulk': how many values and letters a reading holds, each counted each time it is reached (what is shared counts as often as it is met; a slice's spare places count too). A statement '..UptoSaid' is the law's where the arguments, and the package variables that the reading takes, are together of bulk at most 1048576: NARROWER than '..Said'. Prove '..Said' where nothing that the law and all that it calls make is longer than what came in: it says more and counts as full. Else prove '..UptoSaid'. A law counts once. -/
mutual
def uptoBulk {H : Type} : DataW H → Nat
  | .lit (.string bytes) => bytes.length + 1
  | .lit _ => 1
  | .nil => 1
  | .ptr d => uptoBulk d + 1
  | .slice elems spare => uptoBulkAll elems + uptoBulkAll spare + 1
  | .agg parts => uptoBulkAll parts + 1
  | .iface _ d => uptoBulk d + 1
  | .map entries => uptoBulkEntries entries + 1
  | .held _ => 1
def uptoBulkAll {H : Type} : List (DataW H) → Nat
  | [] => 0
  | d :: r => uptoBulk d + uptoBulkAll r
def uptoBulkEntries {H : Type} : List (Lit × DataW H) → Nat
  | [] => 0
  | x :: r => uptoBulkEntry x + uptoBulkEntries r
def uptoBulkEntry {H : Type} : Lit × DataW H → Nat
  | (.string bytes, d) => bytes.length + uptoBulk d + 1
  | (_, d) => uptoBulk d + 1
 end
def uptoSmall : (H : Type) → List (DataW H) → Bool := fun _ ds => decide (uptoBulkAll ds ≤ 1048576)
def OpenSpec.upto (s : _root_.Go.ChangeSpec) : _root_.Go.OpenSpec := { _root_.Go.OpenSpec.ofChange s with cond := some uptoSmall }

/-- 'straitlaw10.MeetTells', WHERE WHAT IT READS IS OF BULK AT MOST 1048576: true; the input reads as it did. -/
def meetTellsUptoRow : OpenClaim := { program := "ytipckjmgdghkiaagreatdoor", sum := "ec21cfb66dea2b99511a2135b020bc863c27e0e9e5d8f99bbb27c2ec029483a0", func := "strait/straitlaw10.MeetTells", spec := "meetTells", unfollowed := true, recurses := true, named := ["strait/sint.signs", "math/bits.deBruijn64tab", "math/bits.overflowError", "math/bits.deBruijn32tab"], apart := false, laid := [("math/bits.deBruijn32tab", laid_math_bits_deBruijn32tab), ("math/bits.deBruijn64tab", laid_math_bits_deBruijn64tab), ("strait/sint.signs", laid_strait_sint_signs)], narrowed := true }
def MeetTellsUptoSaid : Prop := meetTellsUptoRow.holds Tryz.pinned (OpenSpec.upto meetTellsSpec)

/-- 'straitlaw10.MeetTurns', WHERE WHAT IT READS IS OF BULK AT MOST 1048576: true; the input reads as it did. -/
def meetTurnsUptoRow : OpenClaim := { program := "ytipckjmgdghkiaagreatdoor", sum := "ec21cfb66dea2b99511a2135b020bc863c27e0e9e5d8f99bbb27c2ec029483a0", func := "strait/straitlaw10.MeetTurns", spec := "meetTurns", unfollowed := true, recurses := true, named := ["strait/sint.signs", "math/bits.deBruijn64tab", "math/bits.overflowError", "math/bits.deBruijn32tab"], apart := false, laid := [("math/bits.deBruijn32tab", laid_math_bits_deBruijn32tab), ("math/bits.deBruijn64tab", laid_math_bits_deBruijn64tab), ("strait/sint.signs", laid_strait_sint_signs)], narrowed := true }
def MeetTurnsUptoSaid : Prop := meetTurnsUptoRow.holds Tryz.pinned (OpenSpec.upto meetTurnsSpec)

/-- 'straitlaw10.MeetLies', WHERE WHAT IT READS IS OF BULK AT MOST 1048576: true; the input reads as it did. -/
def meetLiesUptoRow : OpenClaim := { program := "ytipckjmgdghkiaagreatdoor", sum := "ec21cfb66dea2b99511a2135b020bc863c27e0e9e5d8f99bbb27c2ec029483a0", func := "strait/straitlaw10.MeetLies", spec := "meetLies", unfollowed := true, recurses := true, named := ["strait/sint.signs", "math/bits.deBruijn64tab", "math/bits.overflowError", "math/bits.deBruijn32tab"], apart := false, laid := [("math/bits.deBruijn32tab", laid_math_bits_deBruijn32tab), ("math/bits.deBruijn64tab", laid_math_bits_deBruijn64tab), ("strait/sint.signs", laid_strait_sint_signs)], narrowed := true }
def MeetLiesUptoSaid : Prop := meetLiesUptoRow.holds Tryz.pinned (OpenSpec.upto meetLiesSpec)

/-- 'straitlaw10.MeetHeights', WHERE WHAT IT READS IS OF BULK AT MOST 1048576: true; the input reads as it did. -/
def meetHeightsUptoRow : OpenClaim := { program := "ytipckjmgdghkiaagreatdoor", sum := "ec21cfb66dea2b99511a2135b020bc863c27e0e9e5d8f99bbb27c2ec029483a0", func := "strait/straitlaw10.MeetHeights", spec := "meetHeights", unfollowed := true, recurses := true, named := ["strait/sint.signs", "math/bits.deBruijn64tab", "math/bits.overflowError", "math/bits.deBruijn32tab"], apart := false, laid := [("math/bits.deBruijn32tab", laid_math_bits_deBruijn32tab), ("math/bits.deBruijn64tab", laid_math_bits_deBruijn64tab), ("strait/sint.signs", laid_strait_sint_signs)], narrowed := true }
def MeetHeightsUptoSaid : Prop := meetHeightsUptoRow.holds Tryz.pinned (OpenSpec.upto meetHeightsSpec)

/-- 'straitlaw10.MeetAll', WHERE WHAT IT READS IS OF BULK AT MOST 1048576: true; the input reads as it did. -/
def meetAllUptoRow : OpenClaim := { program := "ytipckjmgdghkiaagreatdoor", sum := "ec21cfb66dea2b99511a2135b020bc863c27e0e9e5d8f99bbb27c2ec029483a0", func := "strait/straitlaw10.MeetAll", spec := "meetAll", unfollowed := true, recurses := true, named := ["strait/sint.signs", "math/bits.deBruijn64tab", "math/bits.overflowError", "math/bits.deBruijn32tab"], apart := false, laid := [("math/bits.deBruijn32tab", laid_math_bits_deBruijn32tab), ("math/bits.deBruijn64tab", laid_math_bits_deBruijn64tab), ("strait/sint.signs", laid_strait_sint_signs)], narrowed := true }
def MeetAllUptoSaid : Prop := meetAllUptoRow.holds Tryz.pinned (OpenSpec.upto meetAllSpec)

end Rows
end Go.Proofs.YtipckjmgdghkiaaGreatDoor
