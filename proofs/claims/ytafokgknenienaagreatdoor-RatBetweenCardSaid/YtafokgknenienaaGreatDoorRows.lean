/-
  NARROWER THAN 'FOR EVERY INPUT', by the rows' own cells (each row's printed sentence says how): RatTells: laid · RatBetween: laid · VecTells: laid · VecCross: laid · VecWays: laid · VecOrder: laid.
  DERIVED. THE GIVEN ROWS OF THIS SEAT. 6 by the template 'for every input the law returns true; each argument reads behind the call as it read before'; 0 by the template 'total and deterministic' (their statements: YtafokgknenienaaGreatDoorTotals.lean).
  GIVEN WITH THE SEED: the statements are not yours to turn. If you find one false, say at which input.
  Laid BY PROGRAM, IN A SANDBOX (cutbox-rows.mjs): the forced cells as the released guide's own fill.sh prints them over the translation 837db06db00de0a9… (all of the seat's roots in one cut). By AI agents, Wed Nov 11 2026. No macro, syntax, notation, axiom, sorry.
-/
import Derived.Test.YtafokgknenienaaGreatDoorChecked
import GoSem.Claim
import GoSem.ClaimJoined
import GoSem.ClaimMapViews
import Derived.JoinedTies
import Derived.KernelRfl
namespace Go.Proofs.YtafokgknenienaaGreatDoor
/- THE CELL 'sum', in the pinned program and in every row, IS THE sha256 OF THE DUMP (.gsa) THAT YtafokgknenienaaGreatDoorProg.lean LOADS. Nothing in Lean hashes anything: it is a label: what it is worth is what the hold of that sum in a sandbox is worth. -/
noncomputable def Tryz.pinned : Pinned := { name := "ytafokgknenienaagreatdoor", sum := "837db06db00de0a937706bf4ede66392eafa795e0253af992f939bec9f1f95e7", checked := Tryz.checked }
namespace Rows
def none {H : Type} : Left H := { results := [], args := [] }

/- WHAT THE LISTED PACKAGE-LEVEL VARIABLES READ AS WHEN THE CALL BEGINS. Each datum BY PROGRAM (the guide's laid-datum.mjs) off the statement by which the dump's own 'gosem.cut.vars' lays the variable. In a bare row this is a premise. The card (YtafokgknenienaaGreatDoorCards.lean) ties it to the program's text. -/
def laid_math_bits_deBruijn32tab {H : Type} : DataW H := .agg [.lit (.int .u8 0), .lit (.int .u8 1), .lit (.int .u8 28), .lit (.int .u8 2), .lit (.int .u8 29), .lit (.int .u8 14), .lit (.int .u8 24), .lit (.int .u8 3), .lit (.int .u8 30), .lit (.int .u8 22), .lit (.int .u8 20), .lit (.int .u8 15), .lit (.int .u8 25), .lit (.int .u8 17), .lit (.int .u8 4), .lit (.int .u8 8), .lit (.int .u8 31), .lit (.int .u8 27), .lit (.int .u8 13), .lit (.int .u8 23), .lit (.int .u8 21), .lit (.int .u8 19), .lit (.int .u8 16), .lit (.int .u8 7), .lit (.int .u8 26), .lit (.int .u8 12), .lit (.int .u8 18), .lit (.int .u8 6), .lit (.int .u8 11), .lit (.int .u8 5), .lit (.int .u8 10), .lit (.int .u8 9)]
def laid_math_bits_deBruijn64tab {H : Type} : DataW H := .agg [.lit (.int .u8 0), .lit (.int .u8 1), .lit (.int .u8 56), .lit (.int .u8 2), .lit (.int .u8 57), .lit (.int .u8 49), .lit (.int .u8 28), .lit (.int .u8 3), .lit (.int .u8 61), .lit (.int .u8 58), .lit (.int .u8 42), .lit (.int .u8 50), .lit (.int .u8 38), .lit (.int .u8 29), .lit (.int .u8 17), .lit (.int .u8 4), .lit (.int .u8 62), .lit (.int .u8 47), .lit (.int .u8 59), .lit (.int .u8 36), .lit (.int .u8 45), .lit (.int .u8 43), .lit (.int .u8 51), .lit (.int .u8 22), .lit (.int .u8 53), .lit (.int .u8 39), .lit (.int .u8 33), .lit (.int .u8 30), .lit (.int .u8 24), .lit (.int .u8 18), .lit (.int .u8 12), .lit (.int .u8 5), .lit (.int .u8 63), .lit (.int .u8 55), .lit (.int .u8 48), .lit (.int .u8 27), .lit (.int .u8 60), .lit (.int .u8 41), .lit (.int .u8 37), .lit (.int .u8 16), .lit (.int .u8 46), .lit (.int .u8 35), .lit (.int .u8 44), .lit (.int .u8 21), .lit (.int .u8 52), .lit (.int .u8 32), .lit (.int .u8 23), .lit (.int .u8 11), .lit (.int .u8 54), .lit (.int .u8 26), .lit (.int .u8 40), .lit (.int .u8 15), .lit (.int .u8 34), .lit (.int .u8 20), .lit (.int .u8 31), .lit (.int .u8 10), .lit (.int .u8 25), .lit (.int .u8 14), .lit (.int .u8 19), .lit (.int .u8 9), .lit (.int .u8 13), .lit (.int .u8 8), .lit (.int .u8 7), .lit (.int .u8 6)]
def laid_strait_sint_signs {H : Type} : DataW H := .agg [.lit (.int .i64 (-1)), .lit (.int .i64 0), .lit (.int .i64 1)]

/-- 'straitlaw07.RatTells': WHATEVER THE INPUT: true; the input reads as it did. -/
def ratTellsSpec : ChangeSpec := { name := "ratTells", fn := fun _ => fun
  | [d1, d2, d3, d4] => { results := [.lit (.bool true)], args := [d1, d2, d3, d4] }
  | _ => none }
def ratTellsRow : OpenClaim := { program := "ytafokgknenienaagreatdoor", sum := "837db06db00de0a937706bf4ede66392eafa795e0253af992f939bec9f1f95e7", func := "strait/straitlaw07.RatTells", spec := "ratTells", unfollowed := true, recurses := true, named := ["math/bits.deBruijn64tab", "math/bits.overflowError", "math/bits.deBruijn32tab", "strait/sint.signs"], apart := false, laid := [("math/bits.deBruijn32tab", laid_math_bits_deBruijn32tab), ("math/bits.deBruijn64tab", laid_math_bits_deBruijn64tab), ("strait/sint.signs", laid_strait_sint_signs)] }
def RatTellsSaid : Prop := ratTellsRow.holds Tryz.pinned (OpenSpec.ofChange ratTellsSpec)

/-- ITS FALSE NEIGHBOUR: 'it returns false'. Refute it at one input. -/
def ratTellsWrong : ChangeSpec := { name := "ratTells", fn := fun _ => fun
  | [d1, d2, d3, d4] => { results := [.lit (.bool false)], args := [d1, d2, d3, d4] }
  | _ => none }
def RatTellsWrongFalsely : Prop := ratTellsRow.holds Tryz.pinned (OpenSpec.ofChange ratTellsWrong)

/-- 'straitlaw07.RatBetween': WHATEVER THE INPUT: true; the input reads as it did. -/
def ratBetweenSpec : ChangeSpec := { name := "ratBetween", fn := fun _ => fun
  | [d1, d2] => { results := [.lit (.bool true)], args := [d1, d2] }
  | _ => none }
def ratBetweenRow : OpenClaim := { program := "ytafokgknenienaagreatdoor", sum := "837db06db00de0a937706bf4ede66392eafa795e0253af992f939bec9f1f95e7", func := "strait/straitlaw07.RatBetween", spec := "ratBetween", unfollowed := true, recurses := true, named := ["math/bits.deBruijn64tab", "math/bits.overflowError", "math/bits.deBruijn32tab", "strait/sint.signs"], apart := false, laid := [("math/bits.deBruijn32tab", laid_math_bits_deBruijn32tab), ("math/bits.deBruijn64tab", laid_math_bits_deBruijn64tab), ("strait/sint.signs", laid_strait_sint_signs)] }
def RatBetweenSaid : Prop := ratBetweenRow.holds Tryz.pinned (OpenSpec.ofChange ratBetweenSpec)

/-- ITS FALSE NEIGHBOUR: 'it returns false'. Refute it at one input. -/
def ratBetweenWrong : ChangeSpec := { name := "ratBetween", fn := fun _ => fun
  | [d1, d2] => { results := [.lit (.bool false)], args := [d1, d2] }
  | _ => none }
def RatBetweenWrongFalsely : Prop := ratBetweenRow.holds Tryz.pinned (OpenSpec.ofChange ratBetweenWrong)

/-- 'straitlaw08.VecTells': WHATEVER THE INPUT: true; the input reads as it did. -/
def vecTellsSpec : ChangeSpec := { name := "vecTells", fn := fun _ => fun
  | [d1, d2, d3, d4, d5, d6] => { results := [.lit (.bool true)], args := [d1, d2, d3, d4, d5, d6] }
  | _ => none }
def vecTellsRow : OpenClaim := { program := "ytafokgknenienaagreatdoor", sum := "837db06db00de0a937706bf4ede66392eafa795e0253af992f939bec9f1f95e7", func := "strait/straitlaw08.VecTells", spec := "vecTells", unfollowed := true, recurses := true, named := ["math/bits.deBruijn64tab", "math/bits.overflowError", "math/bits.deBruijn32tab", "strait/sint.signs"], apart := false, laid := [("math/bits.deBruijn32tab", laid_math_bits_deBruijn32tab), ("math/bits.deBruijn64tab", laid_math_bits_deBruijn64tab), ("strait/sint.signs", laid_strait_sint_signs)] }
def VecTellsSaid : Prop := vecTellsRow.holds Tryz.pinned (OpenSpec.ofChange vecTellsSpec)

/-- ITS FALSE NEIGHBOUR: 'it returns false'. Refute it at one input. -/
def vecTellsWrong : ChangeSpec := { name := "vecTells", fn := fun _ => fun
  | [d1, d2, d3, d4, d5, d6] => { results := [.lit (.bool false)], args := [d1, d2, d3, d4, d5, d6] }
  | _ => none }
def VecTellsWrongFalsely : Prop := vecTellsRow.holds Tryz.pinned (OpenSpec.ofChange vecTellsWrong)

/-- 'straitlaw08.VecCross': WHATEVER THE INPUT: true; the input reads as it did. -/
def vecCrossSpec : ChangeSpec := { name := "vecCross", fn := fun _ => fun
  | [d1, d2, d3, d4] => { results := [.lit (.bool true)], args := [d1, d2, d3, d4] }
  | _ => none }
def vecCrossRow : OpenClaim := { program := "ytafokgknenienaagreatdoor", sum := "837db06db00de0a937706bf4ede66392eafa795e0253af992f939bec9f1f95e7", func := "strait/straitlaw08.VecCross", spec := "vecCross", unfollowed := true, recurses := true, named := ["math/bits.deBruijn64tab", "math/bits.overflowError", "math/bits.deBruijn32tab", "strait/sint.signs"], apart := false, laid := [("math/bits.deBruijn32tab", laid_math_bits_deBruijn32tab), ("math/bits.deBruijn64tab", laid_math_bits_deBruijn64tab), ("strait/sint.signs", laid_strait_sint_signs)] }
def VecCrossSaid : Prop := vecCrossRow.holds Tryz.pinned (OpenSpec.ofChange vecCrossSpec)

/-- ITS FALSE NEIGHBOUR: 'it returns false'. Refute it at one input. -/
def vecCrossWrong : ChangeSpec := { name := "vecCross", fn := fun _ => fun
  | [d1, d2, d3, d4] => { results := [.lit (.bool false)], args := [d1, d2, d3, d4] }
  | _ => none }
def VecCrossWrongFalsely : Prop := vecCrossRow.holds Tryz.pinned (OpenSpec.ofChange vecCrossWrong)

/-- 'straitlaw08.VecWays': WHATEVER THE INPUT: true; the input reads as it did. -/
def vecWaysSpec : ChangeSpec := { name := "vecWays", fn := fun _ => fun
  | [d1, d2, d3, d4] => { results := [.lit (.bool true)], args := [d1, d2, d3, d4] }
  | _ => none }
def vecWaysRow : OpenClaim := { program := "ytafokgknenienaagreatdoor", sum := "837db06db00de0a937706bf4ede66392eafa795e0253af992f939bec9f1f95e7", func := "strait/straitlaw08.VecWays", spec := "vecWays", unfollowed := true, recurses := true, named := ["math/bits.deBruijn64tab", "math/bits.overflowError", "math/bits.deBruijn32tab", "strait/sint.signs"], apart := false, laid := [("math/bits.deBruijn32tab", laid_math_bits_deBruijn32tab), ("math/bits.deBruijn64tab", laid_math_bits_deBruijn64tab), ("strait/sint.signs", laid_strait_sint_signs)] }
def VecWaysSaid : Prop := vecWaysRow.holds Tryz.pinned (OpenSpec.ofChange vecWaysSpec)

/-- ITS FALSE NEIGHBOUR: 'it returns false'. Refute it at one input. -/
def vecWaysWrong : ChangeSpec := { name := "vecWays", fn := fun _ => fun
  | [d1, d2, d3, d4] => { results := [.lit (.bool false)], args := [d1, d2, d3, d4] }
  | _ => none }
def VecWaysWrongFalsely : Prop := vecWaysRow.holds Tryz.pinned (OpenSpec.ofChange vecWaysWrong)

/-- 'straitlaw08.VecOrder': WHATEVER THE INPUT: true; the input reads as it did. -/
def vecOrderSpec : ChangeSpec := { name := "vecOrder", fn := fun _ => fun
  | [d1, d2, d3] => { results := [.lit (.bool true)], args := [d1, d2, d3] }
  | _ => none }
def vecOrderRow : OpenClaim := { program := "ytafokgknenienaagreatdoor", sum := "837db06db00de0a937706bf4ede66392eafa795e0253af992f939bec9f1f95e7", func := "strait/straitlaw08.VecOrder", spec := "vecOrder", unfollowed := true, recurses := true, named := ["math/bits.deBruijn64tab", "math/bits.overflowError", "math/bits.deBruijn32tab", "strait/sint.signs"], apart := false, laid := [("math/bits.deBruijn32tab", laid_math_bits_deBruijn32tab), ("math/bits.deBruijn64tab", laid_math_bits_deBruijn64tab), ("strait/sint.signs", laid_strait_sint_signs)] }
def VecOrderSaid : Prop := vecOrderRow.holds Tryz.pinned (OpenSpec.ofChange vecOrderSpec)

/-- ITS FALSE NEIGHBOUR: 'it returns false'. Refute it at one input. -/
def vecOrderWrong : ChangeSpec := { name := "vecOrder", fn := fun _ => fun
  | [d1, d2, d3] => { results := [.lit (.bool false)], args := [d1, d2, d3] }
  | _ => none }
def VecOrderWrongFalsely : Prop := vecOrderRow.holds Tryz.pinned (OpenSpec.ofChange vecOrderWrong)

/- THE SECOND FORM. 'bulk': how many values and letters a reading holds, each counted each time it is reached (what is shared counts as often as it is met; a slice's spare places count too). A statement '..UptoSaid' is the law's where the arguments, and the package variables that the reading takes, are together of bulk at most 1048576: NARROWER than '..Said'. Prove '..Said' where nothing that the law and all that it calls make is longer than what came in: it says more and counts as full. Else prove '..UptoSaid'. A law counts once. -/
mutual
def uptoBulk {H : Type} : DataW H → Nat
  | .lit (.string bytes) => bytes.length + 1
  | .lit _ => 1
  | .nil => 1
  | .ptr d => uptoBulk d + 1
  | .slice elems spare => uptoBulkAll elems + uptoBulkAll spare + 1
  | .agg parts => uptoBulkAll parts + 1
  | .iface _ d => uptoBulk d + 1
  | .map entries => uptoBulkEntries entries + 1
  | .held _ => 1
def uptoBulkAll {H : Type} : List (DataW H) → Nat
  | [] => 0
  | d :: r => uptoBulk d + uptoBulkAll r
def uptoBulkEntries {H : Type} : List (Lit × DataW H) → Nat
  | [] => 0
  | x :: r => uptoBulkEntry x + uptoBulkEntries r
def uptoBulkEntry {H : Type} : Lit × DataW H → Nat
  | (.string bytes, d) => bytes.length + uptoBulk d + 1
  | (_, d) => uptoBulk d + 1
 end
def uptoSmall : (H : Type) → List (DataW H) → Bool := fun _ ds => decide (uptoBulkAll ds ≤ 1048576)
def OpenSpec.upto (s : _root_.Go.ChangeSpec) : _root_.Go.OpenSpec := { _root_.Go.OpenSpec.ofChange s with cond := some uptoSmall }

/-- 'straitlaw07.RatTells', WHERE WHAT IT READS IS OF BULK AT MOST 1048576: true; the input reads as it did. -/
def ratTellsUptoRow : OpenClaim := { program := "ytafokgknenienaagreatdoor", sum := "837db06db00de0a937706bf4ede66392eafa795e0253af992f939bec9f1f95e7", func := "strait/straitlaw07.RatTells", spec := "ratTells", unfollowed := true, recurses := true, named := ["math/bits.deBruijn64tab", "math/bits.overflowError", "math/bits.deBruijn32tab", "strait/sint.signs"], apart := false, laid := [("math/bits.deBruijn32tab", laid_math_bits_deBruijn32tab), ("math/bits.deBruijn64tab", laid_math_bits_deBruijn64tab), ("strait/sint.signs", laid_strait_sint_signs)], narrowed := true }
def RatTellsUptoSaid : Prop := ratTellsUptoRow.holds Tryz.pinned (OpenSpec.upto ratTellsSpec)

/-- 'straitlaw07.RatBetween', WHERE WHAT IT READS IS OF BULK AT MOST 1048576: true; the input reads as it did. -/
def ratBetweenUptoRow : OpenClaim := { program := "ytafokgknenienaagreatdoor", sum := "837db06db00de0a937706bf4ede66392eafa795e0253af992f939bec9f1f95e7", func := "strait/straitlaw07.RatBetween", spec := "ratBetween", unfollowed := true, recurses := true, named := ["math/bits.deBruijn64tab", "math/bits.overflowError", "math/bits.deBruijn32tab", "strait/sint.signs"], apart := false, laid := [("math/bits.deBruijn32tab", laid_math_bits_deBruijn32tab), ("math/bits.deBruijn64tab", laid_math_bits_deBruijn64tab), ("strait/sint.signs", laid_strait_sint_signs)], narrowed := true }
def RatBetweenUptoSaid : Prop := ratBetweenUptoRow.holds Tryz.pinned (OpenSpec.upto ratBetweenSpec)

/-- 'straitlaw08.VecTells', WHERE WHAT IT READS IS OF BULK AT MOST 1048576: true; the input reads as it did. -/
def vecTellsUptoRow : OpenClaim := { program := "ytafokgknenienaagreatdoor", sum := "837db06db00de0a937706bf4ede66392eafa795e0253af992f939bec9f1f95e7", func := "strait/straitlaw08.VecTells", spec := "vecTells", unfollowed := true, recurses := true, named := ["math/bits.deBruijn64tab", "math/bits.overflowError", "math/bits.deBruijn32tab", "strait/sint.signs"], apart := false, laid := [("math/bits.deBruijn32tab", laid_math_bits_deBruijn32tab), ("math/bits.deBruijn64tab", laid_math_bits_deBruijn64tab), ("strait/sint.signs", laid_strait_sint_signs)], narrowed := true }
def VecTellsUptoSaid : Prop := vecTellsUptoRow.holds Tryz.pinned (OpenSpec.upto vecTellsSpec)

/-- 'straitlaw08.VecCross', WHERE WHAT IT READS IS OF BULK AT MOST 1048576: true; the input reads as it did. -/
def vecCrossUptoRow : OpenClaim := { program := "ytafokgknenienaagreatdoor", sum := "837db06db00de0a937706bf4ede66392eafa795e0253af992f939bec9f1f95e7", func := "strait/straitlaw08.VecCross", spec := "vecCross", unfollowed := true, recurses := true, named := ["math/bits.deBruijn64tab", "math/bits.overflowError", "math/bits.deBruijn32tab", "strait/sint.signs"], apart := false, laid := [("math/bits.deBruijn32tab", laid_math_bits_deBruijn32tab), ("math/bits.deBruijn64tab", laid_math_bits_deBruijn64tab), ("strait/sint.signs", laid_strait_sint_signs)], narrowed := true }
def VecCrossUptoSaid : Prop := vecCrossUptoRow.holds Tryz.pinned (OpenSpec.upto vecCrossSpec)

/-- 'straitlaw08.VecWays', WHERE WHAT IT READS IS OF BULK AT MOST 1048576: true; the input reads as it did. -/
def vecWaysUptoRow : OpenClaim := { program := "ytafokgknenienaagreatdoor", sum := "837db06db00de0a937706bf4ede66392eafa795e0253af992f939bec9f1f95e7", func := "strait/straitlaw08.VecWays", spec := "vecWays", unfollowed := true, recurses := true, named := ["math/bits.deBruijn64tab", "math/bits.overflowError", "math/bits.deBruijn32tab", "strait/sint.signs"], apart := false, laid := [("math/bits.deBruijn32tab", laid_math_bits_deBruijn32tab), ("math/bits.deBruijn64tab", laid_math_bits_deBruijn64tab), ("strait/sint.signs", laid_strait_sint_signs)], narrowed := true }
def VecWaysUptoSaid : Prop := vecWaysUptoRow.holds Tryz.pinned (OpenSpec.upto vecWaysSpec)

/-- 'straitlaw08.VecOrder', WHERE WHAT IT READS IS OF BULK AT MOST 1048576: true; the input reads as it did. -/
def vecOrderUptoRow : OpenClaim := { program := "ytafokgknenienaagreatdoor", sum := "837db06db00de0a937706bf4ede66392eafa795e0253af992f939bec9f1f95e7", func := "strait/straitlaw08.VecOrder", spec := "vecOrder", unfollowed := true, recurses := true, named := ["math/bits.deBruijn64tab", "math/bits.overflowError", "math/bits.deBruijn32tab", "strait/sint.signs"], apart := false, laid := [("math/bits.deBruijn32tab", laid_math_bits_deBruijn32tab), ("math/bits.deBruijn64tab", laid_math_bits_deBruijn64tab), ("strait/sint.signs", laid_strait_sint_signs)], narrowed := true }
def VecOrderUptoSaid : Prop := vecOrderUptoRow.holds Tryz.pinned (OpenSpec.upto vecOrderSpec)

end Rows
end Go.Proofs.YtafokgknenienaaGreatDoor
