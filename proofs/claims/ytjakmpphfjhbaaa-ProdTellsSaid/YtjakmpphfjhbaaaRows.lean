/-
  No cell of these rows narrows 'for every input' (looked for: loops, veiled, ifaces, maps, wideKeys, modest, calm, conditions, laid).
  DERIVED. THE GIVEN ROWS OF THIS SEAT. 5 by the template 'for every input the law returns true; each argument reads behind the call as it read before'; 0 by the template 'total and deterministic' (their statements: YtjakmpphfjhbaaaTotals.lean).
  GIVEN WITH THE SEED: the statements are not yours to turn. If you find one false, say at which input.
  Laid BY PROGRAM, IN A SANDBOX (cutbox-rows.mjs): the forced cells as the released guide's own fill.sh prints them over the translation 893046bb2792c2a3… (all of the seat's roots in one cut). By AI agents, Wed Nov 11 2026. No macro, syntax, notation, axiom, sorry.
-/
import Derived.Test.YtjakmpphfjhbaaaChecked
import GoSem.Claim
import GoSem.ClaimJoined
import GoSem.ClaimMapViews
import Derived.JoinedTies
import Derived.KernelRfl
namespace Go.Proofs.Ytjakmpphfjhbaaa
/- THE CELL 'sum', in the pinned program and in every row, IS THE sha256 OF THE DUMP (.gsa) THAT YtjakmpphfjhbaaaProg.lean LOADS. Nothing in Lean hashes anything: it is a label: what it is worth is what the hold of that sum in a sandbox is worth. -/
noncomputable def Try.pinned : Pinned := { name := "ytjakmpphfjhbaaa", sum := "893046bb2792c2a3cba35e16323123cc7d6e2039a57f6d75719cfc3f9728c60f", checked := Try.checked }
namespace Rows
def none {H : Type} : Left H := { results := [], args := [] }

/-- 'straitlaw02.ProdTells': WHATEVER THE INPUT: true; the input reads as it did. -/
def prodTellsSpec : ChangeSpec := { name := "prodTells", fn := fun _ => fun
  | [d1, d2, d3, d4, d5] => { results := [.lit (.bool true)], args := [d1, d2, d3, d4, d5] }
  | _ => none }
def prodTellsRow : OpenClaim := { program := "ytjakmpphfjhbaaa", sum := "893046bb2792c2a3cba35e16323123cc7d6e2039a57f6d75719cfc3f9728c60f", func := "strait/straitlaw02.ProdTells", spec := "prodTells", unfollowed := true, recurses := true, apart := false }
def ProdTellsSaid : Prop := prodTellsRow.holds Try.pinned (OpenSpec.ofChange prodTellsSpec)

/-- ITS FALSE NEIGHBOUR: 'it returns false'. Refute it at one input. -/
def prodTellsWrong : ChangeSpec := { name := "prodTells", fn := fun _ => fun
  | [d1, d2, d3, d4, d5] => { results := [.lit (.bool false)], args := [d1, d2, d3, d4, d5] }
  | _ => none }
def ProdTellsWrongFalsely : Prop := prodTellsRow.holds Try.pinned (OpenSpec.ofChange prodTellsWrong)

/-- 'straitlaw02.ProdOrder': WHATEVER THE INPUT: true; the input reads as it did. -/
def prodOrderSpec : ChangeSpec := { name := "prodOrder", fn := fun _ => fun
  | [d1, d2, d3] => { results := [.lit (.bool true)], args := [d1, d2, d3] }
  | _ => none }
def prodOrderRow : OpenClaim := { program := "ytjakmpphfjhbaaa", sum := "893046bb2792c2a3cba35e16323123cc7d6e2039a57f6d75719cfc3f9728c60f", func := "strait/straitlaw02.ProdOrder", spec := "prodOrder", unfollowed := true, recurses := true, apart := false }
def ProdOrderSaid : Prop := prodOrderRow.holds Try.pinned (OpenSpec.ofChange prodOrderSpec)

/-- ITS FALSE NEIGHBOUR: 'it returns false'. Refute it at one input. -/
def prodOrderWrong : ChangeSpec := { name := "prodOrder", fn := fun _ => fun
  | [d1, d2, d3] => { results := [.lit (.bool false)], args := [d1, d2, d3] }
  | _ => none }
def ProdOrderWrongFalsely : Prop := prodOrderRow.holds Try.pinned (OpenSpec.ofChange prodOrderWrong)

/-- 'straitlaw02.ProdShifts': WHATEVER THE INPUT: true; the input reads as it did. -/
def prodShiftsSpec : ChangeSpec := { name := "prodShifts", fn := fun _ => fun
  | [d1, d2, d3] => { results := [.lit (.bool true)], args := [d1, d2, d3] }
  | _ => none }
def prodShiftsRow : OpenClaim := { program := "ytjakmpphfjhbaaa", sum := "893046bb2792c2a3cba35e16323123cc7d6e2039a57f6d75719cfc3f9728c60f", func := "strait/straitlaw02.ProdShifts", spec := "prodShifts", unfollowed := true, recurses := true, apart := false }
def ProdShiftsSaid : Prop := prodShiftsRow.holds Try.pinned (OpenSpec.ofChange prodShiftsSpec)

/-- ITS FALSE NEIGHBOUR: 'it returns false'. Refute it at one input. -/
def prodShiftsWrong : ChangeSpec := { name := "prodShifts", fn := fun _ => fun
  | [d1, d2, d3] => { results := [.lit (.bool false)], args := [d1, d2, d3] }
  | _ => none }
def ProdShiftsWrongFalsely : Prop := prodShiftsRow.holds Try.pinned (OpenSpec.ofChange prodShiftsWrong)

/-- 'straitlaw02.ProdBits': WHATEVER THE INPUT: true; the input reads as it did. -/
def prodBitsSpec : ChangeSpec := { name := "prodBits", fn := fun _ => fun
  | [d1, d2] => { results := [.lit (.bool true)], args := [d1, d2] }
  | _ => none }
def prodBitsRow : OpenClaim := { program := "ytjakmpphfjhbaaa", sum := "893046bb2792c2a3cba35e16323123cc7d6e2039a57f6d75719cfc3f9728c60f", func := "strait/straitlaw02.ProdBits", spec := "prodBits", unfollowed := true, recurses := true, apart := false }
def ProdBitsSaid : Prop := prodBitsRow.holds Try.pinned (OpenSpec.ofChange prodBitsSpec)

/-- ITS FALSE NEIGHBOUR: 'it returns false'. Refute it at one input. -/
def prodBitsWrong : ChangeSpec := { name := "prodBits", fn := fun _ => fun
  | [d1, d2] => { results := [.lit (.bool false)], args := [d1, d2] }
  | _ => none }
def ProdBitsWrongFalsely : Prop := prodBitsRow.holds Try.pinned (OpenSpec.ofChange prodBitsWrong)

/-- 'straitlaw02.ProdPowers': WHATEVER THE INPUT: true; the input reads as it did. -/
def prodPowersSpec : ChangeSpec := { name := "prodPowers", fn := fun _ => fun
  | [d1, d2, d3] => { results := [.lit (.bool true)], args := [d1, d2, d3] }
  | _ => none }
def prodPowersRow : OpenClaim := { program := "ytjakmpphfjhbaaa", sum := "893046bb2792c2a3cba35e16323123cc7d6e2039a57f6d75719cfc3f9728c60f", func := "strait/straitlaw02.ProdPowers", spec := "prodPowers", unfollowed := true, recurses := true, apart := false }
def ProdPowersSaid : Prop := prodPowersRow.holds Try.pinned (OpenSpec.ofChange prodPowersSpec)

/-- ITS FALSE NEIGHBOUR: 'it returns false'. Refute it at one input. -/
def prodPowersWrong : ChangeSpec := { name := "prodPowers", fn := fun _ => fun
  | [d1, d2, d3] => { results := [.lit (.bool false)], args := [d1, d2, d3] }
  | _ => none }
def ProdPowersWrongFalsely : Prop := prodPowersRow.holds Try.pinned (OpenSpec.ofChange prodPowersWrong)

/- THE SECOND FORM. 'bulk': how many values and letters a reading holds, each counted each time it is reached (what is shared counts as often as it is met; a slice's spare places count too). A statement '..UptoSaid' is the law's where the arguments, and the package variables that the reading takes, are together of bulk at most 1048576: NARROWER than '..Said'. Prove '..Said' where nothing that the law and all that it calls make is longer than what came in: it says more and counts as full. Else prove '..UptoSaid'. A law counts once. -/
mutual
def uptoBulk {H : Type} : DataW H → Nat
  | .lit (.string bytes) => bytes.length + 1
  | .lit _ => 1
  | .nil => 1
  | .ptr d => uptoBulk d + 1
  | .slice elems spare => uptoBulkAll elems + uptoBulkAll spare + 1
  | .agg parts => uptoBulkAll parts + 1
  | .iface _ d => uptoBulk d + 1
  | .map entries => uptoBulkEntries entries + 1
  | .held _ => 1
def uptoBulkAll {H : Type} : List (DataW H) → Nat
  | [] => 0
  | d :: r => uptoBulk d + uptoBulkAll r
def uptoBulkEntries {H : Type} : List (Lit × DataW H) → Nat
  | [] => 0
  | x :: r => uptoBulkEntry x + uptoBulkEntries r
def uptoBulkEntry {H : Type} : Lit × DataW H → Nat
  | (.string bytes, d) => bytes.length + uptoBulk d + 1
  | (_, d) => uptoBulk d + 1
 end
def uptoSmall : (H : Type) → List (DataW H) → Bool := fun _ ds => decide (uptoBulkAll ds ≤ 1048576)
def OpenSpec.upto (s : _root_.Go.ChangeSpec) : _root_.Go.OpenSpec := { _root_.Go.OpenSpec.ofChange s with cond := some uptoSmall }

/-- 'straitlaw02.ProdTells', WHERE WHAT IT READS IS OF BULK AT MOST 1048576: true; the input reads as it did. -/
def prodTellsUptoRow : OpenClaim := { program := "ytjakmpphfjhbaaa", sum := "893046bb2792c2a3cba35e16323123cc7d6e2039a57f6d75719cfc3f9728c60f", func := "strait/straitlaw02.ProdTells", spec := "prodTells", unfollowed := true, recurses := true, apart := false, narrowed := true }
def ProdTellsUptoSaid : Prop := prodTellsUptoRow.holds Try.pinned (OpenSpec.upto prodTellsSpec)

/-- 'straitlaw02.ProdOrder', WHERE WHAT IT READS IS OF BULK AT MOST 1048576: true; the input reads as it did. -/
def prodOrderUptoRow : OpenClaim := { program := "ytjakmpphfjhbaaa", sum := "893046bb2792c2a3cba35e16323123cc7d6e2039a57f6d75719cfc3f9728c60f", func := "strait/straitlaw02.ProdOrder", spec := "prodOrder", unfollowed := true, recurses := true, apart := false, narrowed := true }
def ProdOrderUptoSaid : Prop := prodOrderUptoRow.holds Try.pinned (OpenSpec.upto prodOrderSpec)

/-- 'straitlaw02.ProdShifts', WHERE WHAT IT READS IS OF BULK AT MOST 1048576: true; the input reads as it did. -/
def prodShiftsUptoRow : OpenClaim := { program := "ytjakmpphfjhbaaa", sum := "893046bb2792c2a3cba35e16323123cc7d6e2039a57f6d75719cfc3f9728c60f", func := "strait/straitlaw02.ProdShifts", spec := "prodShifts", unfollowed := true, recurses := true, apart := false, narrowed := true }
def ProdShiftsUptoSaid : Prop := prodShiftsUptoRow.holds Try.pinned (OpenSpec.upto prodShiftsSpec)

/-- 'straitlaw02.ProdBits', WHERE WHAT IT READS IS OF BULK AT MOST 1048576: true; the input reads as it did. -/
def prodBitsUptoRow : OpenClaim := { program := "ytjakmpphfjhbaaa", sum := "893046bb2792c2a3cba35e16323123cc7d6e2039a57f6d75719cfc3f9728c60f", func := "strait/straitlaw02.ProdBits", spec := "prodBits", unfollowed := true, recurses := true, apart := false, narrowed := true }
def ProdBitsUptoSaid : Prop := prodBitsUptoRow.holds Try.pinned (OpenSpec.upto prodBitsSpec)

/-- 'straitlaw02.ProdPowers', WHERE WHAT IT READS IS OF BULK AT MOST 1048576: true; the input reads as it did. -/
def prodPowersUptoRow : OpenClaim := { program := "ytjakmpphfjhbaaa", sum := "893046bb2792c2a3cba35e16323123cc7d6e2039a57f6d75719cfc3f9728c60f", func := "strait/straitlaw02.ProdPowers", spec := "prodPowers", unfollowed := true, recurses := true, apart := false, narrowed := true }
def ProdPowersUptoSaid : Prop := prodPowersUptoRow.holds Try.pinned (OpenSpec.upto prodPowersSpec)

end Rows
end Go.Proofs.Ytjakmpphfjhbaaa
