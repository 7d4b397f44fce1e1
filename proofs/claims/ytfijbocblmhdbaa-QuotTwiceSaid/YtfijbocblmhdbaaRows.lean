/-
  No cell of these rows narrows 'for every input' (looked for: loops, veiled, ifaces, maps, wideKeys, modest, calm, conditions, laid).
  DERIVED. THE GIVEN ROWS OF THIS SEAT. 3 by the template 'for every input the law returns true; each argument reads behind the call as it read before'; 0 by the template 'total and deterministic' (their statements: YtfijbocblmhdbaaTotals.lean).
  GIVEN WITH THE SEED: the statements are not yours to turn. If you find one false, say at which input.
  Laid BY PROGRAM, IN A SANDBOX (cutbox-rows.mjs): the forced cells as the released guide's own fill.sh prints them over the translation 7fdaaa49c3856237… (all of the seat's roots in one cut). By AI agents, Wed Nov 11 2026. No macro, syntax, notation, axiom, sorry.
-/
import Derived.Test.YtfijbocblmhdbaaChecked
import GoSem.Claim
import GoSem.ClaimJoined
import GoSem.ClaimMapViews
import Derived.JoinedTies
import Derived.KernelRfl
namespace Go.Proofs.Ytfijbocblmhdbaa
/- THE CELL 'sum', in the pinned program and in every row, IS THE sha256 OF THE DUMP (.gsa) THAT YtfijbocblmhdbaaProg.lean LOADS. Nothing in Lean hashes anything: it is a label: what it is worth is what the hold of that sum in a sandbox is worth. -/
noncomputable def Try.pinned : Pinned := { name := "ytfijbocblmhdbaa", sum := "7fdaaa49c3856237596e918a65cf7b7b0a49beb1237fd5a83fe3cfbb6f989975", checked := Try.checked }
namespace Rows
def none {H : Type} : Left H := { results := [], args := [] }

/-- 'straitlaw03.QuotBack': WHATEVER THE INPUT: true; the input reads as it did. -/
def quotBackSpec : ChangeSpec := { name := "quotBack", fn := fun _ => fun
  | [d1, d2, d3] => { results := [.lit (.bool true)], args := [d1, d2, d3] }
  | _ => none }
def quotBackRow : OpenClaim := { program := "ytfijbocblmhdbaa", sum := "7fdaaa49c3856237596e918a65cf7b7b0a49beb1237fd5a83fe3cfbb6f989975", func := "strait/straitlaw03.QuotBack", spec := "quotBack", unfollowed := true, recurses := true, named := ["math/bits.overflowError"], apart := false }
def QuotBackSaid : Prop := quotBackRow.holds Try.pinned (OpenSpec.ofChange quotBackSpec)

/-- ITS FALSE NEIGHBOUR: 'it returns false'. Refute it at one input. -/
def quotBackWrong : ChangeSpec := { name := "quotBack", fn := fun _ => fun
  | [d1, d2, d3] => { results := [.lit (.bool false)], args := [d1, d2, d3] }
  | _ => none }
def QuotBackWrongFalsely : Prop := quotBackRow.holds Try.pinned (OpenSpec.ofChange quotBackWrong)

/-- 'straitlaw03.QuotMakes': WHATEVER THE INPUT: true; the input reads as it did. -/
def quotMakesSpec : ChangeSpec := { name := "quotMakes", fn := fun _ => fun
  | [d1, d2, d3] => { results := [.lit (.bool true)], args := [d1, d2, d3] }
  | _ => none }
def quotMakesRow : OpenClaim := { program := "ytfijbocblmhdbaa", sum := "7fdaaa49c3856237596e918a65cf7b7b0a49beb1237fd5a83fe3cfbb6f989975", func := "strait/straitlaw03.QuotMakes", spec := "quotMakes", unfollowed := true, recurses := true, named := ["math/bits.overflowError"], apart := false }
def QuotMakesSaid : Prop := quotMakesRow.holds Try.pinned (OpenSpec.ofChange quotMakesSpec)

/-- ITS FALSE NEIGHBOUR: 'it returns false'. Refute it at one input. -/
def quotMakesWrong : ChangeSpec := { name := "quotMakes", fn := fun _ => fun
  | [d1, d2, d3] => { results := [.lit (.bool false)], args := [d1, d2, d3] }
  | _ => none }
def QuotMakesWrongFalsely : Prop := quotMakesRow.holds Try.pinned (OpenSpec.ofChange quotMakesWrong)

/-- 'straitlaw03.QuotTwice': WHATEVER THE INPUT: true; the input reads as it did. -/
def quotTwiceSpec : ChangeSpec := { name := "quotTwice", fn := fun _ => fun
  | [d1, d2, d3] => { results := [.lit (.bool true)], args := [d1, d2, d3] }
  | _ => none }
def quotTwiceRow : OpenClaim := { program := "ytfijbocblmhdbaa", sum := "7fdaaa49c3856237596e918a65cf7b7b0a49beb1237fd5a83fe3cfbb6f989975", func := "strait/straitlaw03.QuotTwice", spec := "quotTwice", unfollowed := true, recurses := true, named := ["math/bits.overflowError"], apart := false }
def QuotTwiceSaid : Prop := quotTwiceRow.holds Try.pinned (OpenSpec.ofChange quotTwiceSpec)

/-- ITS FALSE NEIGHBOUR: 'it returns false'. Refute it at one input. -/
def quotTwiceWrong : ChangeSpec := { name := "quotTwice", fn := fun _ => fun
  | [d1, d2, d3] => { results := [.lit (.bool false)], args := [d1, d2, d3] }
  | _ => none }
def QuotTwiceWrongFalsely : Prop := quotTwiceRow.holds Try.pinned (OpenSpec.ofChange quotTwiceWrong)

/- THE SECOND FORM. 'bulk': how many values and letters a reading holds, each counted each time it is reached (what is shared counts as often as it is met; a slice's spare places count too). A statement '..UptoSaid' is the law's where the arguments, and the package variables that the reading takes, are together of bulk at most 1048576: NARROWER than '..Said'. Prove '..Said' where nothing that the law and all that it calls make is longer than what came in: it says more and counts as full. Else prove '..UptoSaid'. A law counts once. -/
mutual
def uptoBulk {H : Type} : DataW H → Nat
  | .lit (.string bytes) => bytes.length + 1
  | .lit _ => 1
  | .nil => 1
  | .ptr d => uptoBulk d + 1
  | .slice elems spare => uptoBulkAll elems + uptoBulkAll spare + 1
  | .agg parts => uptoBulkAll parts + 1
  | .iface _ d => uptoBulk d + 1
  | .map entries => uptoBulkEntries entries + 1
  | .held _ => 1
def uptoBulkAll {H : Type} : List (DataW H) → Nat
  | [] => 0
  | d :: r => uptoBulk d + uptoBulkAll r
def uptoBulkEntries {H : Type} : List (Lit × DataW H) → Nat
  | [] => 0
  | x :: r => uptoBulkEntry x + uptoBulkEntries r
def uptoBulkEntry {H : Type} : Lit × DataW H → Nat
  | (.string bytes, d) => bytes.length + uptoBulk d + 1
  | (_, d) => uptoBulk d + 1
 end
def uptoSmall : (H : Type) → List (DataW H) → Bool := fun _ ds => decide (uptoBulkAll ds ≤ 1048576)
def OpenSpec.upto (s : _root_.Go.ChangeSpec) : _root_.Go.OpenSpec := { _root_.Go.OpenSpec.ofChange s with cond := some uptoSmall }

/-- 'straitlaw03.QuotBack', WHERE WHAT IT READS IS OF BULK AT MOST 1048576: true; the input reads as it did. -/
def quotBackUptoRow : OpenClaim := { program := "ytfijbocblmhdbaa", sum := "7fdaaa49c3856237596e918a65cf7b7b0a49beb1237fd5a83fe3cfbb6f989975", func := "strait/straitlaw03.QuotBack", spec := "quotBack", unfollowed := true, recurses := true, named := ["math/bits.overflowError"], apart := false, narrowed := true }
def QuotBackUptoSaid : Prop := quotBackUptoRow.holds Try.pinned (OpenSpec.upto quotBackSpec)

/-- 'straitlaw03.QuotMakes', WHERE WHAT IT READS IS OF BULK AT MOST 1048576: true; the input reads as it did. -/
def quotMakesUptoRow : OpenClaim := { program := "ytfijbocblmhdbaa", sum := "7fdaaa49c3856237596e918a65cf7b7b0a49beb1237fd5a83fe3cfbb6f989975", func := "strait/straitlaw03.QuotMakes", spec := "quotMakes", unfollowed := true, recurses := true, named := ["math/bits.overflowError"], apart := false, narrowed := true }
def QuotMakesUptoSaid : Prop := quotMakesUptoRow.holds Try.pinned (OpenSpec.upto quotMakesSpec)

/-- 'straitlaw03.QuotTwice', WHERE WHAT IT READS IS OF BULK AT MOST 1048576: true; the input reads as it did. -/
def quotTwiceUptoRow : OpenClaim := { program := "ytfijbocblmhdbaa", sum := "7fdaaa49c3856237596e918a65cf7b7b0a49beb1237fd5a83fe3cfbb6f989975", func := "strait/straitlaw03.QuotTwice", spec := "quotTwice", unfollowed := true, recurses := true, named := ["math/bits.overflowError"], apart := false, narrowed := true }
def QuotTwiceUptoSaid : Prop := quotTwiceUptoRow.holds Try.pinned (OpenSpec.upto quotTwiceSpec)

end Rows
end Go.Proofs.Ytfijbocblmhdbaa
