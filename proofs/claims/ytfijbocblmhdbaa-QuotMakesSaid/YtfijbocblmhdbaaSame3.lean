/- Contract of straitlaw03.same: limb by limb the same? -/
import Derived.Test.YtfijbocblmhdbaaGRefA
namespace Go.Proofs.Ytfijbocblmhdbaa
open Go Go.RowKit

theorem same3_E {w W : World} {l : List Num} {x y : Num} (h : Env w l W) (hx : x ∈ l) (hy : y ∈ l) :
    Calls Try.prog 11 #[.slice x.A x.n x.c, .slice y.A y.n y.c] W fun e W' => e = .returned (.bool (sameB x.n y.n x.N y.N)) ∧ Env w l W' := by
  have hE := h
  go_enter Try.func11, Try.ntmps11
  go_wp2_with fail
  refine (rSame_E (x := x) (y := y) hE hx hy).mono ?_
  rintro e V1 ⟨rfl, hE1⟩
  go_wp2
  go_ret
  exact ⟨rfl, hE1⟩
end Go.Proofs.Ytfijbocblmhdbaa
