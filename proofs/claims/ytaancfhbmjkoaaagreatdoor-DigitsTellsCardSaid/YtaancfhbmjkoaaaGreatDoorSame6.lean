/- Contract of straitlaw06.same: the same integers? (of one sign) -/
import Derived.Test.YtaancfhbmjkoaaaGreatDoorDigM
import Derived.Test.YtaancfhbmjkoaaaGreatDoorSame4
namespace Go.Proofs.YtaancfhbmjkoaaaGreatDoor
open Go Go.RowKit
variable {w W : World} {e : List Num} {x y : Num}

set_option maxHeartbeats 1000000 in
theorem same6_E (b : Bool) (h : Env w e W) (hx : x ∈ e) (hy : y ∈ e) (hs : sameB x.n y.n x.N y.N = true) :
    Calls Tryz.prog 15 #[.agg #[.bool b, .slice x.A x.n x.c], .agg #[.bool b, .slice y.A y.n y.c]] W fun e' W' => e' = .returned (.bool true) ∧ Env w e W' := by
  have HE := (h.alloc (.cells #[.bool b, .slice x.A x.n x.c] 25)).alloc (.cells #[.bool b, .slice y.A y.n y.c] 25)
  have B1 := (Box2.new W 25 (.bool b) (.slice x.A x.n x.c)).alloc (.cells #[.bool b, .slice y.A y.n y.c] 25)
  have B2 := Box2.new (W.alloc (.cells #[.bool b, .slice x.A x.n x.c] 25)) 25 (.bool b) (.slice y.A y.n y.c)
  rw [World.size_alloc] at B2
  have ES := gSame_E HE hx hy
  rw [hs] at ES
  obtain ⟨W2, hW2⟩ : ∃ W2, (W.alloc (.cells #[.bool b, .slice x.A x.n x.c] 25)).alloc (.cells #[.bool b, .slice y.A y.n y.c] 25) = W2 := ⟨_, rfl⟩
  rw [hW2] at B1 B2 ES
  obtain ⟨c1, c2, -, -⟩ := B1.cells
  obtain ⟨d1, d2, -, -⟩ := B2.cells
  have HES := Lib.hid ES
  clear ES HE B1 B2 h hs
  cases b
  all_goals
    go_enter Tryz.func15, Tryz.ntmps15
    go_wp2_with fail
    refine HES.out.mono ?_
    rintro e' W' ⟨rfl, hE⟩
    go_wp2
    go_ret
    exact ⟨rfl, hE⟩
end Go.Proofs.YtaancfhbmjkoaaaGreatDoor
