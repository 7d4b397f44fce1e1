/- Contract of the reference's Cmp of layer 1. -/
import Derived.Test.YtjakmpphfjhbaaaRLimb
namespace Go.Proofs.Ytjakmpphfjhbaaa
open Go Go.RowKit

set_option maxHeartbeats 1000000 in
theorem rCmp_any (w : World) (hi hi' : Nat) (A A' : Option Addr) (n n' c c' N N' : Nat) (hA : Rd w hi A n N) (hA' : Rd w hi' A' n' N') (hn : n ≤ 9223372036854775806) (hn' : n' ≤ 9223372036854775806) :
    Calls Try.prog 28 #[.slice A n c, .slice A' n' c'] w fun e w' => e = .returned (.int .i64 (cmpN N N')) ∧ w = w' := by
  have hmx : ∀ j, max n n' ≤ j → dig N j = dig N' j := fun j hj => by rw [dig_ge hA.1 (by omega), dig_ge hA'.1 (by omega)]
  have HX := Lib.hid hmx
  have HB := Lib.hid hA.1
  have HB' := Lib.hid hA'.1
  have hm2 : max n n' ≤ 9223372036854775806 := by omega
  clear hmx
  go_enter Try.func28, Try.ntmps28
  go_wp2
  all_goals
    go_loop [5] (fun i => DownAt (fun s => Hid (∀ j, s ≤ j → dig N j = dig N' j)) i) (fun i => (intOf i + 1).toNat)
    case atStart =>
      first
      | exact downAt n' hn' (Lib.hid fun j hj => HX.out j (by omega))
      | exact downAt n hn (Lib.hid fun j hj => HX.out j (by omega))
    case round =>
      rcases hrel with ⟨rfl, hP⟩ | ⟨j, hj, rfl, hP⟩
      · have HN := Lib.hid (eq_of_digs2 HB.out HB'.out (fun j => hP.out j (Nat.zero_le _)))
        go_wp2
        go_ret
        exact ⟨by rw [← HN.out, cmpN_eq]; rfl, rfl⟩
      · have e1 := rlimb_any w hi A n c N hA j
        have e2 := rlimb_any w hi' A' n' c' N' hA' j
        have h1 := dig_lt N j
        have h2 := dig_lt N' j
        have E1 := Lib.hid e1
        have E2 := Lib.hid e2
        clear e1 e2
        rcases Nat.lt_trichotomy (dig N j) (dig N' j) with hlt | heq | hgt
        · have HN := Lib.hid (cmpN_lt (lt_of_digs2 HB.out HB'.out (fun i hi => hP.out i (by omega)) hlt))
          go_wp2_with (first
            | (go_at_call 43; (with_reducible refine E1.out.mono ?_); rintro e w' ⟨rfl, rfl⟩)
            | (go_at_call 43; (with_reducible refine E2.out.mono ?_); rintro e w' ⟨rfl, rfl⟩))
          go_ret
          exact ⟨by rw [HN.out]; rfl, rfl⟩
        · have HE := Lib.hid heq
          rw [heq] at E1
          clear heq h1
          go_wp2_with (first
            | (go_at_call 43; (with_reducible refine E1.out.mono ?_); rintro e w' ⟨rfl, rfl⟩)
            | (go_at_call 43; (with_reducible refine E2.out.mono ?_); rintro e w' ⟨rfl, rfl⟩))
          go_round
          case rel => exact downAt j (by omega) (Lib.hid fun i hi => by
            rcases Nat.lt_or_ge j i with h1 | h1
            · exact hP.out i (by omega)
            · obtain rfl : i = j := by omega
              exact HE.out)
          case measure => simp [intOf]
        · have HN := Lib.hid (cmpN_gt (lt_of_digs2 HB'.out HB.out (fun i hi => (hP.out i (by omega)).symm) hgt))
          go_wp2_with (first
            | (go_at_call 43; (with_reducible refine E1.out.mono ?_); rintro e w' ⟨rfl, rfl⟩)
            | (go_at_call 43; (with_reducible refine E2.out.mono ?_); rintro e w' ⟨rfl, rfl⟩))
          go_ret
          exact ⟨by rw [HN.out]; rfl, rfl⟩

section
variable {w W : World} {e : List Num} {x y : Num}
theorem rCmp_E (h : Env w e W) (hx : x ∈ e) (hy : y ∈ e) :
    Calls Try.prog 28 #[.slice x.A x.n x.c, .slice y.A y.n y.c] W fun e' W' => e' = .returned (.int .i64 (cmpN x.N y.N)) ∧ Env w e W' :=
  (rCmp_any W _ _ _ _ _ _ _ _ _ _ (h.2 x hx).1 (h.2 y hy).1 (big (h.2 x hx).2.2.2) (big (h.2 y hy).2.2.2)).mono fun _ _ ⟨he, hb⟩ => ⟨he, by rw [← hb]; exact h⟩

end
end Go.Proofs.Ytjakmpphfjhbaaa
