/- Contract of the reference's Great of layer 4: at most 12 numbers, of at most 12 limbs each. -/
import Derived.Test.YtaancfhbmjkoaaaGreatDoorGNum
namespace Go.Proofs.YtaancfhbmjkoaaaGreatDoor
open Go Go.RowKit

def great4 (l : List Num) : Bool := decide ((∃ x ∈ l.take 13, 12 < x.n) ∨ 12 < l.length)
theorem great4_false {l : List Num} (h : great4 l = false) : l.length ≤ 12 ∧ ∀ x ∈ l, x.n ≤ 12 := by
  unfold great4 at h
  rw [decide_eq_false_iff_not, not_or] at h
  have h2 : l.length ≤ 12 := by omega
  refine ⟨h2, fun x hx => ?_⟩
  rw [List.take_of_length_le (by omega)] at h
  exact Nat.le_of_not_lt fun h3 => h.1 ⟨x, hx, h3⟩

set_option maxHeartbeats 1000000 in
theorem great4_any (w : World) (hi : Nat) (A : Option Addr) (c : Nat) (l : List Num) (h : Rds w hi A l) (hl : l.length ≤ 100000000000000) :
    Calls Tryz.prog 8 #[.slice A l.length c] w fun e w' => e = .returned (.bool (great4 l)) ∧ w = w' := by
  go_enter Tryz.func8, Tryz.ntmps8
  go_wp2
  go_loop [3] (fun i => ∃ k : Nat, k ≤ l.length ∧ k ≤ 13 ∧ i = .int .i64 k ∧ Hid (∀ x ∈ l.take k, x.n ≤ 12)) (fun i => 14 - (intOf i).toNat)
  case atStart => exact ⟨0, Nat.zero_le _, by omega, rfl, Lib.hid (by simp)⟩
  case round =>
    obtain ⟨k, hk, hk2, rfl, ha⟩ := hrel
    by_cases hlt : k < l.length
    · by_cases h13 : k ≤ 12
      · obtain ⟨⟨ad, rfl, _, hc⟩, _⟩ := h k hlt
        by_cases hx : 12 < l[k].n
        · have HG := Lib.hid (show great4 l = true by
            unfold great4
            rw [decide_eq_true_iff]
            exact .inl ⟨l[k], List.mem_take_iff_getElem.2 ⟨k, by omega, rfl⟩, hx⟩)
          go_wp2
          go_ret
          exact ⟨by rw [HG.out]; rfl, rfl⟩
        · have hN := Lib.hid (show ∀ x ∈ l.take (k + 1), x.n ≤ 12 by
            intro x hx2
            rw [List.take_succ_eq_append_getElem hlt, List.mem_append] at hx2
            rcases hx2 with h1 | h1
            · exact ha.out x h1
            · rw [List.mem_singleton] at h1
              subst h1
              omega)
          go_wp2
          go_round
          case rel => exact ⟨k + 1, by omega, by omega, by go_num, hN⟩
          case measure => simp [intOf]; omega
      · have HG := Lib.hid (show great4 l = true by
          unfold great4
          rw [decide_eq_true_iff]
          exact .inr (by omega))
        go_wp2
        all_goals (go_ret; exact ⟨ret_bool (by rw [HG.out]; simp; omega), rfl⟩)
    · obtain rfl : k = l.length := by omega
      have HG := Lib.hid (show great4 l = decide (12 < l.length) by
        unfold great4
        rw [decide_eq_decide]
        refine ⟨fun h1 => ?_, fun h1 => .inr h1⟩
        rcases h1 with ⟨x, hx, h2⟩ | h1
        · have := ha.out x (by
            rw [List.take_of_length_le (Nat.le_refl _)]
            exact List.mem_of_mem_take hx)
          omega
        · exact h1)
      go_wp2
      all_goals (go_ret; exact ⟨ret_bool (by rw [HG.out]; first | rfl | (simp; done) | (simp; omega)), rfl⟩)

section
variable {w W : World} {e l : List Num} {x y : Num}
theorem great4_E2 {g : Nat} (h : Env w e W) (hx : x ∈ e) (hy : y ∈ e) (hg : W.heap.size = g) :
    Calls Tryz.prog 8 #[.slice (some ⟨g, 0, none⟩) 2 2] (W.alloc (.cells #[.slice x.A x.n x.c, .slice y.A y.n y.c] 23)) fun e' W' => e' = .returned (.bool (great4 [x, y])) ∧ Env w e W' := by
  subst hg
  refine (great4_any _ _ _ 2 [x, y] (Rds.two (h.2 x hx) (h.2 y hy)) (by simp)).mono fun e w' ⟨he, hw⟩ => ⟨he, ?_⟩
  rw [← hw]
  exact h.alloc _
theorem great4_EL {A : Option Addr} {c : Nat} (h : Env w e W) (hR : Rds W W.heap.size A l) (hl : l.length ≤ 100000000000000) :
    Calls Tryz.prog 8 #[.slice A l.length c] W fun e' W' => e' = .returned (.bool (great4 l)) ∧ Env w e W' :=
  (great4_any W _ A c l hR hl).mono fun _ _ ⟨he, hw⟩ => ⟨he, by rw [← hw]; exact h⟩
theorem size4_2 (h : great4 [x, y] = false) : x.n ≤ 12 ∧ y.n ≤ 12 := ⟨(great4_false h).2 x (by simp), (great4_false h).2 y (by simp)⟩
end
end Go.Proofs.YtaancfhbmjkoaaaGreatDoor
