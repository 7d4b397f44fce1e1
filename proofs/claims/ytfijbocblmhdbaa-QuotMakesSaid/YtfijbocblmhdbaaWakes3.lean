/- Contract of straitlaw03.wakes, over what the program's functions answer. -/
import Derived.Test.YtfijbocblmhdbaaQuotE
namespace Go.Proofs.Ytfijbocblmhdbaa
open Go Go.RowKit

theorem Env.lit2 {w W : World} {e : List Num} {a b g : Nat} {v u : Int} (h : Env w e W) (hv : v = (a : Int)) (hu : u = (b : Int)) (hg : W.heap.size = g) (ha : a < 4294967296) (hb : b < 4294967296) :
    Env w (⟨some ⟨g, 0, none⟩, 2, 2, a + 4294967296 * b⟩ :: e) (W.alloc (.cells #[.int .u32 v, .int .u32 u] 24)) := by
  subst hv hu hg
  refine (h.alloc _).add ⟨?_, Nat.le_refl _, by simp [maxLen], by simp⟩
  rw [World.size_alloc]
  refine (Fr.lit (lo := 0) (Nat.zero_le _) (by simp [Bw]; omega) (fun j hj => ?_)).rd
  have hj : j < 2 := hj
  rcases (show j = 0 ∨ j = 1 by omega) with rfl | rfl
  · simp [dig, Bw, Nat.mod_eq_of_lt ha]
  · have h1 : (a + 4294967296 * b) / 4294967296 = b := by omega
    simp [dig, Bw, h1, Nat.mod_eq_of_lt hb]

theorem divides2_E {w W : World} {e : List Num} {x y z : Num} {g : Nat} (S : QuotTold) (h : Env w e W) (hx : x ∈ e) (hy : y ∈ e) (hz : z ∈ e) (hg : W.heap.size = g) (bx : x.n ≤ 100000) (by' : y.n ≤ 100000) (bz : z.n ≤ 100000) :
    Calls Try.prog 15 #[.slice x.A x.n x.c, .slice (some ⟨g, 0, none⟩) 2 2] (W.alloc (.cells #[.slice y.A y.n y.c, .slice z.A z.n z.c] 23)) fun e' W' => e' = .returned (.bool (decide (x.N ∣ y.N ∧ x.N ∣ z.N))) ∧ Env w e W' := by
  subst hg
  have h1 := S.divides w _ e x (some ⟨W.heap.size, 0, none⟩) 2 [y, z] (h.alloc _) hx bx (Rds.two (t := 23) (h.2 y hy) (h.2 z hz)) (by simp) (by simp [maxLen]) (by simp) (by simp; exact ⟨by', bz⟩)
  simpa using h1

set_option maxRecDepth 100000 in
set_option maxHeartbeats 4000000 in
theorem wakes3_E {w W : World} {e : List Num} (S : QuotTold) (hE : Env w e W) : Calls Try.prog 7 #[] W fun e' W' => e' = .returned (.bool true) ∧ Env w e W' := by
  suffices Calls Try.prog 7 #[] W fun e' W' => e' = .returned (.bool true) ∧ Below W.heap.size W W' from this.mono fun _ _ ⟨he, hb⟩ => ⟨he, hE.step hb⟩
  clear hE
  have hE : Env W [] W := Env.start (by simp)
  have l3 : lenL (7 / 2) = 1 := by decide
  have l1 : lenL (restN 7 2) = 1 := by decide
  have l4 : lenL ((0 + 4294967296 * 1) / 10) = 1 := by decide
  replace l3 := Lib.hid l3
  replace l1 := Lib.hid l1
  replace l4 := Lib.hid l4
  go_enter Try.func7, Try.ntmps7
  go_wp2_with fail
  have hE1 := (hE.lit (N := 7) (v := 7) rfl rfl (by omega)).lit (N := 2) (v := 2) (g := W.heap.size + 1) rfl (by simp) (by omega)
  refine (S.div _ _ _ ⟨some ⟨W.heap.size, 0, none⟩, 1, 1, 7⟩ ⟨some ⟨W.heap.size + 1, 0, none⟩, 1, 1, 2⟩ hE1 (by simp) (by simp) (by simp) (by simp)).mono ?_
  rintro e1 W1 ⟨⟨qA, qn, qc, qN⟩, ⟨rA, rn, rc, rN⟩, rfl, hqN, hqn, hrN, hrn, hE2⟩
  obtain rfl : qN = 3 := hqN.trans (show (7 : Nat) / 2 = 3 from rfl)
  obtain rfl : rN = 1 := hrN.trans (show restN 7 2 = 1 from rfl)
  obtain rfl : qn = 1 := hqn.trans l3.out
  obtain rfl : rn = 1 := hrn.trans l1.out
  clear hqn hrn hqN hrN
  replace hE2 : Env W [⟨qA, 1, qc, 3⟩, ⟨rA, 1, rc, 1⟩] W1 := ⟨hE2.1, fun z hz => hE2.2 z (by simp at hz ⊢; rcases hz with rfl | rfl <;> simp)⟩
  rw [show zeroE (Num.mk (some ⟨W.heap.size + 1, 0, none⟩) 1 1 2).N = 0 from rfl]
  clear hE hE1
  go_wp2_with fail
  have hE3 := (hE2.lit (N := 7) (v := 7) rfl rfl (by omega)).lit2 (a := 0) (b := 0) (v := 0) (u := 0) (g := W1.heap.size + 1) rfl rfl (by simp) (by omega) (by omega)
  refine (S.div _ _ _ ⟨some ⟨W1.heap.size, 0, none⟩, 1, 1, 7⟩ ⟨some ⟨W1.heap.size + 1, 0, none⟩, 2, 2, 0 + 4294967296 * 0⟩ hE3 (by simp) (by simp) (by simp) (by simp)).mono ?_
  rintro e1 W2 ⟨⟨aA, an, ac, aN⟩, ⟨bA, bn, bc, bN⟩, rfl, _, _, _, _, hE4⟩
  replace hE4 : Env W [⟨qA, 1, qc, 3⟩, ⟨rA, 1, rc, 1⟩] W2 := ⟨hE4.1, fun z hz => hE4.2 z (by simp at hz ⊢; rcases hz with rfl | rfl <;> simp)⟩
  rw [show zeroE (Num.mk (some ⟨W1.heap.size + 1, 0, none⟩) 2 2 (0 + 4294967296 * 0)).N = 30 from rfl]
  clear hE2 hE3
  go_wp2_with fail
  have hE5 := hE4.lit2 (a := 0) (b := 1) (v := 0) (u := 1) rfl rfl rfl (by omega) (by omega)
  refine (S.short _ _ _ ⟨some ⟨W2.heap.size, 0, none⟩, 2, 2, 0 + 4294967296 * 1⟩ 10 hE5 (by simp) (by simp) (by omega)).mono ?_
  rintro e1 W3 ⟨⟨sA, sn, sc, sN⟩, rfl, hsN, hsn, hE6⟩
  obtain rfl : sN = 429496729 := hsN.trans (show (0 + 4294967296 * 1 : Nat) / 10 = 429496729 from rfl)
  obtain rfl : sn = 1 := hsn.trans l4.out
  clear hsN hsn
  replace hE6 : Env W [⟨qA, 1, qc, 3⟩, ⟨rA, 1, rc, 1⟩, ⟨sA, 1, sc, 429496729⟩] W3 := ⟨hE6.1, fun z hz => hE6.2 z (by simp at hz ⊢; rcases hz with rfl | rfl | rfl <;> simp)⟩
  rw [show zeroE 10 = 0 from rfl, show restN (Num.mk (some ⟨W2.heap.size, 0, none⟩) 2 2 (0 + 4294967296 * 1)).N 10 = 6 from (show restN (0 + 4294967296 * 1) 10 = 6 by decide)]
  clear hE4 hE5
  obtain ⟨g1, rfl, c1⟩ := one_cell (hE6.2 ⟨qA, 1, qc, 3⟩ (by simp)).1 rfl
  obtain ⟨g2, rfl, c2⟩ := one_cell (hE6.2 ⟨rA, 1, rc, 1⟩ (by simp)).1 rfl
  obtain ⟨g3, rfl, c3⟩ := one_cell (hE6.2 ⟨sA, 1, sc, 429496729⟩ (by simp)).1 rfl
  go_wp2_with fail
  have hE7 := (hE6.lit (N := 12) (v := 12) rfl rfl (by omega)).lit (N := 2) (v := 2) (g := W3.heap.size + 1) rfl (by simp) (by omega)
  refine (S.times _ _ _ ⟨some ⟨W3.heap.size, 0, none⟩, 1, 1, 12⟩ ⟨some ⟨W3.heap.size + 1, 0, none⟩, 1, 1, 2⟩ hE7 (by simp) (by simp) (by simp) (by simp)).mono ?_
  rintro e1 W4 ⟨k, rfl, hk, hE8⟩
  obtain rfl : k = 2 := times_12 hk
  replace hE8 : Env W [] W4 := ⟨hE8.1, by simp⟩
  clear hE6 hE7 c1 c2 c3 hk
  go_wp2_with fail
  have hE9 := ((hE8.lit (N := 3) (v := 3) rfl rfl (by omega)).lit (N := 12) (v := 12) (g := W4.heap.size + 1) rfl (by simp) (by omega)).nought
  refine (divides2_E (x := ⟨some ⟨W4.heap.size, 0, none⟩, 1, 1, 3⟩) (y := ⟨some ⟨W4.heap.size + 1, 0, none⟩, 1, 1, 12⟩) (z := ⟨none, 0, 0, 0⟩) S hE9 (by simp) (by simp) (by simp) (by simp) (by simp) (by simp) (by simp)).mono ?_
  rintro e1 W5 ⟨rfl, hEa⟩
  rw [decide_eq_true (show (3 : Nat) ∣ 12 ∧ (3 : Nat) ∣ 0 by decide)]
  clear hE9
  go_wp2
  go_ret
  exact ⟨rfl, hEa.1⟩
end Go.Proofs.Ytfijbocblmhdbaa
