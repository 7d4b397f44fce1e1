/- Contract of straitlaw04.wakes, over what the program's functions answer. -/
import Derived.Test.YtkijjcladecooaaDoorGcdE
namespace Go.Proofs.YtkijjcladecooaaDoor
open Go Go.RowKit

set_option maxRecDepth 100000 in
set_option maxHeartbeats 4000000 in
theorem wakes4_E {w W : World} {e : List Num} (S : GcdTold w) (hE : Env w e W) : Calls Tryd.prog 9 #[] W fun e' W' => e' = .returned (.bool true) ∧ Env w e W' := by
  have l1 := Lib.hid (show lenL (Nat.gcd 12 18) = 1 by decide)
  have l2 := Lib.hid (show lenL (12 / Nat.gcd 12 18) = 1 by decide)
  have l3 := Lib.hid (show lenL (18 / Nat.gcd 12 18) = 1 by decide)
  have l4 := Lib.hid (show lenL (4 / Nat.gcd 4 6 * 6) = 1 by decide)
  go_enter Tryd.func9, Tryd.ntmps9
  go_wp2_with fail
  have hE1 := (hE.lit (N := 12) (v := 12) rfl rfl (by omega)).lit (N := 18) (v := 18) (g := W.heap.size + 1) rfl (by simp) (by omega)
  refine (S.gcd _ _ ⟨some ⟨W.heap.size, 0, none⟩, 1, 1, 12⟩ ⟨some ⟨W.heap.size + 1, 0, none⟩, 1, 1, 18⟩ hE1 (by simp) (by simp) (by simp) (by simp)).mono ?_
  rintro e1 W1 ⟨⟨gA, gn, gc, gN⟩, rfl, hgN, hgn, hE2⟩
  obtain rfl : gN = 6 := hgN.trans (show Nat.gcd 12 18 = 6 by decide)
  obtain rfl : gn = 1 := hgn.trans l1.out
  replace hE2 : Env w (⟨gA, 1, gc, 6⟩ :: e) W1 := hE2.pick (by intro z hz; simp only [List.mem_cons] at hz ⊢; rcases hz with rfl | hz <;> simp [*])
  clear hE hE1 hgn hgN
  go_wp2_with fail
  have hE3 := (hE2.lit (N := 12) (v := 12) rfl rfl (by omega)).lit (N := 18) (v := 18) (g := W1.heap.size + 1) rfl (by simp) (by omega)
  refine (S.reduce _ _ ⟨some ⟨W1.heap.size, 0, none⟩, 1, 1, 12⟩ ⟨some ⟨W1.heap.size + 1, 0, none⟩, 1, 1, 18⟩ hE3 (by simp) (by simp) (by simp) (by simp)).mono ?_
  rintro e1 W2 ⟨⟨pA, pn, pc, pN⟩, ⟨qA, qn, qc, qN⟩, rfl, hpN, hpn, hqN, hqn, hE4⟩
  obtain rfl : pN = 2 := hpN.trans (show 12 / Nat.gcd 12 18 = 2 by decide)
  obtain rfl : qN = 3 := hqN.trans (show 18 / Nat.gcd 12 18 = 3 by decide)
  obtain rfl : pn = 1 := hpn.trans l2.out
  obtain rfl : qn = 1 := hqn.trans l3.out
  replace hE4 : Env w (⟨pA, 1, pc, 2⟩ :: ⟨qA, 1, qc, 3⟩ :: ⟨gA, 1, gc, 6⟩ :: e) W2 := hE4.pick (by intro z hz; simp only [List.mem_cons] at hz ⊢; rcases hz with rfl | rfl | rfl | hz <;> simp [*])
  clear hE2 hE3 hpN hpn hqN hqn
  go_wp2_with fail
  have hE5 := (hE4.lit (N := 4) (v := 4) rfl rfl (by omega)).lit (N := 6) (v := 6) (g := W2.heap.size + 1) rfl (by simp) (by omega)
  refine (S.lcm _ _ ⟨some ⟨W2.heap.size, 0, none⟩, 1, 1, 4⟩ ⟨some ⟨W2.heap.size + 1, 0, none⟩, 1, 1, 6⟩ hE5 (by simp) (by simp) (by simp) (by simp)).mono ?_
  rintro e1 W3 ⟨⟨mA, mn, mc, mN⟩, rfl, hmN, hmn, hE6⟩
  obtain rfl : mN = 12 := hmN.trans (show 4 / Nat.gcd 4 6 * 6 = 12 by decide)
  obtain rfl : mn = 1 := hmn.trans l4.out
  replace hE6 : Env w (⟨pA, 1, pc, 2⟩ :: ⟨qA, 1, qc, 3⟩ :: ⟨gA, 1, gc, 6⟩ :: ⟨mA, 1, mc, 12⟩ :: e) W3 := hE6.pick (by intro z hz; simp only [List.mem_cons] at hz ⊢; rcases hz with rfl | rfl | rfl | rfl | hz <;> simp [*])
  clear hE4 hE5 hmN hmn
  obtain ⟨g1, rfl, c1⟩ := one_cell (hE6.2 ⟨gA, 1, gc, 6⟩ (by simp)).1 rfl
  obtain ⟨g2, rfl, c2⟩ := one_cell (hE6.2 ⟨pA, 1, pc, 2⟩ (by simp)).1 rfl
  obtain ⟨g3, rfl, c3⟩ := one_cell (hE6.2 ⟨qA, 1, qc, 3⟩ (by simp)).1 rfl
  obtain ⟨g4, rfl, c4⟩ := one_cell (hE6.2 ⟨mA, 1, mc, 12⟩ (by simp)).1 rfl
  go_wp2_with fail
  refine (S.coprime _ _ ⟨some g2, 1, pc, 2⟩ ⟨some g3, 1, qc, 3⟩ hE6 (by simp) (by simp) (by simp) (by simp)).mono ?_
  rintro e1 W4 ⟨rfl, hE7⟩
  rw [show coprB (Num.mk (some g2) 1 pc 2).N (Num.mk (some g3) 1 qc 3).N = true from (show coprB 2 3 = true by decide)]
  clear c1 c2 c3 c4 hE6
  go_wp2
  go_ret
  exact ⟨rfl, hE7.pick (fun z hz => by simp [hz])⟩
end Go.Proofs.YtkijjcladecooaaDoor
