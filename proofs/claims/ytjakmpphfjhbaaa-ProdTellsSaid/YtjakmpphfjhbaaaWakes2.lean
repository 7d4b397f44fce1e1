/- Contract of straitlaw02.wakes, over what the program's functions answer. -/
import Derived.Test.YtjakmpphfjhbaaaProdE
namespace Go.Proofs.Ytjakmpphfjhbaaa
open Go Go.RowKit

theorem Env.lit {w W : World} {e : List Num} {N g : Nat} {v : Int} (h : Env w e W) (hv : v = (N : Int)) (hg : W.heap.size = g) (hN : N < 4294967296) :
    Env w (⟨some ⟨g, 0, none⟩, 1, 1, N⟩ :: e) (W.alloc (.cells #[.int .u32 v] 25)) := (h.alloc _).add (one_limb W hv hg hN)
theorem Env.nought {w W : World} {e : List Num} (h : Env w e W) : Env w (⟨none, 0, 0, 0⟩ :: e) W := h.add ⟨Rd.none_, Nat.le_refl _, by simp [maxLen], by simp⟩
/-- Two limbs of a number of the call's own. -/
theorem two_cells {W : World} {g N hi : Nat} {a b : Int} (h : Rd W hi (some ⟨g, 0, none⟩) 2 N) (ha : ((dig N 0 : Nat) : Int) = a) (hb : ((dig N 1 : Nat) : Int) = b) : W.cell? ⟨g, 0, none⟩ = some (.int .u32 a) ∧ W.cell? ⟨g, 1, none⟩ = some (.int .u32 b) := by
  obtain ⟨ad, e, _, hc⟩ := h.2 (by simp)
  cases e
  have h0 := hc 0 (by simp)
  have h1 := hc 1 (by simp)
  rw [add_new, ha] at h0
  rw [add_new, hb] at h1
  exact ⟨h0, h1⟩
def m0 : Nat := 4294967295 * 4294967295
def u0 : Nat := 1 * 2 ^ 33
theorem len_m0 : lenL m0 = 2 := by decide
theorem len_u0 : lenL u0 = 2 := by decide

set_option maxRecDepth 100000 in
set_option maxHeartbeats 4000000 in
theorem wakes2_E {w W : World} {e : List Num} (S : ProdTold) (hE : Env w e W) : Calls Try.prog 9 #[] W fun e' W' => e' = .returned (.bool true) ∧ Env w e W' := by
  suffices Calls Try.prog 9 #[] W fun e' W' => e' = .returned (.bool true) ∧ Below W.heap.size W W' from this.mono fun _ _ ⟨he, hb⟩ => ⟨he, hE.step hb⟩
  clear hE
  have hE : Env W [] W := Env.start (by simp)
  go_enter Try.func9, Try.ntmps9
  go_wp2_with fail
  have hE1 := ((hE.lit (N := 4294967295) (v := 4294967295) rfl rfl (by omega)).lit (N := 4294967295) (v := 4294967295) (g := W.heap.size + 1) rfl (by simp) (by omega))
  refine (S.mul _ _ _ ⟨some ⟨W.heap.size, 0, none⟩, 1, 1, 4294967295⟩ ⟨some ⟨W.heap.size + 1, 0, none⟩, 1, 1, 4294967295⟩ hE1 (by simp) (by simp) (by simp) (by simp)).mono ?_
  rintro e1 W1 ⟨⟨A1, n1, c1, N1⟩, rfl, hN, hn, hE2, hF⟩
  obtain rfl : N1 = m0 := hN
  obtain rfl : n1 = 2 := by rw [← len_m0]; exact hn
  obtain ⟨g1, e2, _, _, _⟩ := hF.2 (by simp)
  have e3 : A1 = some ⟨g1, 0, none⟩ := e2
  subst e3
  have hE3 : Env W [⟨some ⟨g1, 0, none⟩, 2, c1, m0⟩] W1 := ⟨hE2.1, fun z hz => hE2.2 z (by simp at hz ⊢; simp [hz])⟩
  clear hn hE2 hF hE1 hE e2
  go_wp2_with fail
  have hE4 := hE3.lit (N := 1) (v := 1) rfl rfl (by omega)
  refine (S.up _ _ _ ⟨some ⟨W1.heap.size, 0, none⟩, 1, 1, 1⟩ 33 hE4 (by simp) (by simp) (by omega)).mono ?_
  rintro e1 W2 ⟨⟨A2, n2, c2, N2⟩, rfl, hN, hn, hE5, hF⟩
  obtain rfl : N2 = u0 := hN
  obtain rfl : n2 = 2 := by rw [← len_u0]; exact hn
  obtain ⟨g2, e2, _, _, _⟩ := hF.2 (by simp)
  have e3 : A2 = some ⟨g2, 0, none⟩ := e2
  subst e3
  have hE6 : Env W [⟨none, 0, 0, 0⟩, ⟨some ⟨g2, 0, none⟩, 2, c2, u0⟩, ⟨some ⟨g1, 0, none⟩, 2, c1, m0⟩] W2 := Env.nought ⟨hE5.1, fun z hz => hE5.2 z (by simp at hz ⊢; rcases hz with rfl | rfl <;> simp)⟩
  obtain ⟨hm0, hm1⟩ := two_cells (N := m0) (a := 1) (b := 4294967294) (hE6.2 ⟨some ⟨g1, 0, none⟩, 2, c1, m0⟩ (by simp)).1 (by decide) (by decide)
  obtain ⟨hu0, hu1⟩ := two_cells (N := u0) (a := 0) (b := 2) (hE6.2 ⟨some ⟨g2, 0, none⟩, 2, c2, u0⟩ (by simp)).1 (by decide) (by decide)
  clear hn hE5 hF hE4 hE3 e2
  go_wp2_with fail
  refine (S.bits _ _ _ ⟨none, 0, 0, 0⟩ hE6 (by simp) (by simp)).mono ?_
  rintro e1 W3 ⟨rfl, hE7⟩
  rw [show bitsN (Num.mk none 0 0 0).N = 0 from rfl]
  clear hm0 hm1 hu0 hu1 hE6
  go_wp2_with fail
  have hE8 := hE7.lit (N := 255) (v := 255) rfl rfl (by omega)
  refine (S.bits _ _ _ ⟨some ⟨W3.heap.size, 0, none⟩, 1, 1, 255⟩ hE8 (by simp) (by simp)).mono ?_
  rintro e1 W4 ⟨rfl, hE9⟩
  rw [show bitsN (Num.mk (some ⟨W3.heap.size, 0, none⟩) 1 1 255).N = 8 from (show bitsN 255 = 8 by decide)]
  clear hE7 hE8
  go_wp2
  go_ret
  exact ⟨rfl, hE9.1⟩
end Go.Proofs.Ytjakmpphfjhbaaa
