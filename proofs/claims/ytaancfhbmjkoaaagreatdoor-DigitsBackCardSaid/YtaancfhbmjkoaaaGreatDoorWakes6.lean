/- Contract of straitlaw06.wakes, over what the program's functions answer. -/
import Derived.Laws.IdiomStrings
import Derived.Test.YtaancfhbmjkoaaaGreatDoorDigE
import Derived.Test.YtaancfhbmjkoaaaGreatDoorGNum
namespace Go.Proofs.YtaancfhbmjkoaaaGreatDoor
open Go Go.RowKit

theorem dec_of {l : List UInt8} {n : Nat} (h : Digs l) (h1 : ∀ c, l.head? = some c → 48 < c.toNat) (hv : val l = n) (hn : n ≠ 0) : dec n = l := by
  rw [dec_pos hn, ← hv]; exact decz_val h h1
theorem digs_of {l : List UInt8} (h : l.all (fun c => decide (48 ≤ c.toNat) && decide (c.toNat ≤ 57)) = true) : Digs l := by
  intro c hc
  have := List.all_eq_true.mp h c hc
  simpa using this
/-- The literal of 2^32. -/
theorem great_limb (W : World) {g : Nat} (hg : W.heap.size = g) : (Num.mk (some ⟨g, 0, none⟩) 2 2 4294967296).ok (W.alloc (.cells #[.int .u32 0, .int .u32 1] 47)) (W.alloc (.cells #[.int .u32 0, .int .u32 1] 47)).heap.size := by
  subst hg
  refine ⟨⟨show 4294967296 < Bw ^ 2 by rw [Bw_eq]; decide, fun _ => ⟨_, rfl, by rw [World.size_alloc]; exact Nat.lt_succ_self _, fun j hj => ?_⟩⟩, Nat.le_refl 2, by simp [maxLen], by simp⟩
  rw [add_new]
  have h0 : ((dig 4294967296 0 : Nat) : Int) = 0 := by unfold dig; rw [Bw_eq]; decide
  have h1 : ((dig 4294967296 1 : Nat) : Int) = 1 := by unfold dig; rw [Bw_eq]; decide
  match j, hj with
  | 0, _ => rw [World.cell?_alloc_mark]; show some (Value.int .u32 0) = some (.int .u32 (dig 4294967296 0 : Nat)); rw [h0]
  | 1, _ => rw [World.cell?_alloc_mark]; show some (Value.int .u32 1) = some (.int .u32 (dig 4294967296 1 : Nat)); rw [h1]

set_option maxRecDepth 100000 in
set_option maxHeartbeats 4000000 in
theorem wakes6_E {w W : World} {e : List Num} (S : DigTold w) (hE : Env w e W) : Calls Tryz.prog 9 #[] W fun e' W' => e' = .returned (.bool true) ∧ Env w e W' := by
  have v1 : val [48, 48, 55] = 7 := by decide
  go_enter Tryz.func9, Tryz.ntmps9
  go_wp2_with fail
  refine (parse_ok S hE.1 hE [48, 48, 55] ⟨by decide, by decide, by intro c hc; simp only [List.mem_cons, List.not_mem_nil, or_false] at hc; rcases hc with rfl | rfl | rfl <;> decide⟩).mono ?_
  rintro e1 W1 ⟨⟨aA, an, ac, aN⟩, rfl, haN, han, hE1⟩
  obtain rfl : aN = 7 := haN.trans v1
  obtain rfl : an = 1 := han.trans (by rw [v1]; decide)
  clear haN han
  have n1 : iNeg [45, 48] = true := by decide
  have n2 : iRest [45, 48] = [48] := by decide
  have n3 : val [48] = 0 := by decide
  have n4 : iRest [43, 49] = [43, 49] := by decide
  go_wp2_with fail
  refine (parseInt_ok S hE1.1 hE1 [45, 48] (by decide) (by rw [n2]; exact ⟨by decide, by decide, digs_of (by decide)⟩)).mono ?_
  rintro e2 W2 ⟨⟨bA, bn, bc, bN⟩, rfl, hbN, hbn, hE2⟩
  rw [n2, n3] at hbN
  obtain rfl : bN = 0 := hbN
  obtain rfl : bn = 0 := hbn.trans lenL_zero
  rw [n1, n2, n3]
  clear hbn
  go_wp2_with fail
  have hE3 := hE2.alloc (.cells #[.bool false, .slice bA 0 bc] 25)
  have b1 := Box2.new W2 25 (.bool false) (.slice bA 0 bc)
  refine (parseInt_bad S hE3.1 hE3.here [43, 49] (by decide) (by rw [n4]; rintro ⟨-, -, h⟩; have := h 43 (by simp); revert this; decide)).mono ?_
  rintro e3 W3 ⟨rfl, hE4⟩
  have b2 := b1.below hE4.1 b1.lt
  have b3 := b2.alloc (.cells #[.bool false, .slice none 0 0] 25)
  have hE5 := (hE4.over hE3.1).alloc (.cells #[.bool false, .slice none 0 0] 25)
  have b4 := b3.alloc (.cells #[.int .u32 0, .int .u32 1] 47)
  have hE6 := (hE5.alloc (.cells #[.int .u32 0, .int .u32 1] 47)).add (great_limb _ rfl)
  have HT := (S.text _ _ _ ⟨some ⟨(W3.alloc (.cells #[.bool false, .slice none 0 0] 25)).heap.size, 0, none⟩, 2, 2, 4294967296⟩ hE6.1 hE6.here (by simp) (by simp))
  have HD : dec 4294967296 = [52, 50, 57, 52, 57, 54, 55, 50, 57, 54] := dec_of (digs_of (by decide)) (by intro c hc; injection hc with hc; subst hc; decide) (by decide) (by decide)
  simp only [HD] at HT
  replace HT := Lib.hid HT
  have B4 := Lib.hid b4
  have HE6 := Lib.hid hE6
  clear hE hE1 hE2 hE3 hE4 hE5 hE6 b1 b2 b3 b4
  go_wp2_with fail
  rw [World.size_alloc] at HT
  refine HT.out.mono ?_
  rintro e4 W4 ⟨rfl, hE7⟩
  have b5 := B4.out.below hE7.1 B4.out.lt
  obtain ⟨c1, c2, -, -⟩ := b5.cells
  have HE7 := Lib.hid (hE7.over HE6.out.1)
  obtain ⟨ga, rfl, ca⟩ := one_cell (HE7.out.2 ⟨aA, 1, ac, 7⟩ (by simp)).1 rfl
  clear hE7 b5
  go_wp2
  go_ret
  exact ⟨rfl, HE7.out.pick (fun z hz => by simp [hz])⟩
end Go.Proofs.YtaancfhbmjkoaaaGreatDoor
