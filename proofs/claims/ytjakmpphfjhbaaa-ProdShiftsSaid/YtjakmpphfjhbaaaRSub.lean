/- Contract of the reference's Sub of layer 1. -/
import Derived.Test.YtjakmpphfjhbaaaRCmp
import Derived.Test.YtjakmpphfjhbaaaRTrim
namespace Go.Proofs.Ytjakmpphfjhbaaa
open Go Go.RowKit

set_option maxHeartbeats 400000 in
theorem rSub_no (w : World) (A A' : Option Addr) (n n' c c' N M : Nat) (h : Rd w w.heap.size A n N) (h' : Rd w w.heap.size A' n' M) (hn : n ≤ 35184372087808) (hn' : n' ≤ 35184372087808) (hlt : N < M) :
    Calls Try.prog 27 #[.slice A n c, .slice A' n' c'] w fun e w' => e = .returned (.tuple #[.slice none 0 0, .int .i64 10]) ∧ w = w' := by
  have hC := rCmp_any w _ _ A A' n n' c c' N M h h' (by omega) (by omega)
  rw [cmpN_lt hlt] at hC
  have HC := Lib.hid hC
  clear hC
  go_enter Try.func27, Try.ntmps27
  go_wp2_with (go_at_call 28; refine HC.out.mono ?_; rintro e w' ⟨rfl, rfl⟩)
  go_ret2
  exact ⟨rfl, rfl⟩

set_option maxRecDepth 100000 in
set_option maxHeartbeats 2000000 in
theorem rSub_yes (w : World) (A A' : Option Addr) (n n' c c' N M : Nat) (h : Rd w w.heap.size A n N) (h' : Rd w w.heap.size A' n' M) (hn : n ≤ 100000) (hn' : n' ≤ 100000) (hle : M ≤ N) :
    Calls Try.prog 27 #[.slice A n c, .slice A' n' c'] w (GivesS w (N - M)) := by
  have hC := rCmp_any w _ _ A A' n n' c c' N M h h' (by omega) (by omega)
  have hcn : 0 ≤ cmpN N M := by unfold cmpN; rw [if_neg (by omega)]; split <;> omega
  obtain ⟨r, hr⟩ : ∃ r, cmpN N M = r := ⟨_, rfl⟩
  rw [hr] at hC hcn
  have HC := Lib.hid hC
  obtain ⟨D, hD⟩ : ∃ D, N - M = D := ⟨_, rfl⟩
  have HE := Lib.hid (show N = D + M by omega)
  have HX := Lib.hid h.1
  obtain ⟨i0, hi, hz0, hz1, hz2⟩ := info_parts info_u32
  rw [hD]
  clear hC hr hD hle
  go_enter Try.func27, Try.ntmps27
  go_wp2_with (go_at_call 28; refine HC.out.mono ?_; rintro e w1 ⟨rfl, rfl⟩)
  go_loopw [6, 7, 8] (fun ov cy i wr => ∃ k : Nat, k ≤ n ∧ i = .int .i64 k ∧ cy = .int .u64 (car D M k : Nat) ∧ wr.ownsRow w.heap.size 25 1 ov k (limbs D k) ∧ Below w.heap.size w wr) (fun _ _ i _ => n - (intOf i).toNat)
  case atStart => exact ⟨0, Nat.zero_le _, rfl, by rw [car_zero]; rfl, World.ownsRow_nil _ _ _ _, Below.refl _ _⟩
  case round =>
    rename_i ov
    obtain ⟨k, hk, rfl, rfl, hown, hB⟩ := hrel
    have hsz := hB.size
    have hcl := car_le D M k
    by_cases hlt : k < n
    · have E1 := Lib.hid (rlimb_any wr w.heap.size A n c N (h.below hB) k)
      have E2 := Lib.hid (rlimb_any wr w.heap.size A' n' c' M (h'.below hB) k)
      have h1 := dig_lt N k
      have h2 := dig_lt M k
      have hdc := dig_car D M k
      rw [← HE.out] at hdc
      have h3 := dig_lt D k
      have hcl' := car_le D M (k + 1)
      have HV1 := Lib.hid (show Value.int .u32 (((dig N k : Int) + 4294967296 - (dig M k : Int) - (car D M k : Int)) % 4294967296) = .int .u32 (dig D k : Nat) by congr 1; omega)
      have HV2 := Lib.hid (show 1 - ((dig N k : Int) + 4294967296 - (dig M k : Int) - (car D M k : Int)) / 4294967296 = (car D M (k + 1) : Nat) by omega)
      have HO := Lib.hid hown
      clear hdc h3 hown hcl'
      go_wp2_with (first
        | (go_at_call 43; (with_reducible refine E1.out.mono ?_); rintro e w' ⟨rfl, rfl⟩)
        | (go_at_call 43; (with_reducible refine E2.out.mono ?_); rintro e w' ⟨rfl, rfl⟩)
        | (at_builtin; refine wpList_append_row _ rfl (.tmp 30) (.tmp 33) _ rfl w.heap.size 25 i0 (.int .u32 0) 4 Try.underlying23 hi hz0 hz1 hz2 rfl _ k (limbs D k) rfl (HO.out.alloc _) (some ⟨wr.heap.size, 0, none⟩) 1 1 [.int .u32 (((dig N k : Int) + 4294967296 - (dig M k : Int) - (car D M k : Int)) % 4294967296)] rfl rfl (one_read _ _ _) (oneCell_u32 _) (by simp only [maxLen]; omega) (by omega) (by simp; omega) ?_; intro v' w1 hown' hg' _; have HS := Lib.hid (own_step hB HO.out HV1.out hown' hg'); clear hown' hg'))
      go_roundw
      case rel => exact ⟨k + 1, by omega, by go_num, by rw [HV2.out], HS.out.1, HS.out.2⟩
      case measure => simp [intOf]; omega
    · obtain rfl : k = n := by omega
      have HD := Lib.hid (show D < Bw ^ k by have := HX.out; have := HE.out; omega)
      have HO := Lib.hid hown
      clear hown
      go_wp2_with fail
      refine (own_trim hB HO.out HD.out (by omega)).mono ?_
      intro e w2 hgv
      obtain ⟨A2, c2, rfl, g1, g2, g3, g4⟩ := hgv
      go_wp2
      go_ret2
      exact ⟨A2, c2, rfl, g1, g2, g3, g4⟩
end Go.Proofs.Ytjakmpphfjhbaaa
