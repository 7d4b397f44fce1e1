/- Contract of the reference's sum of two of layer 1. -/
import Derived.Test.YtjakmpphfjhbaaaRLimb
import Derived.Test.YtjakmpphfjhbaaaRTrim
namespace Go.Proofs.Ytjakmpphfjhbaaa
open Go Go.RowKit

set_option maxRecDepth 100000 in
set_option maxHeartbeats 2000000 in
theorem two_lt (w : World) (A A' : Option Addr) (n n' c c' N M : Nat) (hx : Rd w w.heap.size A n N) (hy : Rd w w.heap.size A' n' M) (hb : n' ≤ 100000) (hnn : n < n') :
    Calls Try.prog 42 #[.slice A n c, .slice A' n' c'] w (Gives w (N + M)) := by
  obtain ⟨i0, hi, hz0, hz1, hz2⟩ := info_parts info_u32
  have HX := Lib.hid hx.1
  have HY := Lib.hid hy.1
  go_enter Try.func42, Try.ntmps42
  go_wp2
  go_loopw [5, 6, 7] (fun ov cy i wr => ∃ k : Nat, k ≤ n' ∧ i = .int .i64 k ∧ cy = .int .u64 (car N M k : Nat) ∧ wr.ownsRow w.heap.size 25 1 ov k (limbs (N + M) k) ∧ Below w.heap.size w wr) (fun _ _ i _ => n' - (intOf i).toNat)
  case atStart => exact ⟨0, Nat.zero_le _, rfl, by rw [car_zero]; rfl, World.ownsRow_nil _ _ _ _, Below.refl _ _⟩
  case round =>
    rename_i ov
    obtain ⟨k, hk, rfl, rfl, hown, hB⟩ := hrel
    have hsz := hB.size
    have hcl := car_le N M k
    by_cases hlt : k < n'
    · have E1 := Lib.hid (rlimb_any wr w.heap.size A n c N (hx.below hB) k)
      have E2 := Lib.hid (rlimb_any wr w.heap.size A' n' c' M (hy.below hB) k)
      have h1 := dig_lt N k
      have h2 := dig_lt M k
      have hdc := dig_car N M k
      have h3 := dig_lt (N + M) k
      have HV1 := Lib.hid (show Value.int .u32 (((dig N k : Int) + (dig M k : Int) + (car N M k : Int)) % 4294967296) = .int .u32 (dig (N + M) k : Nat) by congr 1; omega)
      have HV2 := Lib.hid (show ((dig N k : Int) + (dig M k : Int) + (car N M k : Int)) / 4294967296 = (car N M (k + 1) : Nat) by omega)
      have HO := Lib.hid hown
      clear hdc h3 hown
      go_wp2_with (first
        | (go_at_call 43; (with_reducible refine E1.out.mono ?_); rintro e w' ⟨rfl, rfl⟩)
        | (go_at_call 43; (with_reducible refine E2.out.mono ?_); rintro e w' ⟨rfl, rfl⟩)
        | (at_builtin; refine wpList_append_row _ rfl (.tmp 27) (.tmp 30) _ rfl w.heap.size 25 i0 (.int .u32 0) 4 Try.underlying23 hi hz0 hz1 hz2 rfl _ k (limbs (N + M) k) rfl (HO.out.alloc _) (some ⟨wr.heap.size, 0, none⟩) 1 1 [.int .u32 (((dig N k : Int) + (dig M k : Int) + (car N M k : Int)) % 4294967296)] rfl rfl (one_read _ _ _) (oneCell_u32 _) (by simp only [maxLen]; omega) (by omega) (by simp; omega) ?_; intro v' w1 hown' hg' _; have HS := Lib.hid (own_step hB HO.out HV1.out hown' hg'); clear hown' hg'))
      go_roundw
      case rel => exact ⟨k + 1, by omega, by go_num, by rw [HV2.out], HS.out.1, HS.out.2⟩
      case measure => simp [intOf]; omega
    · obtain rfl : k = n' := by omega
      have HO := Lib.hid hown
      have HV1 := Lib.hid (show Value.int .u32 (car N M k : Nat) = .int .u32 (dig (N + M) k : Nat) by
        rw [dig_add, dig_ge (lt_pow_of HX.out (m := k) (by omega)) (Nat.le_refl _), dig_ge (lt_pow_of HY.out (m := k) (by omega)) (Nat.le_refl _), Nat.zero_add, Nat.mod_eq_of_lt (by rw [Bw_eq]; omega)])
      have hS := Lib.hid (lenL_le.1 (lenL_add (lt_pow_of HX.out (m := k) (by omega)) (lt_pow_of HY.out (m := k) (by omega))))
      clear hown
      go_wp2_with (at_builtin; refine wpList_append_row _ rfl (.tmp 34) (.tmp 37) _ rfl w.heap.size 25 i0 (.int .u32 0) 4 Try.underlying23 hi hz0 hz1 hz2 rfl _ k (limbs (N + M) k) rfl (HO.out.alloc _) (some ⟨wr.heap.size, 0, none⟩) 1 1 [.int .u32 (car N M k : Nat)] rfl rfl (one_read _ _ _) (oneCell_u32 _) (by simp only [maxLen]; omega) (by omega) (by simp; omega) ?_; intro v' w1 hown' hg' _; have HS := Lib.hid (own_step hB HO.out HV1.out hown' hg'); clear hown' hg')
      refine (own_trim HS.out.2 HS.out.1 hS.out (by omega)).mono ?_
      intro e w2 hgv
      obtain ⟨A2, c2, rfl, g1, g2, g3, g4⟩ := hgv
      go_wp2
      go_ret
      exact ⟨A2, c2, rfl, g1, g2, g3, g4⟩

set_option maxRecDepth 100000 in
set_option maxHeartbeats 2000000 in
theorem two_ge (w : World) (A A' : Option Addr) (n n' c c' N M : Nat) (hx : Rd w w.heap.size A n N) (hy : Rd w w.heap.size A' n' M) (hb : n ≤ 100000) (hnn : n' ≤ n) :
    Calls Try.prog 42 #[.slice A n c, .slice A' n' c'] w (Gives w (N + M)) := by
  obtain ⟨i0, hi, hz0, hz1, hz2⟩ := info_parts info_u32
  have HX := Lib.hid hx.1
  have HY := Lib.hid hy.1
  go_enter Try.func42, Try.ntmps42
  go_wp2
  go_loopw [5, 6, 7] (fun ov cy i wr => ∃ k : Nat, k ≤ n ∧ i = .int .i64 k ∧ cy = .int .u64 (car N M k : Nat) ∧ wr.ownsRow w.heap.size 25 1 ov k (limbs (N + M) k) ∧ Below w.heap.size w wr) (fun _ _ i _ => n - (intOf i).toNat)
  case atStart => exact ⟨0, Nat.zero_le _, rfl, by rw [car_zero]; rfl, World.ownsRow_nil _ _ _ _, Below.refl _ _⟩
  case round =>
    rename_i ov
    obtain ⟨k, hk, rfl, rfl, hown, hB⟩ := hrel
    have hsz := hB.size
    have hcl := car_le N M k
    by_cases hlt : k < n
    · have E1 := Lib.hid (rlimb_any wr w.heap.size A n c N (hx.below hB) k)
      have E2 := Lib.hid (rlimb_any wr w.heap.size A' n' c' M (hy.below hB) k)
      have h1 := dig_lt N k
      have h2 := dig_lt M k
      have hdc := dig_car N M k
      have h3 := dig_lt (N + M) k
      have HV1 := Lib.hid (show Value.int .u32 (((dig N k : Int) + (dig M k : Int) + (car N M k : Int)) % 4294967296) = .int .u32 (dig (N + M) k : Nat) by congr 1; omega)
      have HV2 := Lib.hid (show ((dig N k : Int) + (dig M k : Int) + (car N M k : Int)) / 4294967296 = (car N M (k + 1) : Nat) by omega)
      have HO := Lib.hid hown
      clear hdc h3 hown
      go_wp2_with (first
        | (go_at_call 43; (with_reducible refine E1.out.mono ?_); rintro e w' ⟨rfl, rfl⟩)
        | (go_at_call 43; (with_reducible refine E2.out.mono ?_); rintro e w' ⟨rfl, rfl⟩)
        | (at_builtin; refine wpList_append_row _ rfl (.tmp 27) (.tmp 30) _ rfl w.heap.size 25 i0 (.int .u32 0) 4 Try.underlying23 hi hz0 hz1 hz2 rfl _ k (limbs (N + M) k) rfl (HO.out.alloc _) (some ⟨wr.heap.size, 0, none⟩) 1 1 [.int .u32 (((dig N k : Int) + (dig M k : Int) + (car N M k : Int)) % 4294967296)] rfl rfl (one_read _ _ _) (oneCell_u32 _) (by simp only [maxLen]; omega) (by omega) (by simp; omega) ?_; intro v' w1 hown' hg' _; have HS := Lib.hid (own_step hB HO.out HV1.out hown' hg'); clear hown' hg'))
      go_roundw
      case rel => exact ⟨k + 1, by omega, by go_num, by rw [HV2.out], HS.out.1, HS.out.2⟩
      case measure => simp [intOf]; omega
    · obtain rfl : k = n := by omega
      have HO := Lib.hid hown
      have HV1 := Lib.hid (show Value.int .u32 (car N M k : Nat) = .int .u32 (dig (N + M) k : Nat) by
        rw [dig_add, dig_ge (lt_pow_of HX.out (m := k) (by omega)) (Nat.le_refl _), dig_ge (lt_pow_of HY.out (m := k) (by omega)) (Nat.le_refl _), Nat.zero_add, Nat.mod_eq_of_lt (by rw [Bw_eq]; omega)])
      have hS := Lib.hid (lenL_le.1 (lenL_add (lt_pow_of HX.out (m := k) (by omega)) (lt_pow_of HY.out (m := k) (by omega))))
      clear hown
      go_wp2_with (at_builtin; refine wpList_append_row _ rfl (.tmp 34) (.tmp 37) _ rfl w.heap.size 25 i0 (.int .u32 0) 4 Try.underlying23 hi hz0 hz1 hz2 rfl _ k (limbs (N + M) k) rfl (HO.out.alloc _) (some ⟨wr.heap.size, 0, none⟩) 1 1 [.int .u32 (car N M k : Nat)] rfl rfl (one_read _ _ _) (oneCell_u32 _) (by simp only [maxLen]; omega) (by omega) (by simp; omega) ?_; intro v' w1 hown' hg' _; have HS := Lib.hid (own_step hB HO.out HV1.out hown' hg'); clear hown' hg')
      refine (own_trim HS.out.2 HS.out.1 hS.out (by omega)).mono ?_
      intro e w2 hgv
      obtain ⟨A2, c2, rfl, g1, g2, g3, g4⟩ := hgv
      go_wp2
      go_ret
      exact ⟨A2, c2, rfl, g1, g2, g3, g4⟩

theorem two_any (w : World) (A A' : Option Addr) (n n' c c' N M : Nat) (hx : Rd w w.heap.size A n N) (hy : Rd w w.heap.size A' n' M) (hb : n ≤ 100000) (hb' : n' ≤ 100000) :
    Calls Try.prog 42 #[.slice A n c, .slice A' n' c'] w (Gives w (N + M)) := by
  rcases Nat.lt_or_ge n n' with h | h
  · exact two_lt w A A' n n' c c' N M hx hy hb' h
  · exact two_ge w A A' n n' c c' N M hx hy hb h
end Go.Proofs.Ytjakmpphfjhbaaa
