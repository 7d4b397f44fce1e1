/- Contracts of bits.Len32 and of package prod's Bits: how many bits a number has. -/
import Derived.Test.YtjakmpphfjhbaaaLen32
import Derived.Test.YtjakmpphfjhbaaaPCut
namespace Go.Proofs.Ytjakmpphfjhbaaa
open Go Go.RowKit

theorem bitLen_eq : ∀ (k x : Nat), x < 2 ^ k → k ≤ 64 → Lib.bitLen x = bitsN x := by
  intro k
  induction k with
  | zero =>
    intro x hx _
    obtain rfl : x = 0 := by simp at hx; exact hx
    decide
  | succ k ih =>
    intro x hx hk
    by_cases h0 : x = 0
    · subst h0; decide
    · have h64 : x < 2 ^ 64 := Nat.lt_of_lt_of_le hx (Nat.pow_le_pow_right (by omega) hk)
      rw [Lib.bitLen_half x h0 h64, ih (x / 2) (by rw [Nat.pow_succ] at hx; omega) (by omega)]
      unfold bitsN
      rw [if_neg h0]
      have := Nat.log2_def x
      split
      · next h => rw [this, if_neg (by omega)]
      · next h => rw [this, if_pos (by omega)]; omega

theorem len32_any (w : World) (x : Nat) (h1 : x < 4294967296) :
    Calls Try.prog 37 #[.int .u32 x] w fun e w' => e = .returned (.int .i64 (bitsN x : Nat)) ∧ w = w' := by
  have h := len32_lib w (x : Int) (by omega) (by omega)
  rwa [Int.toNat_natCast, bitLen_eq 32 x (by omega) (by omega)] at h

theorem bitsN_top {N m : Nat} (hm : lenL N = m + 1) : bitsN N = 32 * m + bitsN (dig N m) := by
  have hd := dig_top hm
  have e : bitsN (dig N m) = (dig N m).log2 + 1 := if_neg hd
  rw [e]
  refine bits_of hm ?_ (.inr ?_)
  · exact Nat.div_eq_of_lt ((Nat.log2_lt hd).1 (by omega))
  · rw [Nat.add_sub_cancel]
    unfold half
    have := Nat.div_pos (Nat.log2_self_le hd) (Nat.two_pow_pos (dig N m).log2)
    omega
theorem bitsN_le32 {d : Nat} (h : d < 4294967296) : bitsN d ≤ 32 := bitsN_le.2 (by omega)

set_option maxHeartbeats 1000000 in
theorem pBits_any (w : World) (hi : Nat) (A : Option Addr) (n c N : Nat) (h : Rd w hi A n N) (hn : n ≤ c) (hc : c ≤ maxLen) (hb : n ≤ 35184372087808) :
    Calls Try.prog 17 #[.slice A n c] w fun e w' => e = .returned (.int .i64 (bitsN N : Nat)) ∧ w = w' := by
  have hl := lenL_le.2 h.1
  have hc : c ≤ 9223372036854775807 := by simpa [maxLen] using hc
  rcases Nat.eq_zero_or_pos (lenL N) with h0 | h0
  · have hN0 := Lib.hid (lenL_eq_zero.1 h0)
    have E := Lib.hid (pcut_any w hi A n c N h hn hc)
    rw [h0] at E
    clear h0
    go_enter Try.func17, Try.ntmps17
    go_wp2_with (go_at_call 30; refine E.out.mono ?_; rintro e w' ⟨rfl, rfl⟩)
    go_ret
    exact ⟨by rw [hN0.out]; rfl, rfl⟩
  · obtain ⟨m, hm⟩ : ∃ m, lenL N = m + 1 := ⟨lenL N - 1, by omega⟩
    have E := Lib.hid (pcut_any w hi A n c N h hn hc)
    have hN0 : ¬ N = 0 := fun e => by rw [e, lenL_zero] at hm; omega
    obtain ⟨ad, rfl, _, hcl⟩ := h.at_ (k := m) (by omega)
    have HB := Lib.hid (bitsN_top hm)
    have hd := dig_lt N m
    have hle := bitsN_le32 hd
    rw [cutA_pos hN0, hm] at E
    rw [hm] at hl
    clear hm h0 hN0
    go_enter Try.func17, Try.ntmps17
    go_wp2_with (first
      | (go_at_call 30; refine E.out.mono ?_; rintro e w' ⟨rfl, rfl⟩)
      | (go_at_call 37; refine (len32_any w _ hd).mono ?_; rintro e w' ⟨rfl, rfl⟩))
    go_ret
    exact ⟨by rw [HB.out]; refine ret_int ?_; omega, rfl⟩
end Go.Proofs.Ytjakmpphfjhbaaa
