/- Contracts of package prod's Up and Down. -/
import Derived.Test.YtjakmpphfjhbaaaPRead
namespace Go.Proofs.Ytjakmpphfjhbaaa
open Go Go.RowKit

theorem dig_mulpow (N Q i : Nat) : dig (N * Bw ^ Q) i = if i < Q then 0 else dig N (i - Q) := by
  unfold dig
  split
  · next h =>
    rw [show Q = i + (Q - i - 1 + 1) by omega, pow_add_mul, ← Nat.mul_assoc, Nat.mul_right_comm, Nat.mul_div_cancel _ (pow_pos_Bw i), Nat.pow_succ, ← Nat.mul_assoc, Nat.mul_mod_left]
  · next h =>
    obtain ⟨d, rfl⟩ : ∃ d, i = Q + d := ⟨i - Q, by omega⟩
    rw [pow_add_mul, ← Nat.div_div_eq_div_mul, Nat.mul_div_cancel _ (pow_pos_Bw Q), show Q + d - Q = d by omega]
theorem digI_mulpow (N Q i : Nat) : dig (N * Bw ^ Q) i = digI N ((i : Int) - Q) := by
  rw [dig_mulpow]
  unfold digI
  by_cases h : i < Q
  · rw [if_pos h, if_pos (by omega)]
  · rw [if_neg h, if_neg (by omega), show ((i : Int) - Q).toNat = i - Q by omega]
/-- The limbs of what is read from a place on. -/
theorem win_dig {N Q q' r : Nat} {q : Int} (hr : r < 32) (hq : (q' : Int) = q + Q) (j : Nat) : dig (N * Bw ^ Q / 2 ^ (32 * q' + r)) j = winL N (q + (j : Nat)) r := by
  rw [down_dig (by omega), digI_mulpow, digI_mulpow]
  unfold winL
  rw [show ((q' + j : Nat) : Int) - Q = q + (j : Nat) by omega, show ((q' + j + 1 : Nat) : Int) - Q = q + (j : Nat) + 1 by omega]
theorem win_down {N m Q q' r : Nat} (h : 32 * q' + r = 32 * Q + m) : N * Bw ^ Q / 2 ^ (32 * q' + r) = N / 2 ^ m := by
  rw [h, Nat.pow_add, ← Bw_pow, ← Nat.div_div_eq_div_mul, Nat.mul_div_cancel _ (pow_pos_Bw Q)]
theorem win_up {N m Q q' r : Nat} (h : 32 * q' + r + m = 32 * Q) : N * Bw ^ Q / 2 ^ (32 * q' + r) = N * 2 ^ m := by
  rw [Bw_pow, ← h, Nat.pow_add, Nat.mul_comm (2 ^ (32 * q' + r)), ← Nat.mul_assoc, Nat.mul_div_cancel _ (Nat.two_pow_pos _)]
theorem bitsN_down (N m : Nat) : bitsN (N / 2 ^ m) = bitsN N - m := by
  have h1 : ∀ k, bitsN (N / 2 ^ m) ≤ k ↔ bitsN N ≤ k + m := fun k => by rw [bitsN_le, bitsN_le, Nat.div_lt_iff_lt_mul (Nat.two_pow_pos m), Nat.pow_add]
  have h2 := (h1 _).1 (Nat.le_refl _)
  have h3 := (h1 (bitsN N - m)).2 (by omega)
  omega
theorem bitsN_up {N : Nat} (hN : N ≠ 0) (m : Nat) : bitsN (N * 2 ^ m) = bitsN N + m := by
  have h1 : ∀ k, bitsN (N * 2 ^ m) ≤ k + m ↔ bitsN N ≤ k := fun k => by
    rw [bitsN_le, bitsN_le, Nat.pow_add]
    exact Nat.mul_lt_mul_right (Nat.two_pow_pos m)
  have h2 := (h1 (bitsN N)).2 (Nat.le_refl _)
  have h3 : m ≤ bitsN (N * 2 ^ m) := by
    rcases Nat.lt_or_ge (bitsN (N * 2 ^ m)) m with h | h
    · have h4 : N * 2 ^ m < 2 ^ m := bitsN_le.1 (Nat.le_of_lt h)
      have : 2 ^ m ≤ N * 2 ^ m := Nat.le_mul_of_pos_left _ (Nat.pos_of_ne_zero hN)
      omega
    · exact h
  have h4 := (h1 (bitsN (N * 2 ^ m) - m)).1 (by omega)
  omega

theorem gives_nil (w : World) : Gives w 0 (.returned (.slice none 0 0)) w := ⟨none, 0, rfl, Nat.le_refl _, by simp [maxLen], Fr.nil, Below.refl _ _⟩

set_option maxRecDepth 100000 in
set_option maxHeartbeats 2000000 in
theorem readFrom_none (w : World) (A : Option Addr) (n c N : Nat) (f : Int) (h : Rd w w.heap.size A n N) (hnc : n ≤ c) (hcb : c ≤ maxLen) (hn : n ≤ 10000000000) (hfb : -65536 ≤ f ∧ f ≤ 65536) (hz : (bitsN N : Int) - f ≤ 0 ∨ N = 0) :
    Calls Try.prog 41 #[.slice A n c, .int .i64 f] w (Gives w 0) := by
  have hcb' : c ≤ 9223372036854775807 := by simpa [maxLen] using hcb
  have EB := Lib.hid (pBits_any w _ A n c N h hnc hcb (by omega))
  have EC := Lib.hid (pcut_any w _ A n c N h hnc hcb')
  have hbb := bitsN_bound h.1
  obtain ⟨bN, hbN⟩ : ∃ bN, bitsN N = bN := ⟨_, rfl⟩
  rw [hbN] at EB hbb hz
  obtain ⟨left, hl⟩ : ∃ left, (bN : Int) - f = left := ⟨_, rfl⟩
  rw [hl] at hz
  have hlb : -65536 ≤ left ∧ left ≤ 320000065536 := by omega
  by_cases h0 : left ≤ 0
  · clear hz hbN
    go_enter Try.func41, Try.ntmps41
    go_wp2
    apply wp_scope_straight
    go_wp2_with (go_at_call 17; refine EB.out.mono ?_; rintro e w' ⟨rfl, rfl⟩)
    rw [Exit.noGoto_ret]
    go_ret
    exact gives_nil w
  · have hN : N = 0 := hz.resolve_left h0
    have hlp : 0 < left := by omega
    subst hN
    rw [lenL_zero, cutA_zero] at EC
    clear hz hbN h0
    go_enter Try.func41, Try.ntmps41
    go_wp2
    apply wp_scope_straight
    go_wp2_with (first
      | (go_at_call 17; refine EB.out.mono ?_; rintro e w' ⟨rfl, rfl⟩)
      | (go_at_call 30; refine EC.out.mono ?_; rintro e w' ⟨rfl, rfl⟩))
    rw [Exit.noGoto_ret]
    go_ret
    exact gives_nil w

/-- What is read from bit f on. -/
theorem readFrom_any (w : World) (A : Option Addr) (n c N V : Nat) (q f : Int) (r : Nat) (hf : f = 32 * q + r) (hr : r < 32) (hfb : -65536 ≤ f ∧ f ≤ 65536) (hV : ∀ j, dig V j = winL N (q + (j : Nat)) r)
    (h : Rd w w.heap.size A n N) (hnc : n ≤ c) (hcb : c ≤ maxLen) (hn : n ≤ 10000000000) (h0 : N = 0 → V = 0) (hb : N ≠ 0 → (bitsN V : Int) = max 0 ((bitsN N : Int) - f)) :
    Calls Try.prog 41 #[.slice A n c, .int .i64 f] w (Gives w V) := by
  by_cases hz : (bitsN N : Int) - f ≤ 0 ∨ N = 0
  · have hV0 : V = 0 := by
      by_cases hN : N = 0
      · exact h0 hN
      · have := hb hN
        exact bitsN_eq_zero (by omega)
    subst hV0
    exact readFrom_none w A n c N f h hnc hcb hn hfb hz
  · have hN : N ≠ 0 := fun e => hz (.inr e)
    have hbv := hb hN
    obtain ⟨left, hl⟩ : ∃ left : Nat, (bitsN N : Int) - f = left := ⟨((bitsN N : Int) - f).toNat, by omega⟩
    exact callsIn_wide.1 (readFrom_in w A n c N V (lenL V) left q f r hf hr hfb hV h hnc hcb hn hN hl (by omega) rfl (by rw [lenL_bits]; congr 1; omega))

theorem pUp_any (w : World) (A : Option Addr) (n c N : Nat) (k : Int) (h : Rd w w.heap.size A n N) (hnc : n ≤ c) (hcb : c ≤ maxLen) (hn : n ≤ 10000000000) (hk : -9223372036854775808 ≤ k ∧ k ≤ 9223372036854775807) :
    Calls Try.prog 21 #[.slice A n c, .int .i64 k] w (Gives w (N * 2 ^ min k.toNat 65536)) := by
  have HC := Lib.hid (fun W => pcount_any W k 65536 hk (by omega))
  obtain ⟨m, hm⟩ : ∃ m, min k.toNat 65536 = m := ⟨_, rfl⟩
  have hmb : m ≤ 65536 := by omega
  rw [hm] at HC ⊢
  clear hm
  obtain ⟨Q, hQ⟩ : ∃ Q : Nat, Q = 2048 := ⟨_, rfl⟩
  have hw : N * Bw ^ Q / 2 ^ (32 * ((-(m : Int)) / 32 + (Q : Int)).toNat + ((-(m : Int)) % 32).toNat) = N * 2 ^ m := win_up (by omega)
  have E := Lib.hid (readFrom_any w A n c N (N * 2 ^ m) ((-(m : Int)) / 32) (-(m : Int)) ((-(m : Int)) % 32).toNat (by omega) (by omega) (by omega) (fun j => by rw [← hw]; exact win_dig (by omega) (by omega) j) h hnc hcb hn (fun e => by rw [e, Nat.zero_mul]) (fun e => by rw [bitsN_up e]; omega))
  clear hw hQ
  go_enter Try.func21, Try.ntmps21
  go_wp2_with (go_at_call 39; refine (HC.out w).mono ?_; rintro e w' ⟨rfl, rfl⟩)
  refine E.out.mono ?_
  rintro e w2 ⟨A2, c2, rfl, g1, g2, g3, g4⟩
  go_wp2
  go_ret
  exact ⟨A2, c2, rfl, g1, g2, g3, g4⟩

theorem pDown_any (w : World) (A : Option Addr) (n c N : Nat) (k : Int) (h : Rd w w.heap.size A n N) (hnc : n ≤ c) (hcb : c ≤ maxLen) (hn : n ≤ 10000000000) (hk : -9223372036854775808 ≤ k ∧ k ≤ 9223372036854775807) :
    Calls Try.prog 23 #[.slice A n c, .int .i64 k] w (Gives w (N / 2 ^ min k.toNat 65536)) := by
  have HC := Lib.hid (fun W => pcount_any W k 65536 hk (by omega))
  obtain ⟨m, hm⟩ : ∃ m, min k.toNat 65536 = m := ⟨_, rfl⟩
  have hmb : m ≤ 65536 := by omega
  rw [hm] at HC ⊢
  clear hm
  obtain ⟨Q, hQ⟩ : ∃ Q : Nat, Q = 2048 := ⟨_, rfl⟩
  have hw : N * Bw ^ Q / 2 ^ (32 * ((m : Int) / 32 + (Q : Int)).toNat + ((m : Int) % 32).toNat) = N / 2 ^ m := win_down (by omega)
  have E := Lib.hid (readFrom_any w A n c N (N / 2 ^ m) ((m : Int) / 32) (m : Int) ((m : Int) % 32).toNat (by omega) (by omega) (by omega) (fun j => by rw [← hw]; exact win_dig (by omega) (by omega) j) h hnc hcb hn (fun e => by rw [e, Nat.zero_div]) (fun e => by rw [bitsN_down]; omega))
  clear hw hQ
  go_enter Try.func23, Try.ntmps23
  go_wp2_with (go_at_call 39; refine (HC.out w).mono ?_; rintro e w' ⟨rfl, rfl⟩)
  refine E.out.mono ?_
  rintro e w2 ⟨A2, c2, rfl, g1, g2, g3, g4⟩
  go_wp2
  go_ret
  exact ⟨A2, c2, rfl, g1, g2, g3, g4⟩
end Go.Proofs.Ytjakmpphfjhbaaa
