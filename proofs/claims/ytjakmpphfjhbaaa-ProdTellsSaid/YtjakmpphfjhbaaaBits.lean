/- Contract of the reference's Bits of layer 2: how many bits a number has. -/
import Derived.Test.YtjakmpphfjhbaaaRTrim
namespace Go.Proofs.Ytjakmpphfjhbaaa
open Go Go.RowKit

/-- How many bits. -/
def bitsN (N : Nat) : Nat := if N = 0 then 0 else N.log2 + 1
theorem bitsN_zero : bitsN 0 = 0 := rfl
theorem bitsN_le {N k : Nat} : bitsN N ≤ k ↔ N < 2 ^ k := by
  unfold bitsN
  split
  · next h => subst h; simp [Nat.two_pow_pos]
  · next h => rw [← Nat.log2_lt h]; omega
theorem bitsN_eq {N k : Nat} (h1 : 2 ^ k ≤ N) (h2 : N < 2 ^ (k + 1)) : bitsN N = k + 1 := by
  have a := bitsN_le.2 h2
  have b : ¬ bitsN N ≤ k := fun h => by have := bitsN_le.1 h; omega
  omega

def half (d s : Nat) : Nat := d / 2 ^ s
theorem half_zero (d : Nat) : half d 0 = d := by simp [half]
theorem half_succ (d s : Nat) : half d s / 2 = half d (s + 1) := by unfold half; rw [Nat.pow_succ, Nat.div_div_eq_div_mul]
theorem half_pos {d s : Nat} (hd : d < 4294967296) (h : half d s ≠ 0) : s < 32 := by
  rcases Nat.lt_or_ge s 32 with h1 | h1
  · exact h1
  · have : (2 : Nat) ^ 32 ≤ 2 ^ s := Nat.pow_le_pow_right (by omega) h1
    exact absurd (Nat.div_eq_of_lt (by omega : d < 2 ^ s)) h
theorem half_le (d s : Nat) : half d s ≤ d := Nat.div_le_self _ _

theorem bits_of {N m s : Nat} (hm : lenL N = m + 1) (h0 : half (dig N m) s = 0) (h1 : s = 0 ∨ half (dig N m) (s - 1) ≠ 0) : bitsN N = 32 * m + s := by
  have hd := dig_top hm
  have hN : N < Bw ^ (m + 1) := by have := lt_pow_lenL N; rwa [hm] at this
  have hs : s ≠ 0 := fun e => hd (by rw [e, half_zero] at h0; exact h0)
  obtain ⟨t, rfl⟩ : ∃ t, s = t + 1 := ⟨s - 1, by omega⟩
  rw [Nat.add_sub_cancel] at h1
  have h2 : half (dig N m) t ≠ 0 := h1.resolve_left (by omega)
  have l1 : 2 ^ t ≤ dig N m := by
    rcases Nat.lt_or_ge (dig N m) (2 ^ t) with h | h
    · exact absurd (Nat.div_eq_of_lt h) h2
    · exact h
  have l2 : dig N m < 2 ^ (t + 1) := by
    rcases Nat.lt_or_ge (dig N m) (2 ^ (t + 1)) with h | h
    · exact h
    · have : 0 < dig N m / 2 ^ (t + 1) := Nat.div_pos h (Nat.two_pow_pos _)
      unfold half at h0; omega
  have e : N = N % Bw ^ m + Bw ^ m * dig N m := by rw [← mod_succ, Nat.mod_eq_of_lt hN]
  have hlt : N % Bw ^ m < Bw ^ m := Nat.mod_lt _ (pow_pos_Bw m)
  obtain ⟨r, hr⟩ : ∃ r, N % Bw ^ m = r := ⟨_, rfl⟩
  rw [hr] at e hlt
  have hp : Bw ^ m = 2 ^ (32 * m) := Bw_pow m
  refine bitsN_eq (k := 32 * m + t) ?_ ?_
  · rw [Nat.pow_add, ← hp]
    have := Nat.mul_le_mul_left (Bw ^ m) l1
    omega
  · rw [show 32 * m + t + 1 = 32 * m + (t + 1) from by omega, Nat.pow_add, ← hp]
    have := Nat.mul_le_mul_left (Bw ^ m) (show dig N m + 1 ≤ 2 ^ (t + 1) from l2)
    rw [Nat.mul_add, Nat.mul_one] at this
    omega

set_option maxRecDepth 100000 in
set_option maxHeartbeats 1000000 in
theorem rBits_any (w : World) (A : Option Addr) (n c N : Nat) (h : Rd w w.heap.size A n N) (hn : n ≤ c) (hcm : c ≤ maxLen) (hb : n ≤ 1000000) :
    Calls Try.prog 18 #[.slice A n c] w fun e w' => e = .returned (.int .i64 (bitsN N : Nat)) ∧ Below w.heap.size w w' := by
  have hl := lenL_le.2 h.1
  have E := Lib.hid (rTrim_any w A n c N h hn hcm (by omega))
  go_enter Try.func18, Try.ntmps18
  go_wp2_with fail
  refine E.out.mono ?_
  rintro e w' ⟨A1, c1, rfl, g1, g2, hF, hBl⟩
  rcases Nat.eq_zero_or_pos (lenL N) with h0 | h0
  · have hN0 := Lib.hid (lenL_eq_zero.1 h0)
    rw [h0] at hF g1 ⊢
    clear h0
    go_wp2
    go_ret
    exact ⟨by rw [hN0.out]; rfl, hBl⟩
  · obtain ⟨m, hm⟩ : ∃ m, lenL N = m + 1 := ⟨lenL N - 1, by omega⟩
    obtain ⟨ad, rfl, _, hc⟩ := hF.rd.at_ (k := m) (by omega)
    have HM := Lib.hid hm
    rw [hm] at hl g1 ⊢
    have hdl := dig_lt N m
    clear hm h0
    go_wp2
    go_loop [3, 4] (fun nv tv => ∃ s t : Nat, s ≤ 32 ∧ nv = .int .i64 (32 * m + s : Nat) ∧ tv = .int .u32 t ∧ Hid (t = half (dig N m) s ∧ (s = 0 ∨ half (dig N m) (s - 1) ≠ 0))) (fun _ tv => (intOf tv).toNat)
    case atStart => exact ⟨0, dig N m, by omega, by go_num, rfl, Lib.hid ⟨(half_zero _).symm, .inl rfl⟩⟩
    case round =>
      obtain ⟨s, t, hs, rfl, rfl, hH⟩ := hrel
      have htl : t < 4294967296 := by have := half_le (dig N m) s; have := hH.out.1; omega
      by_cases ht : t = 0
      · have HB := Lib.hid (bits_of HM.out (by rw [← hH.out.1]; exact ht) hH.out.2)
        subst ht
        go_wp2
        go_ret
        exact ⟨by rw [HB.out]; first | rfl | (refine ret_int ?_; omega), hBl⟩
      · have hs32 : s < 32 := half_pos hdl (by rw [← hH.out.1]; exact ht)
        have HN := Lib.hid (show t / 2 = half (dig N m) (s + 1) ∧ (s + 1 = 0 ∨ half (dig N m) (s + 1 - 1) ≠ 0) from ⟨by rw [hH.out.1, half_succ], .inr (by rw [Nat.add_sub_cancel, ← hH.out.1]; exact ht)⟩)
        have htp : 0 < t := by omega
        clear ht
        go_wp2
        go_round
        case rel => exact ⟨s + 1, t / 2, by omega, by go_num, by go_num, HN⟩
        case measure => simp [intOf]; omega
end Go.Proofs.Ytjakmpphfjhbaaa
