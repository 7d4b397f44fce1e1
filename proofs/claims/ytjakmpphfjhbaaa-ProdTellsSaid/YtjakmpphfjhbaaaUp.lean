/- Contract of the reference's Up of layer 2: shifted up. -/
import Derived.Test.YtjakmpphfjhbaaaDown
namespace Go.Proofs.Ytjakmpphfjhbaaa
open Go Go.RowKit

theorem made_row (w : World) (n : Nat) (hn : n ≤ 35184372087808) : ∃ w1, (Instr.makeSlice 23 (.int .i64 (n : Int)) (.int .i64 (n : Int))).run Try.prog w = .ok (.slice (some ⟨w.heap.size, 0, none⟩) n n) w1 ∧
    w1.ownsRow w.heap.size 25 1 (.slice (some ⟨w.heap.size, 0, none⟩) n n) n (List.replicate n (.int .u32 0)) ∧ Below w.heap.size w w1 := by
  obtain ⟨i0, hi, hz0, hz1, hz2⟩ := info_parts info_u32
  obtain ⟨w1, h1, h2, h3⟩ := run_make_full (P := Try.prog) w w.heap.size 23 25 i0 (.int .u32 0) 1 Try.underlying23 hi hz0 hz1 .i64 .i64 n (by rw [hz2]; omega) (by simp only [maxLen]; omega) (Nat.le_refl _)
  have e : (Value.int .u32 0).cells = #[.int .u32 0] := rfl
  rw [e, toList_madeCells_one, Nat.mul_one] at h2
  exact ⟨w1, h1, h2, (Below.refl _ w).grown h3 (Nat.le_refl _) (fun k e => by cases e)⟩

/-- What a limb's place gets from the place below it. -/
def lowN (N r i : Nat) : Nat := N % Bw ^ i * 2 ^ r / Bw ^ i
theorem lowN_zero (N r : Nat) : lowN N r 0 = 0 := by simp [lowN, Nat.mod_one]
theorem lowN_lt (N r i : Nat) : lowN N r i < 2 ^ r := by
  unfold lowN
  rw [Nat.div_lt_iff_lt_mul (pow_pos_Bw i), Nat.mul_comm (2 ^ r)]
  exact Nat.mul_lt_mul_of_pos_right (Nat.mod_lt _ (pow_pos_Bw i)) (Nat.two_pow_pos r)
theorem lowN_succ (N r i : Nat) : lowN N r (i + 1) = (dig N i * 2 ^ r + lowN N r i) / Bw := by
  unfold lowN
  rw [mod_succ, Nat.pow_succ, ← Nat.div_div_eq_div_mul, Nat.add_mul, Nat.mul_assoc, Nat.add_mul_div_left _ _ (pow_pos_Bw i), Nat.add_comm]
theorem dig_up (N r i : Nat) : dig (N * 2 ^ r) i = (dig N i * 2 ^ r + lowN N r i) % Bw := by
  have e : N * 2 ^ r / Bw ^ i = N / Bw ^ i * 2 ^ r + lowN N r i := by
    conv => lhs; rw [← Nat.div_add_mod N (Bw ^ i)]
    rw [Nat.add_mul, Nat.mul_assoc, Nat.mul_add_div (pow_pos_Bw i)]
    rfl
  have d : dig (N * 2 ^ r) i = (N / Bw ^ i * 2 ^ r + lowN N r i) % Bw := by unfold dig; rw [e]
  rw [d]
  have h := Nat.div_add_mod (N / Bw ^ i) Bw
  have : N / Bw ^ i * 2 ^ r + lowN N r i = Bw * (N / Bw ^ i / Bw * 2 ^ r) + (dig N i * 2 ^ r + lowN N r i) := by
    conv => lhs; rw [← h]
    rw [Nat.add_mul, Nat.mul_assoc, Nat.add_assoc]
    rfl
  rw [this, Nat.mul_add_mod]
/-- A limb shifted up, and what comes from below: side by side. -/
theorem up_parts {d low r : Nat} (hr : r ≤ 32) (hl : low < 2 ^ r) : ∃ c, 2 ^ r * c = 4294967296 ∧ d * 2 ^ r % 4294967296 = d % c * 2 ^ r ∧ (d * 2 ^ r + low) / 4294967296 = d * 2 ^ r / 4294967296 ∧ (d * 2 ^ r + low) % 4294967296 = d % c * 2 ^ r + low ∧ d % c * 2 ^ r + low < 4294967296 := by
  have hB : 2 ^ r * 2 ^ (32 - r) = 4294967296 := by rw [← Nat.pow_add, show r + (32 - r) = 32 from by omega]
  obtain ⟨c, hc⟩ : ∃ c, 2 ^ (32 - r) = c := ⟨_, rfl⟩
  obtain ⟨t, ht⟩ : ∃ t, 2 ^ r = t := ⟨_, rfl⟩
  rw [hc, ht] at hB
  rw [ht] at hl
  have hcp : 0 < c := by
    rcases Nat.eq_zero_or_pos c with h | h
    · subst h
      simp at hB
    · exact h
  rw [ht]
  have h1 := Nat.div_add_mod d c
  obtain ⟨x, hx⟩ : ∃ x, d / c = x := ⟨_, rfl⟩
  obtain ⟨y, hy⟩ : ∃ y, d % c = y := ⟨_, rfl⟩
  have hyc : y < c := by rw [← hy]; exact Nat.mod_lt _ hcp
  rw [hx, hy] at h1
  have e1 : d * t = 4294967296 * x + y * t := by rw [← h1, Nat.add_mul, ← hB]; congr 1; ac_rfl
  have e2 : (y + 1) * t ≤ c * t := Nat.mul_le_mul_right t hyc
  rw [Nat.mul_comm c t, hB, Nat.add_mul, Nat.one_mul] at e2
  exact ⟨c, hB, by rw [hy]; omega, by omega, by rw [hy]; omega, by rw [hy]; omega⟩
theorem or_up {y low r : Nat} (hl : low < 2 ^ r) (h : y * 2 ^ r + low < 4294967296) : bits BinOp.or IntKind.u32 ((y * 2 ^ r : Nat) : Int) (low : Int) = ((y * 2 ^ r + low : Nat) : Int) := by
  rw [u32_or_nat _ low (by omega) (by omega), show y * 2 ^ r = y <<< r from by rw [Nat.shiftLeft_eq], Nat.shiftLeft_add_eq_or_of_lt hl]
theorem up_dig (N q r i : Nat) : dig (N * 2 ^ (32 * q + r)) (q + i) = dig (N * 2 ^ r) i := by
  unfold dig
  rw [Nat.pow_add, ← Bw_pow, show N * (Bw ^ q * 2 ^ r) = Bw ^ q * (N * 2 ^ r) from by ac_rfl, pow_add_mul, Nat.mul_div_mul_left _ _ (pow_pos_Bw q)]
theorem up_low (N q r j : Nat) (h : j < q) : dig (N * 2 ^ (32 * q + r)) j = 0 := by
  unfold dig
  rw [Nat.pow_add, ← Bw_pow, show q = j + 1 + (q - j - 1) from by omega, pow_add_mul, Nat.pow_succ, show N * (Bw ^ j * Bw * Bw ^ (q - j - 1) * 2 ^ r) = Bw ^ j * (Bw * (Bw ^ (q - j - 1) * N * 2 ^ r)) from by ac_rfl, Nat.mul_div_cancel_left _ (pow_pos_Bw j), Nat.mul_mod_right]
theorem limbs_noughts {V q : Nat} (h : ∀ j, j < q → dig V j = 0) : List.replicate q (.int .u32 0) = limbs V q := by
  apply List.ext_getElem?
  intro j
  by_cases hj : j < q
  · rw [limbs_at hj, h j hj, List.getElem?_replicate, if_pos hj]
    rfl
  · rw [List.getElem?_eq_none (by simp; omega), List.getElem?_eq_none (by rw [limbs_length]; omega)]
theorem up_lt {N n q r : Nat} (h : N < Bw ^ n) (hr : r ≤ 32) : N * 2 ^ (32 * q + r) < Bw ^ (q + n + 1) := by
  rw [Nat.pow_add 2, ← Bw_pow, Nat.pow_succ, pow_add_mul]
  have h1 : 2 ^ r ≤ Bw := by have : (2 : Nat) ^ r ≤ 2 ^ 32 := Nat.pow_le_pow_right (by omega) hr; exact this
  calc N * (Bw ^ q * 2 ^ r) = Bw ^ q * N * 2 ^ r := by ac_rfl
    _ ≤ Bw ^ q * N * Bw := Nat.mul_le_mul_left _ h1
    _ < Bw ^ q * Bw ^ n * Bw := Nat.mul_lt_mul_of_pos_right (Nat.mul_lt_mul_of_pos_left h (pow_pos_Bw q)) Bw_pos

set_option maxRecDepth 100000 in
set_option maxHeartbeats 2000000 in
theorem rUp_any (w : World) (A : Option Addr) (n c N : Nat) (k : Int) (h : Rd w w.heap.size A n N) (hn : n ≤ 1000000) (hk : -9223372036854775808 ≤ k ∧ k ≤ 9223372036854775807) :
    Calls Try.prog 22 #[.slice A n c, .int .i64 k] w (Gives w (N * 2 ^ min k.toNat 65536)) := by
  have HC := Lib.hid (fun W => count_any W k 65536 hk (by omega))
  obtain ⟨m, hm⟩ : ∃ m, min k.toNat 65536 = m := ⟨_, rfl⟩
  have hmb : m ≤ 65536 := by omega
  rw [hm] at HC ⊢
  clear hm
  obtain ⟨q, r, hr, rfl⟩ : ∃ q r, r < 32 ∧ m = 32 * q + r := ⟨m / 32, m % 32, by omega, by omega⟩
  obtain ⟨V, hV⟩ : ∃ V, N * 2 ^ (32 * q + r) = V := ⟨_, rfl⟩
  rw [hV]
  have hD : ∀ i, dig V (q + i) = (dig N i * 2 ^ r + lowN N r i) % Bw := fun i => by rw [← hV, up_dig, dig_up]
  have hz : ∀ j, j < q → dig V j = 0 := fun j hj => by rw [← hV]; exact up_low N q r j hj
  have HL := Lib.hid (up_lt (q := q) (r := r) h.1 (by omega))
  have HX := Lib.hid h.1
  rw [hV] at HL
  have HD := Lib.hid hD
  obtain ⟨w1, hmk, ho1, hb1⟩ := made_row w q (by omega)
  rw [limbs_noughts hz] at ho1
  have HO1 := Lib.hid ho1
  have HB1 := Lib.hid hb1
  clear hV hD hz ho1 hb1
  obtain ⟨i0, hi, hz0, hz1, hz2⟩ := info_parts info_u32
  have hq : ((32 * q + r : Nat) : Int) / 32 = (q : Int) := by omega
  have hr' : ((32 * q + r : Nat) : Int) % 32 = (r : Int) := by omega
  have hqb : q ≤ 2048 := by omega
  obtain ⟨m, hm⟩ : ∃ m, 32 * q + r = m := ⟨_, rfl⟩
  rw [hm] at HC hq hr' hmb
  clear hm
  go_enter Try.func22, Try.ntmps22
  go_wp2_with (go_at_call 40; refine (HC.out w).mono ?_; rintro e w' ⟨rfl, rfl⟩)
  clear hmk
  go_loopw [5, 6, 7] (fun ov lv i wr => ∃ j t : Nat, j ≤ n ∧ i = .int .i64 j ∧ lv = .int .u32 t ∧ t < 4294967296 ∧ Hid (t = lowN N r j) ∧ wr.ownsRow w.heap.size 25 1 ov (q + j) (limbs V (q + j)) ∧ Below w.heap.size w wr) (fun _ _ i _ => n - (intOf i).toNat)
  case atStart => exact ⟨0, 0, Nat.zero_le _, rfl, rfl, by omega, Lib.hid (lowN_zero N r).symm, HO1.out, HB1.out⟩
  case round =>
    rename_i ov
    obtain ⟨j, t, hj, rfl, rfl, htb, ht, hown, hB⟩ := hrel
    have hsz := hB.size
    have HO := Lib.hid hown
    clear hown
    by_cases hlt : j < n
    · obtain ⟨ad, rfl, hadb, hc⟩ := (h.below hB).at_ hlt
      have d1 := dig_lt N j
      have htl : t < 2 ^ r := by rw [ht.out]; exact lowN_lt N r j
      obtain ⟨cc, u1, u2, u3, u4, u5'⟩ := up_parts (d := dig N j) (low := t) (r := r) (by omega) htl
      have hpi : (dig N j : Int) * 2 ^ r = ((dig N j * 2 ^ r : Nat) : Int) := by rw [Int.natCast_mul, Int.natCast_pow]; rfl
      have hpb : dig N j * 2 ^ r ≤ 18446744073709551615 := by
        have h1 : (2 : Nat) ^ r ≤ 2 ^ 31 := Nat.pow_le_pow_right (by omega) (by omega)
        have h2 := Nat.mul_le_mul (show dig N j ≤ 4294967295 by omega) h1
        omega
      have hm0 : 0 ≤ (dig N j : Int) * 2 ^ r := by rw [hpi]; omega
      have hm1 : (dig N j : Int) * 2 ^ r ≤ 18446744073709551615 := by rw [hpi]; omega
      have HV1 := Lib.hid (show Value.int .u32 (bits BinOp.or IntKind.u32 ((dig N j : Int) * 2 ^ r % 4294967296) (t : Int)) = .int .u32 (dig V (q + j) : Nat) by
        rw [hpi, show ((dig N j * 2 ^ r : Nat) : Int) % 4294967296 = ((dig N j * 2 ^ r % 4294967296 : Nat) : Int) from by omega, u2, or_up htl u5', HD.out j, ← ht.out, Bw_eq, u4])
      have HV2 := Lib.hid (show Value.int .u32 ((dig N j : Int) * 2 ^ r / 4294967296) = .int .u32 (dig N j * 2 ^ r / 4294967296 : Nat) by rw [hpi]; congr 1)
      have HT := Lib.hid (show dig N j * 2 ^ r / 4294967296 = lowN N r (j + 1) by rw [lowN_succ, ← ht.out, Bw_eq, u3])
      have htn : dig N j * 2 ^ r / 4294967296 < 4294967296 := by omega
      clear u1 u2 u3 u4 u5' htl hpi hpb
      go_wp2_with (at_builtin; refine wpList_append_row _ rfl (.tmp 29) (.tmp 34) _ rfl w.heap.size 25 i0 (.int .u32 0) 4 Try.underlying23 hi hz0 hz1 hz2 rfl _ (q + j) (limbs V (q + j)) rfl (HO.out.alloc _) (some ⟨wr.heap.size, 0, none⟩) 1 1 [.int .u32 (bits BinOp.or IntKind.u32 ((dig N j : Int) * 2 ^ r % 4294967296) (t : Int))] rfl rfl (one_read _ _ _) (oneCell_u32 _) (by simp only [maxLen]; omega) (by omega) (by simp; omega) ?_; intro v' w1 hown' hg' _; have HW := Lib.hid (own_step hB HO.out HV1.out hown' hg'); clear hown' hg')
      go_roundw
      case rel => exact ⟨j + 1, dig N j * 2 ^ r / 4294967296, by omega, by go_num, HV2.out, htn, HT, HW.out.1, HW.out.2⟩
      case measure => simp [intOf]; omega
    · obtain rfl : j = n := by omega
      have HV1 := Lib.hid (show Value.int .u32 (t : Int) = .int .u32 (dig V (q + j) : Nat) by
        have hl := HD.out j
        rw [dig_ge HX.out (Nat.le_refl _), Nat.zero_mul, Nat.zero_add, ← ht.out, Nat.mod_eq_of_lt (by rw [Bw_eq]; exact htb)] at hl
        rw [hl])
      go_wp2_with (at_builtin; refine wpList_append_row _ rfl (.tmp 39) (.tmp 41) _ rfl w.heap.size 25 i0 (.int .u32 0) 4 Try.underlying23 hi hz0 hz1 hz2 rfl _ (q + j) (limbs V (q + j)) rfl (HO.out.alloc _) (some ⟨wr.heap.size, 0, none⟩) 1 1 [.int .u32 (t : Int)] rfl rfl (one_read _ _ _) (oneCell_u32 _) (by simp only [maxLen]; omega) (by omega) (by simp; omega) ?_; intro v' w1 hown' hg' _; have HW := Lib.hid (own_step hB HO.out HV1.out hown' hg'); clear hown' hg')
      refine (own_trim HW.out.2 HW.out.1 HL.out (by omega)).mono ?_
      rintro e w2 ⟨A2, c2, rfl, g1, g2, g3, g4⟩
      go_wp2
      go_ret
      exact ⟨A2, c2, rfl, g1, g2, g3, g4⟩
end Go.Proofs.Ytjakmpphfjhbaaa
