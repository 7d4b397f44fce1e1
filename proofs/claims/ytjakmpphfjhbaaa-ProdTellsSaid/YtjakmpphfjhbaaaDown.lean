/- Contract of the reference's Down of layer 2: shifted down. -/
import Derived.Test.YtjakmpphfjhbaaaProds
namespace Go.Proofs.Ytjakmpphfjhbaaa
open Go Go.RowKit

theorem down_dig {N q r j : Nat} (hr : r ≤ 32) : dig (N / 2 ^ (32 * q + r)) j = (dig N (q + j) + 4294967296 * dig N (q + j + 1)) / 2 ^ r % 4294967296 := by
  have hB : Bw = 2 ^ r * 2 ^ (32 - r) := by rw [← Nat.pow_add, show r + (32 - r) = 32 from by omega]; rfl
  obtain ⟨Y, hY⟩ : ∃ Y, N / Bw ^ (q + j) = Y := ⟨_, rfl⟩
  have e1 : dig (N / 2 ^ (32 * q + r)) j = Y / 2 ^ r % Bw := by
    unfold dig
    rw [Nat.pow_add, ← Bw_pow, ← hY, pow_add_mul, ← Nat.div_div_eq_div_mul, ← Nat.div_div_eq_div_mul, Nat.div_div_eq_div_mul _ (2 ^ r), Nat.mul_comm (2 ^ r), ← Nat.div_div_eq_div_mul]
  have e2 : dig N (q + j) = Y % Bw := by unfold dig; rw [hY]
  have e3 : dig N (q + j + 1) = Y / Bw % Bw := by unfold dig; rw [Nat.pow_succ, ← Nat.div_div_eq_div_mul, hY]
  rw [e1, e2, e3, ← Bw_eq]
  have e4 : Y = 2 ^ r * (2 ^ (32 - r) * Bw * (Y / Bw / Bw)) + (Y % Bw + Bw * (Y / Bw % Bw)) := by
    have h1 := Nat.div_add_mod Y Bw
    have h2 := Nat.div_add_mod (Y / Bw) Bw
    have h3 : 2 ^ r * (2 ^ (32 - r) * Bw * (Y / Bw / Bw)) = Bw * (Bw * (Y / Bw / Bw)) := by rw [← Nat.mul_assoc, ← Nat.mul_assoc, ← hB, Nat.mul_assoc]
    rw [h3]
    have h4 : Bw * (Y / Bw) = Bw * (Bw * (Y / Bw / Bw)) + Bw * (Y / Bw % Bw) := by rw [← Nat.mul_add, h2]
    omega
  obtain ⟨y, hy⟩ : ∃ y, Y % Bw + Bw * (Y / Bw % Bw) = y := ⟨_, rfl⟩
  obtain ⟨z, hz⟩ : ∃ z, Y / Bw / Bw = z := ⟨_, rfl⟩
  rw [hy, hz] at e4
  rw [hy]
  conv => lhs; rw [e4, Nat.mul_add_div (Nat.two_pow_pos r)]
  rw [show 2 ^ (32 - r) * Bw * z = Bw * (2 ^ (32 - r) * z) from by ac_rfl, Nat.mul_add_mod]
theorem down_lt {N n q r j : Nat} (h : N < Bw ^ n) (hj : n ≤ q + j) : N / 2 ^ (32 * q + r) < Bw ^ j := by
  rw [Nat.pow_add, ← Bw_pow, ← Nat.div_div_eq_div_mul]
  refine Nat.lt_of_le_of_lt (Nat.div_le_self _ _) ?_
  rw [Nat.div_lt_iff_lt_mul (pow_pos_Bw q), ← Nat.pow_add, Nat.add_comm]
  exact Nat.lt_of_lt_of_le h (Nat.pow_le_pow_right Bw_pos hj)

theorem cast_shift (X r : Nat) : (X : Int) / 2 ^ r % 4294967296 = ((X / 2 ^ r % 4294967296 : Nat) : Int) := by
  rw [Int.natCast_emod, Int.natCast_ediv, Int.natCast_pow]
  rfl
theorem int_i64 {a b : Int} (h : a = b) : Value.int .i64 a = .int .i64 b := by rw [h]
theorem or_limbs2 {x y : Nat} (hx : x < 4294967296) (hy : y < 4294967296) : bits BinOp.or IntKind.u64 (x : Int) ((y : Int) * 4294967296) = ((x + 4294967296 * y : Nat) : Int) := by
  have e : ((y : Int) * 4294967296) = ((y * 4294967296 : Nat) : Int) := by omega
  rw [e, u64_or_nat x (y * 4294967296) (by omega) (by omega)]
  have : x ||| y * 4294967296 = x + 4294967296 * y := by
    rw [Nat.or_comm, show y * 4294967296 = y <<< 32 from by rw [Nat.shiftLeft_eq], ← Nat.shiftLeft_add_eq_or_of_lt hx, Nat.shiftLeft_eq]
    omega
  rw [this]

set_option maxRecDepth 100000 in
set_option maxHeartbeats 2000000 in
theorem rDown_any (w : World) (A : Option Addr) (n c N : Nat) (k : Int) (h : Rd w w.heap.size A n N) (hn : n ≤ 1000000) (hk : -9223372036854775808 ≤ k ∧ k ≤ 9223372036854775807) :
    Calls Try.prog 24 #[.slice A n c, .int .i64 k] w (Gives w (N / 2 ^ min k.toNat 65536)) := by
  have HC := Lib.hid (fun W => count_any W k 65536 hk (by omega))
  obtain ⟨m, hm⟩ : ∃ m, min k.toNat 65536 = m := ⟨_, rfl⟩
  have hmb : m ≤ 65536 := by omega
  rw [hm] at HC ⊢
  clear hm
  obtain ⟨q, r, hr, rfl⟩ : ∃ q r, r < 32 ∧ m = 32 * q + r := ⟨m / 32, m % 32, by omega, by omega⟩
  obtain ⟨V, hV⟩ : ∃ V, N / 2 ^ (32 * q + r) = V := ⟨_, rfl⟩
  rw [hV]
  have HD := Lib.hid (fun j => down_dig (N := N) (q := q) (r := r) (j := j) (by omega))
  have HL := Lib.hid (fun j => down_lt (q := q) (r := r) (j := j) h.1)
  rw [hV] at HD HL
  clear hV
  obtain ⟨i0, hi, hz0, hz1, hz2⟩ := info_parts info_u32
  have hq : ((32 * q + r : Nat) : Int) / 32 = (q : Int) := by omega
  have hr' : ((32 * q + r : Nat) : Int) % 32 = (r : Int) := by omega
  obtain ⟨m, hm⟩ : ∃ m, 32 * q + r = m := ⟨_, rfl⟩
  rw [hm] at HC hq hr' hmb
  clear hm
  go_enter Try.func24, Try.ntmps24
  go_wp2_with (go_at_call 40; refine (HC.out w).mono ?_; rintro e w' ⟨rfl, rfl⟩)
  go_loopw [5, 6] (fun ov i wr => ∃ j : Nat, (q + j ≤ n ∨ j = 0) ∧ i = .int .i64 (q + j : Nat) ∧ wr.ownsRow w.heap.size 25 1 ov j (limbs V j) ∧ Below w.heap.size w wr) (fun _ i _ => n - (intOf i).toNat)
  case atStart => exact ⟨0, .inr rfl, by go_num, World.ownsRow_nil _ _ _ _, Below.refl _ _⟩
  case round =>
    rename_i ov
    obtain ⟨j, hj, rfl, hown, hB⟩ := hrel
    have hjb : j ≤ 1000000 := by omega
    have hsz := hB.size
    obtain ⟨p, hp⟩ : ∃ p, q + j = p := ⟨_, rfl⟩
    rw [hp] at hj ⊢
    have HO := Lib.hid hown
    have HP := Lib.hid hp
    clear hown hp
    by_cases hlt : p < n
    · obtain ⟨ad, rfl, hadb, hc⟩ := (h.below hB).at_ hlt
      have d1 := dig_lt N p
      obtain ⟨s, hs⟩ : ∃ s, p + 1 = s := ⟨_, rfl⟩
      have HDj := Lib.hid (show dig V j = (dig N p + 4294967296 * dig N s) / 2 ^ r % 4294967296 by have := HD.out j; rw [HP.out, hs] at this; exact this)
      have hidx : (p : Int) + 1 = (s : Int) := by omega
      have hps : p < s := by omega
      have HS := Lib.hid hs
      clear hs
      by_cases hlast : s < n
      · obtain ⟨ad', e', _, hc'⟩ := (h.below hB).at_ hlast
        cases e'
        have d2 := dig_lt N s
        have HV1 := Lib.hid (show Value.int .u32 (bits BinOp.or IntKind.u64 (dig N p : Int) ((dig N s : Int) * 4294967296) / 2 ^ r % 4294967296) = .int .u32 (dig V j : Nat) by rw [or_limbs2 d1 d2, HDj.out, cast_shift])
        go_wp2_with (at_builtin; refine wpList_append_row _ rfl (.tmp 37) (.tmp 44) _ rfl w.heap.size 25 i0 (.int .u32 0) 4 Try.underlying23 hi hz0 hz1 hz2 rfl _ j (limbs V j) rfl (HO.out.alloc _) (some ⟨wr.heap.size, 0, none⟩) 1 1 [.int .u32 (bits BinOp.or IntKind.u64 (dig N p : Int) ((dig N s : Int) * 4294967296) / 2 ^ r % 4294967296)] rfl rfl (one_read _ _ _) (oneCell_u32 _) (by simp only [maxLen]; omega) (by omega) (by simp; omega) ?_; intro v' w1 hown' hg' _; have HW := Lib.hid (own_step hB HO.out HV1.out hown' hg'); clear hown' hg')
        go_roundw
        case rel => exact ⟨j + 1, .inl (by have := HP.out; have := HS.out; omega), by have := HP.out; have := HS.out; refine int_i64 ?_; omega, HW.out.1, HW.out.2⟩
        case measure => have := HS.out; simp [intOf]; omega
      · have HV1 := Lib.hid (show Value.int .u32 ((dig N p : Int) / 2 ^ r % 4294967296) = .int .u32 (dig V j : Nat) by rw [HDj.out, dig_ge h.1 (by omega : n ≤ s), Nat.mul_zero, Nat.add_zero, cast_shift])
        go_wp2_with (at_builtin; refine wpList_append_row _ rfl (.tmp 37) (.tmp 44) _ rfl w.heap.size 25 i0 (.int .u32 0) 4 Try.underlying23 hi hz0 hz1 hz2 rfl _ j (limbs V j) rfl (HO.out.alloc _) (some ⟨wr.heap.size, 0, none⟩) 1 1 [.int .u32 ((dig N p : Int) / 2 ^ r % 4294967296)] rfl rfl (one_read _ _ _) (oneCell_u32 _) (by simp only [maxLen]; omega) (by omega) (by simp; omega) ?_; intro v' w1 hown' hg' _; have HW := Lib.hid (own_step hB HO.out HV1.out hown' hg'); clear hown' hg')
        go_roundw
        case rel => exact ⟨j + 1, .inl (by have := HP.out; have := HS.out; omega), by have := HP.out; have := HS.out; refine int_i64 ?_; omega, HW.out.1, HW.out.2⟩
        case measure => have := HS.out; simp [intOf]; omega
    · have HV := Lib.hid (HL.out j (by have := HP.out; omega))
      have E := Lib.hid (own_trim hB HO.out HV.out (by omega))
      go_wp2_with fail
      refine E.out.mono ?_
      rintro e w2 ⟨A2, c2, rfl, g1, g2, g3, g4⟩
      go_wp2
      go_ret
      exact ⟨A2, c2, rfl, g1, g2, g3, g4⟩
end Go.Proofs.Ytjakmpphfjhbaaa
