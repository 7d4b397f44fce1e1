/- Contract of the reference's count of layer 2. -/
import Derived.Test.YtaancfhbmjkoaaaGreatDoorGNum
import Derived.Test.YtaancfhbmjkoaaaGreatDoorGRefA
namespace Go.Proofs.YtaancfhbmjkoaaaGreatDoor
open Go Go.RowKit

/-- A count brought into its bounds. -/
theorem count_any (w : World) (k : Int) (m : Nat) (hk : -9223372036854775808 ≤ k ∧ k ≤ 9223372036854775807) (hm : m ≤ 1000000) :
    Calls Tryz.prog 80 #[.int .i64 k, .int .i64 m] w fun e w' => e = .returned (.int .i64 (min k.toNat m : Nat)) ∧ w = w' := by
  by_cases h0 : k < 0
  · have HV := Lib.hid (show min k.toNat m = 0 by omega)
    go_enter Tryz.func80, Tryz.ntmps80
    go_wp2
    go_ret
    exact ⟨by rw [HV.out]; first | rfl | (refine ret_int ?_; omega), rfl⟩
  · obtain ⟨K, rfl⟩ := Int.eq_ofNat_of_zero_le (show 0 ≤ k by omega)
    by_cases h1 : K ≤ m
    · go_enter Tryz.func80, Tryz.ntmps80
      go_wp2
      go_ret
      exact ⟨by refine ret_int ?_; omega, rfl⟩
    · go_enter Tryz.func80, Tryz.ntmps80
      go_wp2
      go_ret
      exact ⟨by refine ret_int ?_; omega, rfl⟩

end Go.Proofs.YtaancfhbmjkoaaaGreatDoor

/- Contract of the reference's Up of layer 2: shifted up. -/
namespace Go.Proofs.YtaancfhbmjkoaaaGreatDoor
open Go Go.RowKit

set_option maxRecDepth 100000 in
set_option maxHeartbeats 2000000 in
theorem rUp_any (w : World) (A : Option Addr) (n c N : Nat) (k : Int) (h : Rd w w.heap.size A n N) (hn : n ≤ 1000000) (hk : -9223372036854775808 ≤ k ∧ k ≤ 9223372036854775807) :
    Calls Tryz.prog 61 #[.slice A n c, .int .i64 k] w (Gives w (N * 2 ^ min k.toNat 65536)) := by
  have HC := Lib.hid (fun W => count_any W k 65536 hk (by omega))
  obtain ⟨m, hm⟩ : ∃ m, min k.toNat 65536 = m := ⟨_, rfl⟩
  have hmb : m ≤ 65536 := by omega
  rw [hm] at HC ⊢
  clear hm
  obtain ⟨q, r, hr, rfl⟩ : ∃ q r, r < 32 ∧ m = 32 * q + r := ⟨m / 32, m % 32, by omega, by omega⟩
  obtain ⟨V, hV⟩ : ∃ V, N * 2 ^ (32 * q + r) = V := ⟨_, rfl⟩
  rw [hV]
  have hD : ∀ i, dig V (q + i) = (dig N i * 2 ^ r + lowN N r i) % Bw := fun i => by rw [← hV, up_dig, dig_up]
  have hz : ∀ j, j < q → dig V j = 0 := fun j hj => by rw [← hV]; exact up_low N q r j hj
  have HL := Lib.hid (up_lt (q := q) (r := r) h.1 (by omega))
  have HX := Lib.hid h.1
  rw [hV] at HL
  have HD := Lib.hid hD
  obtain ⟨w1, hmk, ho1, hb1⟩ := made_row w q (by omega)
  rw [limbs_noughts hz] at ho1
  have HO1 := Lib.hid ho1
  have HB1 := Lib.hid hb1
  clear hV hD hz ho1 hb1
  obtain ⟨i0, hi, hz0, hz1, hz2⟩ := info_parts info_u32
  have hq : ((32 * q + r : Nat) : Int) / 32 = (q : Int) := by omega
  have hr' : ((32 * q + r : Nat) : Int) % 32 = (r : Int) := by omega
  have hqb : q ≤ 2048 := by omega
  obtain ⟨m, hm⟩ : ∃ m, 32 * q + r = m := ⟨_, rfl⟩
  rw [hm] at HC hq hr' hmb
  clear hm
  go_enter Tryz.func61, Tryz.ntmps61
  go_wp2_with (go_at_call 80; refine (HC.out w).mono ?_; rintro e w' ⟨rfl, rfl⟩)
  clear hmk
  go_loopw [5, 6, 7] (fun ov lv i wr => ∃ j t : Nat, j ≤ n ∧ i = .int .i64 j ∧ lv = .int .u32 t ∧ t < 4294967296 ∧ Hid (t = lowN N r j) ∧ wr.ownsRow w.heap.size 47 1 ov (q + j) (limbs V (q + j)) ∧ Below w.heap.size w wr) (fun _ _ i _ => n - (intOf i).toNat)
  case atStart => exact ⟨0, 0, Nat.zero_le _, rfl, rfl, by omega, Lib.hid (lowN_zero N r).symm, HO1.out, HB1.out⟩
  case round =>
    rename_i ov
    obtain ⟨j, t, hj, rfl, rfl, htb, ht, hown, hB⟩ := hrel
    have hsz := hB.size
    have HO := Lib.hid hown
    clear hown
    by_cases hlt : j < n
    · obtain ⟨ad, rfl, hadb, hc⟩ := (h.below hB).at_ hlt
      have d1 := dig_lt N j
      have htl : t < 2 ^ r := by rw [ht.out]; exact lowN_lt N r j
      obtain ⟨cc, u1, u2, u3, u4, u5'⟩ := up_parts (d := dig N j) (low := t) (r := r) (by omega) htl
      have hpi : (dig N j : Int) * 2 ^ r = ((dig N j * 2 ^ r : Nat) : Int) := by rw [Int.natCast_mul, Int.natCast_pow]; rfl
      have hpb : dig N j * 2 ^ r ≤ 18446744073709551615 := by
        have h1 : (2 : Nat) ^ r ≤ 2 ^ 31 := Nat.pow_le_pow_right (by omega) (by omega)
        have h2 := Nat.mul_le_mul (show dig N j ≤ 4294967295 by omega) h1
        omega
      have hm0 : 0 ≤ (dig N j : Int) * 2 ^ r := by rw [hpi]; omega
      have hm1 : (dig N j : Int) * 2 ^ r ≤ 18446744073709551615 := by rw [hpi]; omega
      have HV1 := Lib.hid (show Value.int .u32 (bits BinOp.or IntKind.u32 ((dig N j : Int) * 2 ^ r % 4294967296) (t : Int)) = .int .u32 (dig V (q + j) : Nat) by
        rw [hpi, show ((dig N j * 2 ^ r : Nat) : Int) % 4294967296 = ((dig N j * 2 ^ r % 4294967296 : Nat) : Int) from by omega, u2, or_up htl u5', HD.out j, ← ht.out, Bw_eq, u4])
      have HV2 := Lib.hid (show Value.int .u32 ((dig N j : Int) * 2 ^ r / 4294967296) = .int .u32 (dig N j * 2 ^ r / 4294967296 : Nat) by rw [hpi]; congr 1)
      have HT := Lib.hid (show dig N j * 2 ^ r / 4294967296 = lowN N r (j + 1) by rw [lowN_succ, ← ht.out, Bw_eq, u3])
      have htn : dig N j * 2 ^ r / 4294967296 < 4294967296 := by omega
      clear u1 u2 u3 u4 u5' htl hpi hpb
      go_wp2_with (at_builtin; refine wpList_append_row _ rfl (.tmp 29) (.tmp 34) _ rfl w.heap.size 47 i0 (.int .u32 0) 4 Tryz.underlying23 hi hz0 hz1 hz2 rfl _ (q + j) (limbs V (q + j)) rfl (HO.out.alloc _) (some ⟨wr.heap.size, 0, none⟩) 1 1 [.int .u32 (bits BinOp.or IntKind.u32 ((dig N j : Int) * 2 ^ r % 4294967296) (t : Int))] rfl rfl (one_read _ _ _) (oneCell_u32 _) (by simp only [maxLen]; omega) (by omega) (by simp; omega) ?_; intro v' w1 hown' hg' _; have HW := Lib.hid (own_step hB HO.out HV1.out hown' hg'); clear hown' hg')
      go_roundw
      case rel => exact ⟨j + 1, dig N j * 2 ^ r / 4294967296, by omega, by go_num, HV2.out, htn, HT, HW.out.1, HW.out.2⟩
      case measure => simp [intOf]; omega
    · obtain rfl : j = n := by omega
      have HV1 := Lib.hid (show Value.int .u32 (t : Int) = .int .u32 (dig V (q + j) : Nat) by
        have hl := HD.out j
        rw [dig_ge HX.out (Nat.le_refl _), Nat.zero_mul, Nat.zero_add, ← ht.out, Nat.mod_eq_of_lt (by rw [Bw_eq]; exact htb)] at hl
        rw [hl])
      go_wp2_with (at_builtin; refine wpList_append_row _ rfl (.tmp 39) (.tmp 41) _ rfl w.heap.size 47 i0 (.int .u32 0) 4 Tryz.underlying23 hi hz0 hz1 hz2 rfl _ (q + j) (limbs V (q + j)) rfl (HO.out.alloc _) (some ⟨wr.heap.size, 0, none⟩) 1 1 [.int .u32 (t : Int)] rfl rfl (one_read _ _ _) (oneCell_u32 _) (by simp only [maxLen]; omega) (by omega) (by simp; omega) ?_; intro v' w1 hown' hg' _; have HW := Lib.hid (own_step hB HO.out HV1.out hown' hg'); clear hown' hg')
      refine (own_trim HW.out.2 HW.out.1 HL.out (by omega)).mono ?_
      rintro e w2 ⟨A2, c2, rfl, g1, g2, g3, g4⟩
      go_wp2
      go_ret
      exact ⟨A2, c2, rfl, g1, g2, g3, g4⟩
end Go.Proofs.YtaancfhbmjkoaaaGreatDoor

/- The reference's Up, over numbers at hand. -/
namespace Go.Proofs.YtaancfhbmjkoaaaGreatDoor
open Go Go.RowKit

section
variable {w W : World} {e : List Num} {x y : Num}
theorem rUp_E {k : Int} (h : Env w e W) (hx : x ∈ e) (bx : x.n ≤ 100000) (hk : -9223372036854775808 ≤ k ∧ k ≤ 9223372036854775807) :
    Calls Tryz.prog 61 #[.slice x.A x.n x.c, .int .i64 k] W (Back w e W.heap.size (x.N * 2 ^ min k.toNat 65536) (fun r => .slice r.A r.n r.c)) :=
  (rUp_any W _ _ _ _ _ (h.2 x hx).1 (by omega) hk).mono fun _ _ hg => back_of_gives h hg (by have := up_len (h.2 x hx).1.1 (min k.toNat 65536); omega)
end
end Go.Proofs.YtaancfhbmjkoaaaGreatDoor
