/- Contract of the reference's Small of layer 1. -/
import Derived.Test.YtolldhfcnbbelaaGreatDoorGRefA
namespace Go.Proofs.YtolldhfcnbbelaaGreatDoor
open Go Go.RowKit

/-- What is left of N above its first s limbs. -/
def hiN (N s : Nat) : Nat := N / Bw ^ s
theorem hiN_zero (N : Nat) : hiN N 0 = N := by simp [hiN]
theorem hiN_top (N : Nat) : hiN N (lenL N) = 0 := Nat.div_eq_of_lt (lt_pow_lenL N)
theorem hiN_le (N s : Nat) : hiN N s ≤ N := Nat.div_le_self _ _
theorem shift_in {N j : Nat} : hiN N (j + 1) * 4294967296 + dig N j = hiN N j := by
  unfold dig hiN
  rw [Nat.pow_succ, ← Nat.div_div_eq_div_mul, ← Bw_eq, Nat.mul_comm]
  exact Nat.div_add_mod _ _

set_option maxHeartbeats 1000000 in
theorem rSmall_no (w : World) (A : Option Addr) (n c N : Nat) (h : Rd w w.heap.size A n N) (hn : n ≤ c) (hcm : c ≤ maxLen) (hb : n ≤ 35184372087808) (hN : ¬ N < 18446744073709551616) :
    Calls Tryz.prog 31 #[.slice A n c] w fun e w' => e = .returned (.tuple #[.int .u64 0, .bool false]) ∧ Below w.heap.size w w' := by
  have h2 : 2 < lenL N := by rw [← lenL_small] at hN; omega
  have hl := lenL_le.2 h.1
  clear hN
  go_enter Tryz.func31, Tryz.ntmps31
  go_wp2_with fail
  refine (rTrim_any w A n c N h hn hcm hb).mono ?_
  rintro e w' ⟨A1, c1, rfl, g1, g2, hF, hBl⟩
  go_wp2
  go_ret2
  exact ⟨rfl, hBl⟩

set_option maxHeartbeats 1000000 in
theorem rSmall_yes (w : World) (A : Option Addr) (n c N : Nat) (h : Rd w w.heap.size A n N) (hn : n ≤ c) (hcm : c ≤ maxLen) (hb : n ≤ 35184372087808) (hN : N < 18446744073709551616) :
    Calls Tryz.prog 31 #[.slice A n c] w fun e w' => e = .returned (.tuple #[.int .u64 N, .bool true]) ∧ Below w.heap.size w w' := by
  have h2 : lenL N ≤ 2 := lenL_small.2 hN
  have hl := lenL_le.2 h.1
  have HN := Lib.hid hN
  clear hN
  go_enter Tryz.func31, Tryz.ntmps31
  go_wp2_with fail
  refine (rTrim_any w A n c N h hn hcm hb).mono ?_
  rintro e w' ⟨A1, c1, rfl, g1, g2, hF, hBl⟩
  go_wp2
  go_loop [5, 6] (fun v i => ∃ s : Nat, s ≤ lenL N ∧ v = .int .u64 (hiN N s : Nat) ∧ DownAt (fun s' => s' = s) i) (fun _ i => (intOf i + 1).toNat)
  case atStart => exact ⟨lenL N, Nat.le_refl _, by rw [hiN_top]; rfl, downAt (lenL N) (by omega) rfl⟩
  case round =>
    obtain ⟨s, hs, rfl, hD⟩ := hrel
    rcases hD with ⟨rfl, h0⟩ | ⟨j, hj, rfl, h0⟩
    · have H0 := Lib.hid (show hiN N s = N by rw [← h0]; exact hiN_zero N)
      clear h0
      go_wp2
      go_ret2
      exact ⟨by rw [H0.out]; rfl, hBl⟩
    · subst h0
      obtain ⟨ad, rfl, _, hc⟩ := hF.rd.at_ (k := j) (by omega)
      have hsh := shift_in (N := N) (j := j)
      have hle := hiN_le N j
      have hd := dig_lt N j
      obtain ⟨q, hq⟩ : ∃ q, hiN N (j + 1) = q := ⟨_, rfl⟩
      have hN' := HN.out
      rw [hq] at hsh ⊢
      have hqb : q < 4294967296 := by omega
      have hqd : q * 4294967296 + dig N j < 18446744073709551616 := by omega
      have HSh := Lib.hid hsh
      clear hsh hq hle hN'
      go_wp2
      go_round
      case rel => exact ⟨j, by omega, by rw [← HSh.out]; go_num, downAt j (by omega) rfl⟩
      case measure => simp [intOf]
end Go.Proofs.YtolldhfcnbbelaaGreatDoor
