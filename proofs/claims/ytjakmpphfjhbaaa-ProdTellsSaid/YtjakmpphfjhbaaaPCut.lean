/- Contracts of package prod's small functions: cut, count, limbAt, and of bits.Add32, bits.Len32, Bits. -/
import Derived.Test.YtjakmpphfjhbaaaNNat
import Derived.Test.YtjakmpphfjhbaaaProds
import Derived.Test.YtjakmpphfjhbaaaBits
namespace Go.Proofs.Ytjakmpphfjhbaaa
open Go Go.RowKit

set_option maxHeartbeats 400000 in
theorem pcut_any (w : World) (hi : Nat) (A : Option Addr) (n c N : Nat) (h : Rd w hi A n N) (hn : n ≤ c) (hc : c ≤ 9223372036854775807) :
    Calls Try.prog 30 #[.slice A n c] w fun e w' => e = .returned (.slice (cutA N A) (lenL N) (lenL N)) ∧ w = w' := by
  go_enter Try.func30, Try.ntmps30
  go_wp2
  go_loop [3] (fun i => ∃ k : Nat, k ≤ n ∧ i = .int .i64 k ∧ Hid (N < Bw ^ k)) (fun i => (intOf i).toNat)
  case atStart => exact ⟨n, Nat.le_refl _, rfl, Lib.hid h.1⟩
  case round =>
    obtain ⟨k, hk, rfl, hN⟩ := hrel
    rcases Nat.eq_zero_or_pos k with rfl | hpos
    · have h0 : N = 0 := by simpa using hN.out
      subst h0
      go_wp2
      go_ret
      exact ⟨rfl, rfl⟩
    · obtain ⟨j, rfl⟩ : ∃ j, k = j + 1 := ⟨k - 1, by omega⟩
      obtain ⟨ad, rfl, _, hcell⟩ := h.at_ (k := j) (by omega)
      by_cases hd : dig N j = 0
      · rw [hd] at hcell
        go_wp2
        go_round
        case rel => exact ⟨j, by omega, by go_num, Lib.hid (lt_pow_pred hN.out hd)⟩
        case measure => simp [intOf]
      · have hb : ((dig N j : Int) == 0) = false := by simpa using hd
        have hlen := Lib.hid (lenL_eq hN.out hd)
        have hN0 : ¬ N = 0 := fun h0 => hd (by rw [h0]; exact dig_zero j)
        clear hd
        go_wp2
        go_ret
        exact ⟨by rw [hlen.out, cutA_pos hN0]; rfl, rfl⟩

theorem cut_none {A : Option Addr} : cutA 0 A = none := cutA_zero A

/-- A count brought into its bounds. -/
theorem pcount_any (w : World) (k : Int) (m : Nat) (hk : -9223372036854775808 ≤ k ∧ k ≤ 9223372036854775807) (hm : m ≤ 1000000) :
    Calls Try.prog 39 #[.int .i64 k, .int .i64 m] w fun e w' => e = .returned (.int .i64 (min k.toNat m : Nat)) ∧ w = w' := by
  by_cases h0 : k < 0
  · have HV := Lib.hid (show min k.toNat m = 0 by omega)
    go_enter Try.func39, Try.ntmps39
    go_wp2
    go_ret
    exact ⟨by rw [HV.out]; first | rfl | (refine ret_int ?_; omega), rfl⟩
  · obtain ⟨K, rfl⟩ := Int.eq_ofNat_of_zero_le (show 0 ≤ k by omega)
    by_cases h1 : K ≤ m
    · go_enter Try.func39, Try.ntmps39
      go_wp2
      go_ret
      exact ⟨by refine ret_int ?_; omega, rfl⟩
    · go_enter Try.func39, Try.ntmps39
      go_wp2
      go_ret
      exact ⟨by refine ret_int ?_; omega, rfl⟩

/-- The limb at a place, which may lie below the first. -/
def digI (N : Nat) (i : Int) : Nat := if i < 0 then 0 else dig N i.toNat
theorem digI_lt (N : Nat) (i : Int) : digI N i < 4294967296 := by
  unfold digI
  split
  · omega
  · exact dig_lt _ _
set_option maxHeartbeats 400000 in
theorem plimbAt_any (w : World) (hi : Nat) (A : Option Addr) (n c N : Nat) (h : Rd w hi A n N) (i : Int) :
    Calls Try.prog 62 #[.slice A n c, .int .i64 i] w fun e w' => e = .returned (.int .u32 (digI N i : Nat)) ∧ w = w' := by
  by_cases h0 : i < 0
  · have HV := Lib.hid (show digI N i = 0 from if_pos h0)
    rw [HV.out]
    go_enter Try.func62, Try.ntmps62
    go_wp2
    go_ret
    exact ⟨rfl, rfl⟩
  · obtain ⟨k, rfl⟩ := Int.eq_ofNat_of_zero_le (show 0 ≤ i by omega)
    have HV := Lib.hid (show digI N (k : Int) = dig N k by unfold digI; rw [if_neg h0, Int.toNat_natCast])
    rw [HV.out]
    clear h0
    by_cases hk : k < n
    · obtain ⟨ad, rfl, _, hc⟩ := h.at_ hk
      go_enter Try.func62, Try.ntmps62
      go_wp2
      go_ret
      exact ⟨rfl, rfl⟩
    · have hd := dig_ge h.1 (by omega : n ≤ k)
      rw [hd]
      go_enter Try.func62, Try.ntmps62
      go_wp2
      go_ret
      exact ⟨rfl, rfl⟩

theorem ret_add32 {a b c d : Int} (h1 : a = c) (h2 : b = d) : Ending.returned (.tuple #[.int .u32 a, .int .u32 b]) = .returned (.tuple #[.int .u32 c, .int .u32 d]) := by rw [h1, h2]
set_option maxHeartbeats 400000 in
theorem add32_any (w : World) (x y z : Nat) (hx : x < 4294967296) (hy : y < 4294967296) (hz : z ≤ 1) :
    Calls Try.prog 54 #[.int .u32 x, .int .u32 y, .int .u32 z] w fun e w' => e = .returned (.tuple #[.int .u32 ((x + y + z) % 4294967296 : Nat), .int .u32 ((x + y + z) / 4294967296 : Nat)]) ∧ w = w' := by
  go_enter Try.func54, Try.ntmps54
  go_wp2
  go_ret2
  exact ⟨by refine ret_add32 ?_ ?_ <;> omega, rfl⟩
end Go.Proofs.Ytjakmpphfjhbaaa
