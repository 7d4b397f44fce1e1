/- Contract of nat.Small. -/
import Derived.Test.YtaancfhbmjkoaaaGreatDoorGNatA
namespace Go.Proofs.YtaancfhbmjkoaaaGreatDoor
open Go Go.RowKit

set_option maxHeartbeats 400000 in
theorem Small_no (w : World) (hi : Nat) (A : Option Addr) (n c N : Nat) (h : Rd w hi A n N) (hn : n ≤ c) (hc : c ≤ 9223372036854775807) (hN : ¬ N < 18446744073709551616) :
    Calls Tryz.prog 51 #[.slice A n c] w fun e w' => e = .returned (.tuple #[.int .u64 0, .bool false]) ∧ w = w' := by
  have hl := lenL_le.2 h.1
  have h2 : 2 < lenL N := by rw [← lenL_small] at hN; omega
  clear hN
  go_enter Tryz.func51, Tryz.ntmps51
  go_wp2_with (go_at_call 47; refine (cut_any _ _ A n c N h hn (by omega)).mono ?_; rintro e w' ⟨rfl, rfl⟩)
  go_ret2
  exact ⟨rfl, rfl⟩

set_option maxHeartbeats 400000 in
theorem Small_yes (w : World) (hi : Nat) (A : Option Addr) (n c N : Nat) (h : Rd w hi A n N) (hn : n ≤ c) (hc : c ≤ 9223372036854775807) (hN : N < 18446744073709551616) :
    Calls Tryz.prog 51 #[.slice A n c] w fun e w' => e = .returned (.tuple #[.int .u64 N, .bool true]) ∧ w = w' := by
  have hl := lenL_le.2 h.1
  have h2 : lenL N ≤ 2 := lenL_small.2 hN
  have hd0 := dig_lt N 0
  have hd1 := dig_lt N 1
  have hv := Lib.hid (two_limbs (lenL_le.1 h2))
  clear hN
  go_enter Tryz.func51, Tryz.ntmps51
  go_wp2_with (first
    | (go_at_call 47; refine (cut_any _ _ A n c N h hn (by omega)).mono ?_; rintro e w' ⟨rfl, rfl⟩)
    | (go_at_call 64; refine (limbAt_any _ _ _ _ _ _ h.cut _ (by omega)).mono ?_; rintro e w' ⟨rfl, rfl⟩; simp only [Int.toNat_one, Int.toNat_zero]))
  rw [or_limbs hd1 hd0, hv.out]
  go_ret2
  exact ⟨rfl, rfl⟩
end Go.Proofs.YtaancfhbmjkoaaaGreatDoor
