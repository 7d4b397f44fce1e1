/- Contract of bits.Len32, over the library's own count of bits. Walked with few laws at hand: where the walk writes numbers without their wrap, the table's law isn't met. -/
import Derived.WalkKit
import Derived.Lib.Strings
import Derived.Lib.Slices
import Derived.Lib.Small
import Derived.Lib.Walk
import Derived.Lib.Hide
import Derived.Lib.BitFns
import Derived.Test.YtjakmpphfjhbaaaRows
namespace Go.Proofs.Ytjakmpphfjhbaaa
open Go

theorem index_len8 (w : World) (z : Int) (h0 : 0 ≤ z) (h1 : z ≤ 255) : (Instr.index 9 (.string Lib.len8tab) (.int .u8 z)).run Try.prog w = .ok (.int .u8 (Lib.len8 z)) w :=
  Lib.run_index_len8tab w 9 .u8 z Try.underlying9 h0 h1

theorem wrap64_small {a : Int} (h0 : 0 ≤ a) (h1 : a ≤ 1000) : RowKit.wrap64 a = a := by simp only [RowKit.wrap64]; omega

set_option maxHeartbeats 1000000 in
set_option maxRecDepth 100000 in
theorem len32_0 (w : World) (y : Int) (h0 : 0 ≤ y) (h1 : y ≤ 4294967295) (c1 : y < 65536) (c2 : y < 256) :
    Calls Try.prog 37 #[.int .u32 y] w fun e w' => e = .returned (.int .i64 (Lib.bitLen y.toNat)) ∧ w = w' := by
  have hx := index_len8 w y (by omega) (by omega)
  have he : y.toNat = y.toNat := by omega
  have hl := Lib.bitLen_le8' y (by omega) (by omega)
  have hv := Lib.len8_of y (by omega) (by omega)
  rw [he] at hl hv
  have HV := Lib.hid hv
  clear hv he
  go_enter Try.func37, Try.ntmps37
  go_wp2
  go_ret
  refine ⟨congrArg Ending.returned (congrArg (Value.int IntKind.i64) ?_), rfl⟩
  rw [HV.out]
  simp only [RowKit.wrap64]
  omega
set_option maxHeartbeats 1000000 in
set_option maxRecDepth 100000 in
theorem len32_1 (w : World) (y : Int) (h0 : 0 ≤ y) (h1 : y ≤ 4294967295) (c1 : y < 65536) (c2 : ¬ y < 256) :
    Calls Try.prog 37 #[.int .u32 y] w fun e w' => e = .returned (.int .i64 (Lib.bitLen y.toNat)) ∧ w = w' := by
  have hx := index_len8 w (y / 256) (by omega) (by omega)
  have he : (y / 256).toNat = y.toNat / 256 := by omega
  have hl := Lib.bitLen_le8' (y / 256) (by omega) (by omega)
  have hv := Lib.len8_of (y / 256) (by omega) (by omega)
  rw [he] at hl hv
  have HS := Lib.hid (Lib.bitLen_shift8 y.toNat (by omega) (by omega))
  have HV := Lib.hid hv
  clear hv he
  go_enter Try.func37, Try.ntmps37
  go_wp2
  go_ret
  refine ⟨congrArg Ending.returned (congrArg (Value.int IntKind.i64) ?_), rfl⟩
  rw [HV.out, HS.out]
  simp only [RowKit.wrap64]
  omega
set_option maxHeartbeats 1000000 in
set_option maxRecDepth 100000 in
theorem len32_2 (w : World) (y : Int) (h0 : 0 ≤ y) (h1 : y ≤ 4294967295) (c1 : ¬ y < 65536) (c2 : y / 65536 < 256) :
    Calls Try.prog 37 #[.int .u32 y] w fun e w' => e = .returned (.int .i64 (Lib.bitLen y.toNat)) ∧ w = w' := by
  have hx := index_len8 w (y / 65536) (by omega) (by omega)
  have he : (y / 65536).toNat = y.toNat / 65536 := by omega
  have hl := Lib.bitLen_le8' (y / 65536) (by omega) (by omega)
  have hv := Lib.len8_of (y / 65536) (by omega) (by omega)
  rw [he] at hl hv
  have HS := Lib.hid (Lib.bitLen_shift16 y.toNat (by omega) (by omega))
  have HV := Lib.hid hv
  clear hv he
  go_enter Try.func37, Try.ntmps37
  go_wp2
  go_ret
  refine ⟨congrArg Ending.returned (congrArg (Value.int IntKind.i64) ?_), rfl⟩
  rw [HV.out, HS.out]
  simp only [RowKit.wrap64]
  omega
set_option maxHeartbeats 1000000 in
set_option maxRecDepth 100000 in
theorem len32_3 (w : World) (y : Int) (h0 : 0 ≤ y) (h1 : y ≤ 4294967295) (c1 : ¬ y < 65536) (c2 : ¬ y / 65536 < 256) :
    Calls Try.prog 37 #[.int .u32 y] w fun e w' => e = .returned (.int .i64 (Lib.bitLen y.toNat)) ∧ w = w' := by
  have hx := index_len8 w (y / 65536 / 256) (by omega) (by omega)
  have he : (y / 65536 / 256).toNat = y.toNat / 16777216 := by omega
  have hl := Lib.bitLen_le8' (y / 65536 / 256) (by omega) (by omega)
  have hv := Lib.len8_of (y / 65536 / 256) (by omega) (by omega)
  rw [he] at hl hv
  have HS := Lib.hid (Lib.bitLen_shift24 y.toNat (by omega) (by omega))
  have HV := Lib.hid hv
  clear hv he
  go_enter Try.func37, Try.ntmps37
  go_wp2
  go_ret
  refine ⟨congrArg Ending.returned (congrArg (Value.int IntKind.i64) ?_), rfl⟩
  rw [HV.out, HS.out]
  simp only [RowKit.wrap64]
  omega
theorem len32_lib (w : World) (y : Int) (h0 : 0 ≤ y) (h1 : y ≤ 4294967295) :
    Calls Try.prog 37 #[.int .u32 y] w fun e w' => e = .returned (.int .i64 (Lib.bitLen y.toNat)) ∧ w = w' := by
  by_cases c1 : y < 65536
  · by_cases c2 : y < 256
    · exact len32_0 w y h0 h1 c1 c2
    · exact len32_1 w y h0 h1 c1 c2
  · by_cases c2 : y / 65536 < 256
    · exact len32_2 w y h0 h1 c1 c2
    · exact len32_3 w y h0 h1 c1 c2
end Go.Proofs.Ytjakmpphfjhbaaa
