/- Contract of the reference's Of of layer 1. -/
import Derived.Test.YtolldhfcnbbelaaGreatDoorGRefA
namespace Go.Proofs.YtolldhfcnbbelaaGreatDoor
open Go Go.RowKit

set_option maxHeartbeats 400000 in
theorem rOf_any (w : World) (N : Nat) (h : N < 18446744073709551616) :
    Calls Tryz.prog 42 #[.int .u64 N] w (Gives w N) := by
  have H := Lib.hid (dig_of_u64 h)
  go_enter Tryz.func42, Tryz.ntmps42
  go_wp2_with fail
  have hF : Fr (w.alloc (Obj.cells #[Value.int IntKind.u32 (↑N % 4294967296), Value.int IntKind.u32 (↑N / 4294967296)] 66)) w.heap.size (w.heap.size + 1) (some ⟨w.heap.size, 0, none⟩) 2 N :=
    Fr.lit (Nat.le_refl _) H.out.1 H.out.2
  refine (rTrim_any _ _ 2 2 N (by simpa using hF.rd) (by omega) (by simp [maxLen]) (by omega)).mono ?_
  intro e w' hgv
  obtain ⟨A, c, rfl, h1, h2, h3, h4⟩ := hgv.alloc
  go_wp2
  go_ret
  exact ⟨A, c, rfl, h1, h2, h3, h4⟩
end Go.Proofs.YtolldhfcnbbelaaGreatDoor
