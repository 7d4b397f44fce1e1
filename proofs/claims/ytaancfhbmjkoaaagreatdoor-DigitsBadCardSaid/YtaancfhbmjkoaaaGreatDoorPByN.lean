/- Contract of package prod's By. -/
import Derived.Test.YtaancfhbmjkoaaaGreatDoorGProdC
namespace Go.Proofs.YtaancfhbmjkoaaaGreatDoor
open Go Go.RowKit

set_option maxHeartbeats 1000000 in
theorem pBy_any (w : World) (A : Option Addr) (n c N M : Nat) (h : Rd w w.heap.size A n N) (hnc : n ≤ c) (hcb : c ≤ maxLen) (hn : n ≤ 1000000000000) (hM : M < 4294967296) :
    Calls Tryz.prog 31 #[.slice A n c, .int .u32 M] w (Gives w (N * M)) := by
  have ho := one_limb w (N := M) (v := (M : Nat)) rfl rfl hM
  have hx : Rd (w.alloc (.cells #[.int .u32 (M : Nat)] 47)) (w.alloc (.cells #[.int .u32 (M : Nat)] 47)).heap.size A n N := (h.below ((Below.refl _ w).alloc (Nat.le_refl _) _)).more (by simp)
  have HM := Lib.hid (pMul_any _ A _ n 1 c 1 N M hx ho.1 hnc hcb (Nat.le_refl _) (by simp [maxLen]) hn (by omega))
  go_enter Tryz.func31, Tryz.ntmps31
  go_wp2_with fail
  refine HM.out.mono ?_
  intro e w' hg
  obtain ⟨A2, c2, rfl, g1, g2, g3, g4⟩ := hg.alloc
  go_wp2
  go_ret
  exact ⟨A2, c2, rfl, g1, g2, g3, g4⟩
end Go.Proofs.YtaancfhbmjkoaaaGreatDoor
