/- What the listed table of signs gives: the condition Signs; a start that meets it. -/
import Derived.Lib.LaidTab
import Derived.Lay
import Derived.LaidByTextLater
import Derived.ProofKit
import Derived.Test.YtolldhfcnbbelaaGreatDoorRows
import Derived.Test.YtolldhfcnbbelaaGreatDoorGSintB
namespace Go.Proofs.YtolldhfcnbbelaaGreatDoor
open Go Go.RowKit

def laid5 : List (String × DataW Unit) := [("strait/sint.signs", Rows.laid_strait_sint_signs)]
theorem signs_data : (Rows.laid_strait_sint_signs : DataW Unit) = Lib.tabData .i64 [-1, 0, 1] := by rfl
theorem signs_of_laid {W : World} (h : laidMetH Tryz.prog laid5 W) : Signs W := by
  rw [MakeChecks.laidMetH_plain _ _ _ (by kernel_rfl)] at h
  obtain ⟨ps, ⟨g0, t0, cs0, f0, p0, q0, hg0, ht0, hv0, hd0, _, _⟩, _, _⟩ := h
  have k0 : Tryz.prog.globalNamed "strait/sint.signs" = some 0 := by kernel_rfl
  obtain rfl := Option.some.inj (k0.symm.trans hg0)
  obtain rfl := Option.some.inj ((show (Tryz.prog.globals[0]?).map (·.type) = some 73 by kernel_rfl).symm.trans ht0)
  rw [signs_data] at hd0
  have h0 : Lib.TabIs Tryz.prog W "strait/sint.signs" .i64 [-1, 0, 1] := by
    unfold Lib.TabIs
    rw [hv0, ← Lib.cells_of_tab Tryz.underlying73 Tryz.underlying3 (by kernel_rfl) (by kernel_rfl) hd0]
  intro j hj
  have := h0.cell k0 j hj
  match j, hj with
  | 0, _ => exact this
  | 1, _ => exact this
  | 2, _ => exact this
end Go.Proofs.YtolldhfcnbbelaaGreatDoor
