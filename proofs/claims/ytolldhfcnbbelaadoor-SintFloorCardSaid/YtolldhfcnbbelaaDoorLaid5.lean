/- What the listed table of signs gives: the condition Signs; a start that meets it. -/
import Derived.Lib.LaidTab
import Derived.Lay
import Derived.LaidByTextLater
import Derived.ProofKit
import Derived.Test.YtolldhfcnbbelaaDoorRows
import Derived.Test.YtolldhfcnbbelaaDoorGSintB
namespace Go.Proofs.YtolldhfcnbbelaaDoor
open Go Go.RowKit

def laid5 : List (String × DataW Unit) := [("strait/sint.signs", Rows.laid_strait_sint_signs)]
theorem signs_data : (Rows.laid_strait_sint_signs : DataW Unit) = Lib.tabData .i64 [-1, 0, 1] := by rfl
theorem signs_of_laid {W : World} (h : laidMetH Tryd.prog laid5 W) : Signs W := by
  rw [MakeChecks.laidMetH_plain _ _ _ (by kernel_rfl)] at h
  obtain ⟨ps, ⟨g0, t0, cs0, f0, p0, q0, hg0, ht0, hv0, hd0, _, _⟩, _, _⟩ := h
  have k0 : Tryd.prog.globalNamed "strait/sint.signs" = some 0 := by kernel_rfl
  obtain rfl := Option.some.inj (k0.symm.trans hg0)
  obtain rfl := Option.some.inj ((show (Tryd.prog.globals[0]?).map (·.type) = some 76 by kernel_rfl).symm.trans ht0)
  rw [signs_data] at hd0
  have h0 : Lib.TabIs Tryd.prog W "strait/sint.signs" .i64 [-1, 0, 1] := by
    unfold Lib.TabIs
    rw [hv0, ← Lib.cells_of_tab Tryd.underlying76 Tryd.underlying3 (by kernel_rfl) (by kernel_rfl) hd0]
  intro j hj
  have := h0.cell k0 j hj
  match j, hj with
  | 0, _ => exact this
  | 1, _ => exact this
  | 2, _ => exact this
end Go.Proofs.YtolldhfcnbbelaaDoor
