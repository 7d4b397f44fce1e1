/- What the listed table of powers of ten gives: the condition Pow10; a start that meets the list. -/
import Derived.Test.YtaancfhbmjkoaaaGreatDoorRows
import Derived.Test.YtaancfhbmjkoaaaGreatDoorText
import Derived.Lib.LaidTab
import Derived.Lay
import Derived.LaidByTextLater
import Derived.ProofKit
namespace Go.Proofs.YtaancfhbmjkoaaaGreatDoor
open Go Go.RowKit

def laid6 : List (String × DataW Unit) := [("math/bits.deBruijn32tab", Rows.laid_math_bits_deBruijn32tab), ("math/bits.deBruijn64tab", Rows.laid_math_bits_deBruijn64tab), ("internal/strconv.uint64pow10", Rows.laid_internal_strconv_uint64pow10), ("unicode/utf8.acceptRanges", Rows.laid_unicode_utf8_acceptRanges), ("unicode/utf8.first", Rows.laid_unicode_utf8_first)]
theorem pow10_data : (Rows.laid_internal_strconv_uint64pow10 : DataW Unit) = Lib.tabData .u64 Lib.pow10Tab := by rfl
theorem pow10_of_laid {W : World} (h : laidMetH Tryz.prog laid6 W) : Pow10 W := by
  rw [MakeChecks.laidMetH_plain _ _ _ (by kernel_rfl)] at h
  obtain ⟨ps, ⟨g0, t0, cs0, f0, p0, q0, hg0, ht0, hv0, hd0, ⟨g1, t1, cs1, f1, p1, q1, hg1, ht1, hv1, hd1, ⟨g2, t2, cs2, f2, p2, q2, hg2, ht2, hv2, hd2, _, _⟩, _⟩, _⟩, _, _⟩ := h
  have k2 : Tryz.prog.globalNamed "internal/strconv.uint64pow10" = some 0 := by kernel_rfl
  obtain rfl := Option.some.inj (k2.symm.trans hg2)
  obtain rfl := Option.some.inj ((show (Tryz.prog.globals[0]?).map (·.type) = some 144 by kernel_rfl).symm.trans ht2)
  rw [pow10_data] at hd2
  show Lib.TabIs Tryz.prog W "internal/strconv.uint64pow10" .u64 Lib.pow10Tab
  unfold Lib.TabIs
  rw [hv2, ← Lib.cells_of_tab Tryz.underlying144 Tryz.underlying74 (by kernel_rfl) (by kernel_rfl) hd2]
end Go.Proofs.YtaancfhbmjkoaaaGreatDoor
