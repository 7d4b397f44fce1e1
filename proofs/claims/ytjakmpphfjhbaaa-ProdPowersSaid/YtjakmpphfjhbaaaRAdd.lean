/- Contract of the reference's Add of layer 1. -/
import Derived.Test.YtjakmpphfjhbaaaRTwo
namespace Go.Proofs.Ytjakmpphfjhbaaa
open Go Go.RowKit

set_option maxRecDepth 100000 in
set_option maxHeartbeats 1000000 in
theorem rAdd_any (w : World) (A : Option Addr) (c : Nat) (l : List Num) (h : Rds w w.heap.size A l) (hl : l.length ≤ 100000000000000) (hb : ∀ x ∈ l, x.n ≤ 1000) (hs : lenL (sumN l) ≤ 1000) :
    Calls Try.prog 25 #[.slice A l.length c] w (Gives w (sumN l)) := by
  have HS := Lib.hid hs
  clear hs
  go_enter Try.func25, Try.ntmps25
  go_wp2
  go_loopw [3, 4] (fun ov i wr => ∃ k : Nat, k ≤ l.length ∧ i = .int .i64 k ∧ Below w.heap.size w wr ∧ ∃ r : Num, ov = .slice r.A r.n r.c ∧ r.n ≤ 1000 ∧ Hid (r.N = sumAt l k) ∧ Hid (r.ok wr wr.heap.size)) (fun _ i _ => l.length - (intOf i).toNat)
  case atStart => exact ⟨0, Nat.zero_le _, rfl, Below.refl _ _, ⟨none, 0, 0, 0⟩, rfl, Nat.zero_le _, Lib.hid rfl, Lib.hid ⟨Rd.none_, Nat.le_refl _, Nat.zero_le _, Nat.zero_le _⟩⟩
  case round =>
    obtain ⟨k, hk, rfl, hB, ⟨RA, Rn, Rc, RN⟩, rfl, hrn, hrN, hro⟩ := hrel
    have hrn' : Rn ≤ 1000 := hrn
    by_cases hlt : k < l.length
    · obtain ⟨⟨ad, rfl, hadb, hc⟩, hr, hr1, hr2, hr3⟩ := (h.below hB) k hlt
      have HN := Lib.hid (show RN + l[k].N = sumAt l (k + 1) by rw [sumAt_succ hlt]; have := hrN.out; simp only at this; omega)
      have hln := hb _ (List.getElem_mem hlt)
      have E := Lib.hid (two_any wr RA l[k].A Rn l[k].n Rc l[k].c RN l[k].N hro.out.1 (hr.more hB.size) (by omega) (by omega))
      have HL := Lib.hid (show lenL (sumAt l (k + 1)) ≤ 1000 from Nat.le_trans (lenL_mono (sumAt_le l _)) HS.out)
      clear hr hr1 hr2 hr3
      go_wp2_with fail
      refine E.out.mono ?_
      rw [HN.out]
      rintro e w' ⟨A2, c2, rfl, g1, g2, g3, g4⟩
      have hG := Lib.hid (g3.ok g1 g2 (by have := HL.out; omega))
      have hB' := hB.trans (g4.mono hB.size)
      clear g1 g2 g3 g4
      go_wp2
      go_roundw
      case rel => exact ⟨k + 1, by omega, by go_num, hB', ⟨A2, _, c2, sumAt l (k + 1)⟩, rfl, HL.out, Lib.hid rfl, hG⟩
      case measure => simp [intOf]; omega
    · obtain rfl : k = l.length := by omega
      have HN := Lib.hid (show RN = sumN l by have := hrN.out; rw [sumAt_all] at this; exact this)
      have E := Lib.hid (rTrim_any wr RA Rn Rc RN hro.out.1 hro.out.2.1 hro.out.2.2.1 hro.out.2.2.2)
      go_wp2_with fail
      refine E.out.mono ?_
      rw [HN.out]
      intro e w2 hg
      obtain ⟨A2, c2, rfl, g1, g2, g3, g4⟩ := hg.later hB
      go_wp2
      go_ret
      exact ⟨A2, c2, rfl, g1, g2, g3, g4⟩
end Go.Proofs.Ytjakmpphfjhbaaa
