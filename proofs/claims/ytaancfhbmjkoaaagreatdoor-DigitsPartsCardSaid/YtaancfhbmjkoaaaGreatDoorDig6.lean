/- What the program's functions of package digits answer, over numbers at hand: the condition DigTold, paid by their contracts. -/
import Derived.Laws.DeepStrings4
import Derived.Test.YtaancfhbmjkoaaaGreatDoorDigE
import Derived.Test.YtaancfhbmjkoaaaGreatDoorText
import Derived.Test.YtaancfhbmjkoaaaGreatDoorParse6
namespace Go.Proofs.YtaancfhbmjkoaaaGreatDoor
open Go Go.RowKit

theorem textTold (w0 : World) (hT : Pow10 w0) : TextTold w0 := fun w W e x h0 h hx bx => by
  refine (text_any W x (h.2 x hx) bx (pow10_later hT h0)).mono ?_
  rintro e' W' ⟨rfl, hb⟩
  exact ⟨rfl, h.step hb⟩

theorem countTold (w0 : World) (hT : Pow10 w0) : CountTold w0 := fun w W e x h0 h hx bx => by
  have ET := Lib.hid (text_any W x (h.2 x hx) bx (pow10_later hT h0))
  have H := Lib.hid h
  clear h
  go_enter Tryz.func20, Tryz.ntmps20
  go_wp2_with (go_at_call 16; refine ET.out.mono ?_; rintro e' W' ⟨rfl, hb⟩)
  go_ret
  exact ⟨by first | rfl | rw [str_size] | simp, H.out.step hb⟩

set_option maxHeartbeats 1000000 in
theorem itextTold (w0 : World) (hT : Pow10 w0) : ITextTold w0 := fun w W e b x h0 h hx bx => by
  have HE := h.alloc (.cells #[.bool b, .slice x.A x.n x.c] 25)
  have hbb : Below W.heap.size W (W.alloc (.cells #[.bool b, .slice x.A x.n x.c] 25)) := (Below.refl _ W).alloc (Nat.le_refl _) _
  have B1 := Lib.hid (Box2.new W 25 (.bool b) (.slice x.A x.n x.c))
  have ET := Lib.hid (text_any _ x (HE.2 x hx) bx (pow10_later hT (h0.trans (hbb.mono h0.size))))
  have HLEN := Lib.hid (Nat.le_trans (dec_len_le (h.2 x hx).1.1) (show 10 * x.n + 1 ≤ 1001 by omega))
  have H := Lib.hid HE
  obtain ⟨c1, c2, -, -⟩ := B1.out.cells
  clear h HE hbb
  go_enter Tryz.func18, Tryz.ntmps18
  go_wp2_with fail
  refine ET.out.mono ?_
  rintro e' W' ⟨rfl, hb⟩
  have hB2 := B1.out.below hb B1.out.lt
  obtain ⟨d1, d2, -, -⟩ := hB2.cells
  have HF := Lib.hid (H.out.step hb)
  clear c1 c2 hb
  have hlen := HLEN.out
  have hn := dec_nought x.N
  clear hB2
  by_cases h0 : x.N = 0
  · have hn1 : (dec x.N == [48]) = true := by rw [hn, h0]; rfl
    have HT : Hid (itext b x.N = dec x.N) := Lib.hid (by unfold itext; rw [if_neg (by simp [h0])])
    clear hn h0
    cases b
    · go_wp2
      go_ret
      exact ⟨by rw [HT.out]; rfl, HF.out⟩
    · go_wp2
      go_ret
      exact ⟨by rw [HT.out]; rfl, HF.out⟩
  · have hn1 : (dec x.N == [48]) = false := by rw [hn]; simp [h0]
    cases b
    · have HT : Hid (itext false x.N = dec x.N) := Lib.hid (by unfold itext; rw [if_neg (by simp)])
      clear hn h0
      go_wp2
      go_ret
      exact ⟨by rw [HT.out]; rfl, HF.out⟩
    · have HT : Hid (itext true x.N = 45 :: dec x.N) := Lib.hid (by unfold itext; rw [if_pos ⟨rfl, h0⟩])
      clear hn h0
      go_wp2
      go_ret
      refine ⟨?_, HF.out⟩
      rw [HT.out]
      exact congrArg (fun z => Ending.returned (.string z)) (str_app [45] (dec x.N))

theorem parse_reads (s : ByteArray) (w : World) (hm : s.size ≤ 1000000) :
    Calls Tryz.prog 10 #[.string s] w fun e W => Below w.heap.size w W ∧ (Reads s.data.toList → ∃ r : Num, e = .returned (.tuple #[.slice r.A r.n r.c, .int .i64 0]) ∧ r.N = val s.data.toList ∧ r.n = lenL r.N ∧ r.ok W W.heap.size) ∧
      (¬ Reads s.data.toList → e = .returned (.tuple #[.slice none 0 0, .int .i64 60])) := by
  have hl := str_len s
  by_cases hs : 1 ≤ s.size ∧ s.size ≤ 60
  · refine (parse_long s w hs.1 hs.2).mono fun e W ⟨hb, h1, h2⟩ => ⟨hb, fun hr => h1 hr.2.2, fun hr => h2 fun hd => hr ⟨by omega, by omega, hd⟩⟩
  · refine (parse_short s w hs hm).mono fun e W ⟨he, hb⟩ => ⟨hb, fun hr => absurd ⟨?_, ?_⟩ hs, fun _ => he⟩
    · have := hr.1; omega
    · have := hr.2.1; omega

theorem parseTold (w0 : World) : ParseTold w0 := fun w W e s _ h hm => by
  refine (parse_reads s W (by omega)).mono ?_
  rintro e' W' ⟨hb, h1, h2⟩
  refine ⟨fun hr => ?_, fun hr => ⟨h2 hr, h.step hb⟩⟩
  obtain ⟨r, e1, n1, n2, n3⟩ := h1 hr
  exact ⟨r, e1, n1, by rw [n2, n1], (h.step hb).add n3⟩

theorem cut_sign (s : ByteArray) : Lib.hasPrefix s.data.toList [45] = iNeg s.data.toList ∧ Lib.trimPrefix s.data.toList [45] = iRest s.data.toList := by
  have h1 : Lib.hasPrefix s.data.toList [45] = iNeg s.data.toList := by
    unfold Lib.hasPrefix iNeg
    cases s.data.toList with
    | nil => rfl
    | cons c l =>
      rw [Bool.eq_iff_iff]
      simp only [List.isPrefixOf, Bool.and_true, beq_iff_eq, List.head?_cons, Option.some.injEq]
      exact eq_comm
  refine ⟨h1, ?_⟩
  unfold Lib.trimPrefix iRest
  rw [h1]
  cases hn : iNeg s.data.toList
  · rfl
  · simp [List.drop_one]

set_option maxRecDepth 100000 in
set_option maxHeartbeats 2000000 in
theorem parseIntTold (w0 : World) : ParseIntTold w0 := fun w W e s _ h hm => by
  have HE := h.alloc (.cells #[.bool false, .slice none 0 0] 25)
  have B1 := Lib.hid (Box2.new W 25 (.bool false) (.slice none 0 0))
  obtain ⟨W1, hW1⟩ : ∃ W1, W.alloc (.cells #[.bool false, .slice none 0 0] 25) = W1 := ⟨_, rfl⟩
  have EC := Lib.hid (fun V => sh_CutPrefix s ⟨[45].toArray⟩ V)
  have hc := cut_sign s
  have e45 : (⟨[45].toArray⟩ : ByteArray).data.toList = [45] := rfl
  rw [e45, hc.1, hc.2] at EC
  obtain ⟨l, hl⟩ : ∃ l, iRest s.data.toList = l := ⟨_, rfl⟩
  have hlen : l.length ≤ 1000 := by
    rw [← hl]
    unfold iRest
    have := str_len s
    split
    · rw [List.length_tail]; omega
    · omega
  rw [hl] at EC
  have EP := Lib.hid (parse_reads ⟨l.toArray⟩ W1 (by rw [str_size]; omega))
  rw [show (⟨l.toArray⟩ : ByteArray).data.toList = l from rfl] at EP
  rw [hW1] at HE B1
  have HW := Lib.hid HE
  have HS := Lib.hid h.1.size
  obtain ⟨c1, c2, -, -⟩ := B1.out.cells
  clear h HE hc e45
  go_enter Tryz.func12, Tryz.ntmps12
  go_wp2_with fail
  refine (EC.out _).mono ?_
  rintro e1 V ⟨rfl, hV⟩
  rw [hV]
  clear hV
  obtain ⟨b, hbn⟩ : ∃ b, iNeg s.data.toList = b := ⟨_, rfl⟩
  rw [hbn]
  have HBN := Lib.hid hbn
  have HL := Lib.hid hl
  clear hbn hl EC
  go_wp2_with fail
  refine EP.out.mono ?_
  rintro e2 W2 ⟨hb, p1, p2⟩
  by_cases hr : Reads l
  · obtain ⟨r, rfl, rN, rn, rk⟩ := p1 hr
    have hB2 := B1.out.below hb B1.out.lt
    have HB2 := Lib.hid hB2
    have HE2 := Lib.hid ((HW.out.step hb).add rk)
    have RN := Lib.hid rN
    have RL := Lib.hid rn
    obtain ⟨d1, d2, d3, d4⟩ := hB2.cells
    clear hB2 rN rn rk p1 p2 hb c1 c2 EP
    by_cases h0 : val l = 0
    · have hr0 : ¬ 0 < r.n := by rw [RL.out, RN.out, h0, lenL_zero]; omega
      have RV : Hid ((decide (val l ≠ 0)) = false) := Lib.hid (by simp [h0])
      clear h0
      cases b
      · have HEX := Lib.hid ((HE2.out).boxed HB2.out HS.out false (.slice r.A r.n r.c))
        clear B1 HW
        go_wp2
        exact bodyPost_ret (ret_box2t (HB2.out.set _ _) rfl rfl rfl) rfl ⟨fun _ => ⟨r, by rw [HBN.out, HL.out, RV.out]; rfl, by rw [RN.out, HL.out], RL.out, HEX.out⟩, fun h => absurd (by rw [HL.out]; exact hr) h⟩
      · have HEX := Lib.hid ((HE2.out).boxed HB2.out HS.out false (.slice r.A r.n r.c))
        clear B1 HW
        go_wp2
        exact bodyPost_ret (ret_box2t (HB2.out.set _ _) rfl rfl rfl) rfl ⟨fun _ => ⟨r, by rw [HBN.out, HL.out, RV.out]; rfl, by rw [RN.out, HL.out], RL.out, HEX.out⟩, fun h => absurd (by rw [HL.out]; exact hr) h⟩
    · have hr0 : 0 < r.n := by rw [RL.out, RN.out]; exact lenL_pos h0
      have RV : Hid ((decide (val l ≠ 0)) = true) := Lib.hid (by simp [h0])
      clear h0
      cases b
      · have HEX := Lib.hid ((HE2.out).boxed HB2.out HS.out false (.slice r.A r.n r.c))
        clear B1 HW
        go_wp2
        exact bodyPost_ret (ret_box2t (HB2.out.set _ _) rfl rfl rfl) rfl ⟨fun _ => ⟨r, by rw [HBN.out, HL.out, RV.out]; rfl, by rw [RN.out, HL.out], RL.out, HEX.out⟩, fun h => absurd (by rw [HL.out]; exact hr) h⟩
      · have HEX := Lib.hid ((HE2.out).boxed HB2.out HS.out true (.slice r.A r.n r.c))
        clear B1 HW
        go_wp2
        exact bodyPost_ret (ret_box2t (HB2.out.set _ _) rfl rfl rfl) rfl ⟨fun _ => ⟨r, by rw [HBN.out, HL.out, RV.out]; rfl, by rw [RN.out, HL.out], RL.out, HEX.out⟩, fun h => absurd (by rw [HL.out]; exact hr) h⟩
  · obtain rfl := p2 hr
    have hB2 := B1.out.below hb B1.out.lt
    have HB2 := Lib.hid hB2
    have HE2 := Lib.hid (HW.out.step hb)
    have HEX := Lib.hid ((HE2.out).boxed HB2.out HS.out false (.slice none 0 0))
    obtain ⟨d1, d2, d3, d4⟩ := hB2.cells
    clear hB2 p1 p2 hb c1 c2 EP B1 HW
    cases b
    · go_wp2
      exact bodyPost_ret (ret_box2t (HB2.out.set _ _) rfl rfl rfl) rfl ⟨fun h => absurd (by rw [← HL.out]; exact h) hr, fun _ => ⟨rfl, HEX.out⟩⟩
    · go_wp2
      exact bodyPost_ret (ret_box2t (HB2.out.set _ _) rfl rfl rfl) rfl ⟨fun h => absurd (by rw [← HL.out]; exact h) hr, fun _ => ⟨rfl, HEX.out⟩⟩

theorem digTold (w0 : World) (hT : Pow10 w0) : DigTold w0 := ⟨textTold w0 hT, itextTold w0 hT, countTold w0 hT, parseTold w0, parseIntTold w0⟩
end Go.Proofs.YtaancfhbmjkoaaaGreatDoor
