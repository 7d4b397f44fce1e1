/- Contracts of the reference's IntText and ParseInt of layer 6. -/
import Derived.Laws.DeepStrings4
import Derived.Test.YtaancfhbmjkoaaaGreatDoorRText
import Derived.Test.YtaancfhbmjkoaaaGreatDoorRParse
namespace Go.Proofs.YtaancfhbmjkoaaaGreatDoor
open Go Go.RowKit
variable {w W : World} {e : List Num} {x : Num}

set_option maxRecDepth 100000 in
set_option maxHeartbeats 2000000 in
theorem rIntText_E (b : Bool) (h : Env w e W) (hx : x ∈ e) (bx : x.n ≤ 700) :
    Calls Tryz.prog 19 #[.agg #[.bool b, .slice x.A x.n x.c]] W (Says w e (itext b x.N)) := by
  have HE := h.alloc (.cells #[.bool b, .slice x.A x.n x.c] 25)
  have B1 := Lib.hid (Box2.new W 25 (.bool b) (.slice x.A x.n x.c))
  have HLEN := Lib.hid (Nat.le_trans (dec_len_le (h.2 x hx).1.1) (show 10 * x.n + 1 ≤ 7001 by omega))
  have ET := Lib.hid (rText_E (Env.start (HE.2)) hx bx)
  have HW := Lib.hid HE
  obtain ⟨c1, c2, -, -⟩ := B1.out.cells
  clear h hx HE
  go_enter Tryz.func19, Tryz.ntmps19
  go_wp2_with fail
  refine ET.out.mono ?_
  rintro e1 W2 ⟨rfl, hE2⟩
  have HEW := Lib.hid (HW.out.step hE2.1 : Env w e W2)
  have hB2 := B1.out.below hE2.1 B1.out.lt
  obtain ⟨d1, d2, -, -⟩ := hB2.cells
  have hlen := HLEN.out
  clear hE2 hB2 c1 c2
  have hn := dec_nought x.N
  by_cases h0 : x.N = 0
  · have hn1 : (dec x.N == [48]) = true := by rw [hn, h0]; rfl
    have HT : Hid (itext b x.N = dec x.N) := Lib.hid (by unfold itext; rw [if_neg (by simp [h0])])
    clear hn h0
    cases b
    · go_wp2
      go_ret
      exact ⟨by rw [HT.out]; rfl, HEW.out⟩
    · go_wp2
      go_ret
      exact ⟨by rw [HT.out]; rfl, HEW.out⟩
  · have hn1 : (dec x.N == [48]) = false := by rw [hn]; simp [h0]
    cases b
    · have HT : Hid (itext false x.N = dec x.N) := Lib.hid (by unfold itext; rw [if_neg (by simp)])
      clear hn h0
      go_wp2
      go_ret
      exact ⟨by rw [HT.out]; rfl, HEW.out⟩
    · have HT : Hid (itext true x.N = 45 :: dec x.N) := Lib.hid (by unfold itext; rw [if_pos ⟨rfl, h0⟩])
      clear hn h0
      go_wp2
      go_ret
      refine ⟨?_, HEW.out⟩
      rw [HT.out]
      exact congrArg (fun z => Ending.returned (.string z)) (str_app [45] (dec x.N))

set_option maxRecDepth 100000 in
set_option maxHeartbeats 2000000 in
theorem rParseInt_plain (s : ByteArray) (h : Env w e W) (hm : s.size ≤ 1000000) (hn : iNeg s.data.toList = false) :
    Calls Tryz.prog 13 #[.string s] W fun e' W' => (Reads (iRest s.data.toList) → ParsedInt w e s.data.toList e' W') ∧ (¬ Reads (iRest s.data.toList) → ParsedNone w e e' W') := by
  have HE := h.alloc (.cells #[.bool false, .slice none 0 0] 25)
  have B1 := Lib.hid (Box2.new W 25 (.bool false) (.slice none 0 0))
  have HR : iRest s.data.toList = s.data.toList := by unfold iRest; rw [hn]; rfl
  have EP := Lib.hid (rParse_E s (Env.start HE.2) hm)
  rw [← HR] at EP
  have HW := Lib.hid HE
  have HS := Lib.hid h.1.size
  have HN := Lib.hid hn
  have hcase : s.size = 0 ∨ ∃ h0 : 0 < s.size, (s[0].toNat : Int) ≠ 45 := by
    rcases Nat.eq_zero_or_pos s.size with h1 | h1
    · exact .inl h1
    · refine .inr ⟨h1, fun h2 => ?_⟩
      have h5 : s[0] = 45 := UInt8.toNat_inj.mp (by have : (45 : UInt8).toNat = 45 := rfl; omega)
      unfold iNeg at hn
      rw [head_str s h1, h5] at hn
      simp at hn
  obtain ⟨c1, c2, -, -⟩ := B1.out.cells
  clear h HE hn HR
  go_enter Tryz.func13, Tryz.ntmps13
  rcases hcase with h0 | ⟨h0, h45⟩
  · go_wp2_with fail
    refine EP.out.mono ?_
    rintro e1 W2 ⟨hY, hNo⟩
    by_cases hr : Reads (iRest s.data.toList)
    · obtain ⟨r, rfl, rN, rn, hE2⟩ := hY hr
      have hB2 := B1.out.below hE2.1 B1.out.lt
      have HB2 := Lib.hid hB2
      have HEX := Lib.hid ((hE2.over HW.out.1).boxed hB2 HS.out false (.slice r.A r.n r.c))
      have RN := Lib.hid rN
      have RL := Lib.hid (show r.n = lenL r.N by rw [rn, rN])
      obtain ⟨d1, d2, d3, d4⟩ := hB2.cells
      clear hE2 hB2 rN rn c1 c2 hY hNo
      go_wp2
      exact bodyPost_ret (ret_box2t (HB2.out.set _ _) rfl rfl rfl) rfl ⟨fun _ => ⟨r, by rw [HN.out]; rfl, RN.out, RL.out, HEX.out⟩, fun h => absurd hr h⟩
    · obtain ⟨rfl, hE2⟩ := hNo hr
      have hB2 := B1.out.below hE2.1 B1.out.lt
      have HB2 := Lib.hid hB2
      have HEX := Lib.hid ((hE2.over HW.out.1).boxed hB2 HS.out false (.slice none 0 0))
      obtain ⟨d1, d2, d3, d4⟩ := hB2.cells
      clear hE2 hB2 c1 c2 hY hNo
      go_wp2
      exact bodyPost_ret (ret_box2t (HB2.out.set _ _) rfl rfl rfl) rfl ⟨fun h => absurd h hr, fun _ => ⟨rfl, HEX.out⟩⟩
  · have h45' : ((s[0].toNat : Int) == 45) = false := by rw [beq_eq_false_iff_ne]; exact h45
    go_wp2_with fail
    refine EP.out.mono ?_
    rintro e1 W2 ⟨hY, hNo⟩
    by_cases hr : Reads (iRest s.data.toList)
    · obtain ⟨r, rfl, rN, rn, hE2⟩ := hY hr
      have hB2 := B1.out.below hE2.1 B1.out.lt
      have HB2 := Lib.hid hB2
      have HEX := Lib.hid ((hE2.over HW.out.1).boxed hB2 HS.out false (.slice r.A r.n r.c))
      have RN := Lib.hid rN
      have RL := Lib.hid (show r.n = lenL r.N by rw [rn, rN])
      obtain ⟨d1, d2, d3, d4⟩ := hB2.cells
      clear hE2 hB2 rN rn c1 c2 hY hNo
      go_wp2
      exact bodyPost_ret (ret_box2t (HB2.out.set _ _) rfl rfl rfl) rfl ⟨fun _ => ⟨r, by rw [HN.out]; rfl, RN.out, RL.out, HEX.out⟩, fun h => absurd hr h⟩
    · obtain ⟨rfl, hE2⟩ := hNo hr
      have hB2 := B1.out.below hE2.1 B1.out.lt
      have HB2 := Lib.hid hB2
      have HEX := Lib.hid ((hE2.over HW.out.1).boxed hB2 HS.out false (.slice none 0 0))
      obtain ⟨d1, d2, d3, d4⟩ := hB2.cells
      clear hE2 hB2 c1 c2 hY hNo
      go_wp2
      exact bodyPost_ret (ret_box2t (HB2.out.set _ _) rfl rfl rfl) rfl ⟨fun h => absurd h hr, fun _ => ⟨rfl, HEX.out⟩⟩

set_option maxRecDepth 100000 in
set_option maxHeartbeats 2000000 in
theorem rParseInt_sign (s : ByteArray) (h : Env w e W) (hm : s.size ≤ 1000000) (hn : iNeg s.data.toList = true) :
    Calls Tryz.prog 13 #[.string s] W fun e' W' => (Reads (iRest s.data.toList) → ParsedInt w e s.data.toList e' W') ∧ (¬ Reads (iRest s.data.toList) → ParsedNone w e e' W') := by
  have HE := h.alloc (.cells #[.bool false, .slice none 0 0] 25)
  have B1 := Lib.hid (Box2.new W 25 (.bool false) (.slice none 0 0))
  have h0 : 0 < s.size := by
    rcases Nat.eq_zero_or_pos s.size with h1 | h1
    · unfold iNeg at hn
      have h2 : s.data.toList = [] := List.eq_nil_of_length_eq_zero (by rw [str_len]; exact h1)
      rw [h2] at hn
      simp at hn
    · exact h1
  have h45 : ((s[0].toNat : Int) == 45) = true := by
    unfold iNeg at hn
    rw [head_str s h0, beq_iff_eq] at hn
    injection hn with hn
    rw [hn]; rfl
  have HR : (s.extract 1 s.size).data.toList = iRest s.data.toList := by
    unfold iRest
    rw [hn, if_pos rfl, Lib.extract_data, List.drop_one]
    exact List.take_of_length_le (by rw [List.length_tail, str_len]; omega)
  have EP := Lib.hid (rParse_E (s.extract 1 s.size) (Env.start HE.2) (by rw [ByteArray.size_extract]; omega))
  rw [HR] at EP
  have HW := Lib.hid HE
  have HS := Lib.hid h.1.size
  have HN := Lib.hid hn
  obtain ⟨c1, c2, -, -⟩ := B1.out.cells
  clear h HE hn HR
  go_enter Tryz.func13, Tryz.ntmps13
  by_cases hv : val (iRest s.data.toList) = 0
  · have HV := Lib.hid hv
    clear hv
    go_wp2_with fail
    refine EP.out.mono ?_
    rintro e1 W2 ⟨hY, hNo⟩
    by_cases hr : Reads (iRest s.data.toList)
    · obtain ⟨r, rfl, rN, rn, hE2⟩ := hY hr
      have hB2 := B1.out.below hE2.1 B1.out.lt
      have HB2 := Lib.hid hB2
      have HEX := Lib.hid ((hE2.over HW.out.1).boxed hB2 HS.out false (.slice r.A r.n r.c))
      have RN := Lib.hid rN
      have RL := Lib.hid (show r.n = lenL r.N by rw [rn, rN])
      obtain ⟨d1, d2, d3, d4⟩ := hB2.cells
      have hr0 : ¬ 0 < r.n := by rw [RL.out, RN.out, HV.out, lenL_zero]; omega
      clear hE2 hB2 rN rn c1 c2 hY hNo
      go_wp2
      exact bodyPost_ret (ret_box2t (HB2.out.set _ _) rfl rfl rfl) rfl ⟨fun _ => ⟨r, by rw [HN.out, HV.out]; rfl, RN.out, RL.out, HEX.out⟩, fun h => absurd hr h⟩
    · obtain ⟨rfl, hE2⟩ := hNo hr
      have hB2 := B1.out.below hE2.1 B1.out.lt
      have HB2 := Lib.hid hB2
      have HEX := Lib.hid ((hE2.over HW.out.1).boxed hB2 HS.out false (.slice none 0 0))
      obtain ⟨d1, d2, d3, d4⟩ := hB2.cells
      clear hE2 hB2 c1 c2 hY hNo
      go_wp2
      exact bodyPost_ret (ret_box2t (HB2.out.set _ _) rfl rfl rfl) rfl ⟨fun h => absurd h hr, fun _ => ⟨rfl, HEX.out⟩⟩
  · have HV := Lib.hid hv
    clear hv
    go_wp2_with fail
    refine EP.out.mono ?_
    rintro e1 W2 ⟨hY, hNo⟩
    by_cases hr : Reads (iRest s.data.toList)
    · obtain ⟨r, rfl, rN, rn, hE2⟩ := hY hr
      have hB2 := B1.out.below hE2.1 B1.out.lt
      have HB2 := Lib.hid hB2
      have HEX := Lib.hid ((hE2.over HW.out.1).boxed hB2 HS.out true (.slice r.A r.n r.c))
      have RN := Lib.hid rN
      have RL := Lib.hid (show r.n = lenL r.N by rw [rn, rN])
      obtain ⟨d1, d2, d3, d4⟩ := hB2.cells
      have hr0 : 0 < r.n := by rw [RL.out, RN.out]; exact lenL_pos HV.out
      clear hE2 hB2 rN rn c1 c2 hY hNo
      go_wp2
      exact bodyPost_ret (ret_box2t (HB2.out.set _ _) rfl rfl rfl) rfl ⟨fun _ => ⟨r, by rw [HN.out]; simp [HV.out], RN.out, RL.out, HEX.out⟩, fun h => absurd hr h⟩
    · obtain ⟨rfl, hE2⟩ := hNo hr
      have hB2 := B1.out.below hE2.1 B1.out.lt
      have HB2 := Lib.hid hB2
      have HEX := Lib.hid ((hE2.over HW.out.1).boxed hB2 HS.out false (.slice none 0 0))
      obtain ⟨d1, d2, d3, d4⟩ := hB2.cells
      clear hE2 hB2 c1 c2 hY hNo
      go_wp2
      exact bodyPost_ret (ret_box2t (HB2.out.set _ _) rfl rfl rfl) rfl ⟨fun h => absurd h hr, fun _ => ⟨rfl, HEX.out⟩⟩

theorem rParseInt_E (s : ByteArray) (h : Env w e W) (hm : s.size ≤ 1000000) :
    Calls Tryz.prog 13 #[.string s] W fun e' W' => (Reads (iRest s.data.toList) → ParsedInt w e s.data.toList e' W') ∧ (¬ Reads (iRest s.data.toList) → ParsedNone w e e' W') := by
  cases hn : iNeg s.data.toList
  · exact rParseInt_plain s h hm hn
  · exact rParseInt_sign s h hm hn
end Go.Proofs.YtaancfhbmjkoaaaGreatDoor
