/- DigitsTells, over what the program's functions answer: texts of numbers, and which numbers texts are, are the document's. -/
import Derived.Laws.IdiomStrings
import Derived.Laws.DeepStrings4
import Derived.Test.YtaancfhbmjkoaaaGreatDoorWakes6
import Derived.Test.YtaancfhbmjkoaaaGreatDoorGreat4
import Derived.Test.YtaancfhbmjkoaaaGreatDoorRInt6
import Derived.Test.YtaancfhbmjkoaaaGreatDoorTexts6
import Derived.Test.YtaancfhbmjkoaaaGreatDoorSame6
import Derived.Test.YtaancfhbmjkoaaaGreatDoorFactsN
import Derived.Test.YtaancfhbmjkoaaaGreatDoorLaw
namespace Go.Proofs.YtaancfhbmjkoaaaGreatDoor
open Go Go.ChangeShapes Go.WideShapes Go.ChangeAt Go.RowKit Go.Deep

theorem call0_run6 {o : Oper} {a : Act} {V : World} {f : FuncId} (hop : ∃ ts, o.op = .call { callee := .value (.func f), args := #[], argTypes := ts }) (en : ∀ args w, (callFunc f args).run Tryz.prog w = .ok (.enter f args) w) :
    (execOp a.eval o).run Tryz.prog V = .ok (.enter f #[]) V := by
  obtain ⟨dst, op, ty, pos, after, guard⟩ := o
  obtain ⟨ts, hop⟩ := hop
  simp only at hop
  subst hop
  have := en #[] V
  go_simp
theorem DigTold.on {w0 w : World} (S : DigTold w0) (h : Below w0.heap.size w0 w) : DigTold w where
  text := fun w1 W e x h0 => S.text w1 W e x (h.trans (h0.mono h.size))
  itext := fun w1 W e b x h0 => S.itext w1 W e b x (h.trans (h0.mono h.size))
  count := fun w1 W e x h0 => S.count w1 W e x (h.trans (h0.mono h.size))
  parse := fun w1 W e s h0 => S.parse w1 W e s (h.trans (h0.mono h.size))
  parseInt := fun w1 W e s h0 => S.parseInt w1 W e s (h.trans (h0.mono h.size))

/-- A number and an error's number are handed back; an integer and one. -/
def TellsP (w : World) (e : List Num) (N : Nat) (ev : Int) (e' : Ending) (W' : World) : Prop := ∃ r : Num, e' = .returned (.tuple #[.slice r.A r.n r.c, .int .i64 ev]) ∧ r.N = N ∧ r.n = lenL N ∧ Env w (r :: e) W'
def TellsI (w : World) (e : List Num) (b : Bool) (N : Nat) (ev : Int) (e' : Ending) (W' : World) : Prop := ∃ r : Num, e' = .returned (.tuple #[.agg #[.bool b, .slice r.A r.n r.c], .int .i64 ev]) ∧ r.N = N ∧ r.n = lenL N ∧ Env w (r :: e) W'
theorem parse_both (s : ByteArray) (hs : s.size ≤ 1000) : ∃ (N : Nat) (ev : Int), (∀ (w0 w W : World) (e : List Num), DigTold w0 → Below w0.heap.size w0 W → Env w e W → Calls Tryz.prog 10 #[.string s] W (TellsP w e N ev)) ∧
    ∀ (w W : World) (e : List Num), Env w e W → Calls Tryz.prog 11 #[.string s] W (TellsP w e N ev) := by
  by_cases hr : Reads s.data.toList
  · refine ⟨val s.data.toList, 0, fun w0 w W e S h0 h => (S.parse w W e s h0 h hs).mono fun e' W' hh => hh.1 hr, fun w W e h => (rParse_E s h (by omega)).mono fun e' W' hh => hh.1 hr⟩
  · refine ⟨0, 60, fun w0 w W e S h0 h => (S.parse w W e s h0 h hs).mono fun e' W' hh => ?_, fun w W e h => (rParse_E s h (by omega)).mono fun e' W' hh => ?_⟩
    · obtain ⟨he, hE⟩ := hh.2 hr
      exact ⟨⟨none, 0, 0, 0⟩, he, rfl, lenL_zero.symm, hE.nought⟩
    · obtain ⟨he, hE⟩ := hh.2 hr
      exact ⟨⟨none, 0, 0, 0⟩, he, rfl, lenL_zero.symm, hE.nought⟩
theorem parseInt_both (s : ByteArray) (hs : s.size ≤ 1000) : ∃ (b : Bool) (N : Nat) (ev : Int), (∀ (w0 w W : World) (e : List Num), DigTold w0 → Below w0.heap.size w0 W → Env w e W → Calls Tryz.prog 12 #[.string s] W (TellsI w e b N ev)) ∧
    ∀ (w W : World) (e : List Num), Env w e W → Calls Tryz.prog 13 #[.string s] W (TellsI w e b N ev) := by
  by_cases hr : Reads (iRest s.data.toList)
  · refine ⟨iNeg s.data.toList && decide (val (iRest s.data.toList) ≠ 0), val (iRest s.data.toList), 0, fun w0 w W e S h0 h => (S.parseInt w W e s h0 h hs).mono fun e' W' hh => ?_, fun w W e h => (rParseInt_E s h (by omega)).mono fun e' W' hh => ?_⟩
    · obtain ⟨r, he, r1, r2, hE⟩ := hh.1 hr
      exact ⟨r, he, r1, by rw [r2, r1], hE⟩
    · obtain ⟨r, he, r1, r2, hE⟩ := hh.1 hr
      exact ⟨r, he, r1, by rw [r2, r1], hE⟩
  · refine ⟨false, 0, 60, fun w0 w W e S h0 h => (S.parseInt w W e s h0 h hs).mono fun e' W' hh => ?_, fun w W e h => (rParseInt_E s h (by omega)).mono fun e' W' hh => ?_⟩
    · obtain ⟨he, hE⟩ := hh.2 hr
      exact ⟨⟨none, 0, 0, 0⟩, he, rfl, lenL_zero.symm, hE.nought⟩
    · obtain ⟨he, hE⟩ := hh.2 hr
      exact ⟨⟨none, 0, 0, 0⟩, he, rfl, lenL_zero.symm, hE.nought⟩

set_option maxRecDepth 100000 in
set_option maxHeartbeats 4000000 in
theorem dtells_far (w : World) (S : DigTold w) (x : Num) (b : Bool) (y : Num) (A : Option Addr) (c : Nat) (l : List Num) (s : ByteArray) (hx : x.ok w w.heap.size) (hy : y.ok w w.heap.size) (hR : Rds w w.heap.size A l) (hl : l.length ≤ 100000000000000)
    (hs : s.size ≤ maxLen) (hg : ¬ (great4 [x, y] = false ∧ great4 l = false ∧ s.size ≤ 200)) :
    Calls Tryz.prog 3 #[.slice x.A x.n x.c, .agg #[.bool b, .slice y.A y.n y.c], .slice A l.length c, .string s] w fun e w' => e = .returned (.bool true) ∧ Below w.heap.size w w' := by
  have hbx : Below w.heap.size w (w.alloc (.cells #[.bool b, .slice y.A y.n y.c] 25)) := (Below.refl _ _).alloc (Nat.le_refl _) _
  have hE0 : Env w [x, y] (w.alloc (.cells #[.bool b, .slice y.A y.n y.c] 25)) := (Env.start (by simp; exact ⟨hx, hy⟩)).alloc _
  have B1 := Box2.new w 25 (.bool b) (.slice y.A y.n y.c)
  obtain ⟨W1, hW1⟩ : ∃ W1, w.alloc (.cells #[.bool b, .slice y.A y.n y.c] 25) = W1 := ⟨_, rfl⟩
  rw [hW1] at hE0 B1 hbx
  obtain ⟨c1, c2, -, -⟩ := B1.cells
  have EG := great4_E2 (x := x) (y := y) hE0 (by simp) (by simp) rfl
  have hs2 : s.size ≤ 9223372036854775807 := by simpa [maxLen] using hs
  clear hs hx hy
  cases h1 : great4 [x, y] with
  | true =>
    rw [h1] at EG
    replace EG := Lib.hid EG
    clear hg h1
    go_enter Tryz.func3, Tryz.ntmps3
    go_wp2_with fail
    refine EG.out.mono ?_
    rintro e V1 ⟨rfl, hE1⟩
    go_wp2_with fail
    refine (wakes6_E S hE1).mono ?_
    rintro e Vw ⟨rfl, hEw⟩
    go_wp2
    go_ret
    exact ⟨rfl, hEw.1⟩
  | false =>
    rw [h1] at EG
    replace EG := Lib.hid EG
    cases h2 : great4 l with
    | true =>
      clear hg h1
      have H2 := Lib.hid h2
      clear h2
      go_enter Tryz.func3, Tryz.ntmps3
      go_wp2_with fail
      refine EG.out.mono ?_
      rintro e V1 ⟨rfl, hE1⟩
      go_wp2_with fail
      refine (great4_EL hE1 (hR.env hE1) hl).mono ?_
      rintro e V2 ⟨rfl, hE2⟩
      rw [H2.out]
      go_wp2_with fail
      refine (wakes6_E S hE2).mono ?_
      rintro e Vw ⟨rfl, hEw⟩
      go_wp2
      go_ret
      exact ⟨rfl, hEw.1⟩
    | false =>
      have hs3 : 200 < s.size := by
        rcases Nat.lt_or_ge 200 s.size with h3 | h3
        · exact h3
        · exact absurd ⟨h1, h2, h3⟩ hg
      clear hg h1
      have H2 := Lib.hid h2
      clear h2
      go_enter Tryz.func3, Tryz.ntmps3
      go_wp2_with fail
      refine EG.out.mono ?_
      rintro e V1 ⟨rfl, hE1⟩
      go_wp2_with fail
      refine (great4_EL hE1 (hR.env hE1) hl).mono ?_
      rintro e V2 ⟨rfl, hE2⟩
      rw [H2.out]
      go_wp2_with fail
      refine (wakes6_E S hE2).mono ?_
      rintro e Vw ⟨rfl, hEw⟩
      go_wp2
      go_ret
      exact ⟨rfl, hEw.1⟩

set_option maxRecDepth 100000 in
set_option maxHeartbeats 4000000 in
theorem dtells_go (w : World) (S : DigTold w) (x : Num) (b : Bool) (y : Num) (A : Option Addr) (c : Nat) (l : List Num) (s : ByteArray) (hx : x.ok w w.heap.size) (hy : y.ok w w.heap.size) (hR : Rds w w.heap.size A l)
    (hg : great4 [x, y] = false) (hg2 : great4 l = false) (hs : s.size ≤ 200) :
    Calls Tryz.prog 3 #[.slice x.A x.n x.c, .agg #[.bool b, .slice y.A y.n y.c], .slice A l.length c, .string s] w fun e w' => e = .returned (.bool true) ∧ Below w.heap.size w w' := by
  have bx := size4_2 hg
  have bl := (great4_false hg2).1
  have HB := Lib.hid (great4_false hg2).2
  have hbx : Below w.heap.size w (w.alloc (.cells #[.bool b, .slice y.A y.n y.c] 25)) := (Below.refl _ _).alloc (Nat.le_refl _) _
  have hE0 : Env w [x, y] (w.alloc (.cells #[.bool b, .slice y.A y.n y.c] 25)) := (Env.start (by simp; exact ⟨hx, hy⟩)).alloc _
  have B1 := Box2.new w 25 (.bool b) (.slice y.A y.n y.c)
  obtain ⟨W1, hW1⟩ : ∃ W1, w.alloc (.cells #[.bool b, .slice y.A y.n y.c] 25) = W1 := ⟨_, rfl⟩
  rw [hW1] at hE0 B1 hbx
  obtain ⟨c1, c2, -, -⟩ := B1.cells
  have EG := great4_E2 (x := x) (y := y) hE0.here (by simp) (by simp) rfl
  rw [hg] at EG
  replace EG := Lib.hid EG
  have P1 := Lib.hid B1
  have ROW := Lib.hid (fun V (hb : Below w.heap.size w V) => (show Rds V V.heap.size A l from (hR.below hb).more hb.size))
  obtain ⟨PN, pe, PP⟩ := parse_both s (by omega)
  obtain ⟨qb, QN, qe, QQ⟩ := parseInt_both s (by omega)
  replace PP := Lib.hid PP
  replace QQ := Lib.hid QQ
  have HG2 := Lib.hid hg2
  have H1 := Lib.hid hbx
  have S1 := Lib.hid S
  have HBX := Lib.hid bx
  have HBL := Lib.hid bl
  clear hx hy hR hg hg2 hE0 B1 hbx bl bx S
  go_enter Tryz.func3, Tryz.ntmps3
  go_wp2_with fail
  clear hW1
  refine EG.out.mono ?_
  rintro e W2 ⟨rfl, hE2⟩
  have EL := great4_EL hE2 (ROW.out W2 (H1.out.trans (hE2.1.mono H1.out.size))) (c := c) (by have := HBL.out; omega)
  rw [HG2.out] at EL
  replace EL := Lib.hid EL
  clear hE2 EG c1 c2
  go_wp2_with fail
  refine EL.out.mono ?_
  rintro e W3 ⟨rfl, hE3⟩
  clear EL
  go_wp2_with fail
  have H3 := H1.out.trans (hE3.1.mono H1.out.size)
  refine (PP.out.1 w _ W3 _ S1.out H3 hE3).mono ?_
  rintro e W4 ⟨r, rfl, rN, rn, hE4⟩
  clear hE3 H3
  replace rN := Lib.hid rN
  replace rn := Lib.hid rn
  go_wp2_with fail
  refine (PP.out.2 _ W4 _ hE4).mono ?_
  rintro e W5 ⟨r', rfl, r'N, r'n, hE5⟩
  clear hE4
  replace r'N := Lib.hid r'N
  replace r'n := Lib.hid r'n
  go_wp2_with fail
  have H5 := H1.out.trans (hE5.1.mono H1.out.size)
  refine (QQ.out.1 w _ W5 _ S1.out H5 hE5).mono ?_
  rintro e W6 ⟨q, rfl, qN, qn, hE6⟩
  clear hE5 H5
  replace qN := Lib.hid qN
  replace qn := Lib.hid qn
  have hE7 := hE6.alloc (.cells #[.bool qb, .slice q.A q.n q.c] 25)
  have B13 := Box2.new W6 25 (.bool qb) (.slice q.A q.n q.c)
  obtain ⟨W7, hW7⟩ : ∃ W7, W6.alloc (.cells #[.bool qb, .slice q.A q.n q.c] 25) = W7 := ⟨_, rfl⟩
  rw [hW7] at hE7 B13
  have EQ := Lib.hid (QQ.out.2 _ W7 _ hE7.here)
  have P7 := Lib.hid (P1.out.below hE7.1 P1.out.lt)
  have P13 := Lib.hid B13
  have H7 := Lib.hid (H1.out.trans (hE7.1.mono H1.out.size))
  clear hE6 hE7 B13 P1 H1
  go_wp2_with fail
  clear hW7
  refine EQ.out.mono ?_
  rintro e W8 ⟨q', rfl, q'N, q'n, hE8⟩
  replace q'N := Lib.hid q'N
  replace q'n := Lib.hid q'n
  have hE9 := hE8.alloc (.cells #[.bool qb, .slice q'.A q'.n q'.c] 25)
  have B15 := Box2.new W8 25 (.bool qb) (.slice q'.A q'.n q'.c)
  obtain ⟨W9, hW9⟩ : ∃ W9, W8.alloc (.cells #[.bool qb, .slice q'.A q'.n q'.c] 25) = W9 := ⟨_, rfl⟩
  rw [hW9] at hE9 B15
  have P9x := Lib.hid (P7.out.below hE9.1 P7.out.lt)
  have P13b := Lib.hid (P13.out.below hE9.1 P13.out.lt)
  have P15 := Lib.hid B15
  have H9 := Lib.hid (H7.out.trans (hE9.1.mono H7.out.size))
  have ES := gSame_E (x := r) (y := r') hE9.here (by simp) (by simp)
  rw [same_of (show r.N = r'.N by rw [rN.out, r'N.out]) (by rw [rn.out, rN.out]) (by rw [r'n.out, r'N.out])] at ES
  replace ES := Lib.hid ES
  clear hE8 hE9 B15 P7 P13 H7 EQ
  go_wp2_with fail
  clear hW9
  refine ES.out.mono ?_
  rintro e W10 ⟨rfl, hE10⟩
  obtain ⟨c1, c2, -, -⟩ := (P13b.out.below hE10.1 P13b.out.lt).cells
  obtain ⟨c3, c4, -, -⟩ := (P15.out.below hE10.1 P15.out.lt).cells
  have EI := Lib.hid (same6_E (x := q) (y := q') qb hE10.here (by simp) (by simp) (same_of (show q.N = q'.N by rw [qN.out, q'N.out]) (by rw [qn.out, qN.out]) (by rw [q'n.out, q'N.out])))
  have P10 := Lib.hid (P9x.out.below hE10.1 P9x.out.lt)
  have H10 := Lib.hid (H9.out.trans (hE10.1.mono H9.out.size))
  clear hE10 ES P9x P13b P15 H9
  go_wp2_with fail
  refine EI.out.mono ?_
  rintro e W11 ⟨rfl, hE11⟩
  have BX := Lib.hid (P10.out.below hE11.1 P10.out.lt)
  have HW11 := Lib.hid (H10.out.trans (hE11.1.mono H10.out.size))
  have HE11 := Lib.hid hE11
  clear hE11 EI P10 H10 c1 c2 c3 c4
  go_wp2_with fail
  refine wp_region_facts 30 [72, 73, 74, 75, 76, 77, 78, 79, 80, 81, 82, 83, 84, 85, 86, 87, 88, 89, 90, 91, 92, 93, 94, 95, 96, 97, 98, 99, 100, 8] (fun i v V => match i with
      | 0 => v = .slice x.A x.n x.c
      | 1 => v = .string ⟨(dec x.N).toArray⟩
      | 2 => v = .slice x.A x.n x.c
      | 3 => v = .string ⟨(dec x.N).toArray⟩
      | 4 => v = .bool true
      | 5 => v = .bool true
      | 6 => v = .agg #[.bool b, .slice y.A y.n y.c]
      | 7 => v = .string ⟨(itext b y.N).toArray⟩
      | 8 => v = .agg #[.bool b, .slice y.A y.n y.c]
      | 9 => v = .string ⟨(itext b y.N).toArray⟩
      | 10 => v = .bool true
      | 11 => v = .bool true
      | 12 => v = .bool true
      | 13 => v = .slice x.A x.n x.c
      | 14 => v = .int .i64 ((dec x.N).length : Nat)
      | 15 => v = .slice x.A x.n x.c
      | 16 => v = .int .i64 ((dec x.N).length : Nat)
      | 17 => v = .bool true
      | 18 => v = .bool true
      | 19 => v = .bool true
      | 20 => v = .slice A l.length c
      | 21 => RepS (txts l) v V
      | 22 => v = .slice A l.length c
      | 23 => RepS (txts l) v V
      | 24 => v = .bool true
      | 25 => v = .bool true
      | 26 => v = .bool true
      | 27 => v = .bool true
      | 28 => v = .bool true
      | _ => v = .bool true) (fun V => Below W11.heap.size W11 V) (by kernel_rfl) (by kernel_rfl) rfl (by decide) (by first | (simp; done) | (simp; done)) (Below.refl _ _).drew ?_ ?_ ?_
  · intro i v V V2 hf hb _
    match i, hf with
    | 0, hf => exact hf
    | 1, hf => exact hf
    | 2, hf => exact hf
    | 3, hf => exact hf
    | 4, hf => exact hf
    | 5, hf => exact hf
    | 6, hf => exact hf
    | 7, hf => exact hf
    | 8, hf => exact hf
    | 9, hf => exact hf
    | 10, hf => exact hf
    | 11, hf => exact hf
    | 12, hf => exact hf
    | 13, hf => exact hf
    | 14, hf => exact hf
    | 15, hf => exact hf
    | 16, hf => exact hf
    | 17, hf => exact hf
    | 18, hf => exact hf
    | 19, hf => exact hf
    | 20, hf => exact hf
    | 21, hf => exact RepS.keep hf hb
    | 22, hf => exact hf
    | 23, hf => exact RepS.keep hf hb
    | 24, hf => exact hf
    | 25, hf => exact hf
    | 26, hf => exact hf
    | 27, hf => exact hf
    | 28, hf => exact hf
    | _ + 29, hf => exact hf
  · intro i t ht a V hC hF hd
    match i, ht with
    | 0, ht =>
      cases ht
      have h0 : a.tmps[0]?.getD undef = .slice x.A x.n x.c := (hF.at_ 0 (by decide)).trans rfl
      exact step_value (v := .slice x.A x.n x.c) rfl rfl (wanted_free rfl) (by go_simp) hC rfl
    | 1, ht =>
      cases ht
      have h72 : a.tmps[72]?.getD undef = .slice x.A x.n x.c := (slot_eq a 72).symm.trans (hd 0 72 rfl (by kernel_rfl))
      have hm := S1.out.text V V [x] x (HW11.out.trans (hC.mono HW11.out.size)) (Env.start (by simp only [List.mem_singleton, forall_eq]; exact (HE11.out.2 x (by simp)).later hC)) (by simp) (by have := HBX.out; omega)
      refine step_call rfl rfl (wanted_free rfl) (call1_run ⟨_, rfl⟩ h72 (enters_of Tryz.func16 (by kernel_rfl) rfl)) (hm.mono ?_)
      rintro e2 V2 ⟨rfl, hE⟩
      exact ⟨_, rfl, rfl, hE.1, hC.trans (hE.1.mono hC.size)⟩
    | 2, ht =>
      cases ht
      have h0 : a.tmps[0]?.getD undef = .slice x.A x.n x.c := (hF.at_ 0 (by decide)).trans rfl
      exact step_value (v := .slice x.A x.n x.c) rfl rfl (wanted_free rfl) (by go_simp) hC rfl
    | 3, ht =>
      cases ht
      have h74 : a.tmps[74]?.getD undef = .slice x.A x.n x.c := (slot_eq a 74).symm.trans (hd 2 74 rfl (by kernel_rfl))
      have hm := rText_E (w := V) (W := V) (e := [x]) (x := x) (Env.start (by simp only [List.mem_singleton, forall_eq]; exact (HE11.out.2 x (by simp)).later hC)) (by simp) (by have := HBX.out; omega)
      refine step_call rfl rfl (wanted_free rfl) (call1_run ⟨_, rfl⟩ h74 (enters_of Tryz.func17 (by kernel_rfl) rfl)) (hm.mono ?_)
      rintro e2 V2 ⟨rfl, hE⟩
      exact ⟨_, rfl, rfl, hE.1, hC.trans (hE.1.mono hC.size)⟩
    | 4, ht =>
      cases ht
      have h73 : a.tmps[73]?.getD undef = .string ⟨(dec x.N).toArray⟩ := (slot_eq a 73).symm.trans (hd 1 73 rfl (by kernel_rfl))
      have h75 : a.tmps[75]?.getD undef = .string ⟨(dec x.N).toArray⟩ := (slot_eq a 75).symm.trans (hd 3 75 rfl (by kernel_rfl))
      exact step_value (v := .bool true) rfl rfl (wanted_free rfl) (by go_simp) hC rfl
    | 5, ht =>
      cases ht
      have h76 : a.tmps[76]?.getD undef = .bool true := (slot_eq a 76).symm.trans (hd 4 76 rfl (by kernel_rfl))
      exact step_value (v := .bool true) rfl rfl (wanted_free rfl) (by go_simp) hC rfl
    | 6, ht =>
      cases ht
      have gk : a.tmps.getD 77 undef = .bool true := hd 5 77 rfl (by kernel_rfl)
      have h5 : a.tmps[5]?.getD undef = .pointer (some ⟨w.heap.size, 0, none⟩) := (hF.at_ 5 (by decide)).trans rfl
      obtain ⟨c00, c01, -, -⟩ := (BX.out.below hC BX.out.lt).cells
      exact step_value (v := .agg #[.bool b, .slice y.A y.n y.c]) rfl rfl ((wanted_if rfl rfl rfl gk).trans rfl) (by go_simp) hC rfl
    | 7, ht =>
      cases ht
      have gk : a.tmps.getD 77 undef = .bool true := hd 5 77 rfl (by kernel_rfl)
      have h78 : a.tmps[78]?.getD undef = .agg #[.bool b, .slice y.A y.n y.c] := (slot_eq a 78).symm.trans (hd 6 78 rfl (by kernel_rfl))
      have hm := S1.out.itext V V [y] b y (HW11.out.trans (hC.mono HW11.out.size)) (Env.start (by simp only [List.mem_singleton, forall_eq]; exact (HE11.out.2 y (by simp)).later hC)) (by simp) (by have := HBX.out; omega)
      refine step_call rfl rfl ((wanted_if rfl rfl rfl gk).trans rfl) (call1_run ⟨_, rfl⟩ h78 (enters_of Tryz.func18 (by kernel_rfl) rfl)) (hm.mono ?_)
      rintro e2 V2 ⟨rfl, hE⟩
      exact ⟨_, rfl, rfl, hE.1, hC.trans (hE.1.mono hC.size)⟩
    | 8, ht =>
      cases ht
      have gk : a.tmps.getD 77 undef = .bool true := hd 5 77 rfl (by kernel_rfl)
      have h5 : a.tmps[5]?.getD undef = .pointer (some ⟨w.heap.size, 0, none⟩) := (hF.at_ 5 (by decide)).trans rfl
      obtain ⟨c00, c01, -, -⟩ := (BX.out.below hC BX.out.lt).cells
      exact step_value (v := .agg #[.bool b, .slice y.A y.n y.c]) rfl rfl ((wanted_if rfl rfl rfl gk).trans rfl) (by go_simp) hC rfl
    | 9, ht =>
      cases ht
      have gk : a.tmps.getD 77 undef = .bool true := hd 5 77 rfl (by kernel_rfl)
      have h80 : a.tmps[80]?.getD undef = .agg #[.bool b, .slice y.A y.n y.c] := (slot_eq a 80).symm.trans (hd 8 80 rfl (by kernel_rfl))
      have hm := rIntText_E (w := V) (W := V) (e := [y]) (x := y) b (Env.start (by simp only [List.mem_singleton, forall_eq]; exact (HE11.out.2 y (by simp)).later hC)) (by simp) (by have := HBX.out; omega)
      refine step_call rfl rfl ((wanted_if rfl rfl rfl gk).trans rfl) (call1_run ⟨_, rfl⟩ h80 (enters_of Tryz.func19 (by kernel_rfl) rfl)) (hm.mono ?_)
      rintro e2 V2 ⟨rfl, hE⟩
      exact ⟨_, rfl, rfl, hE.1, hC.trans (hE.1.mono hC.size)⟩
    | 10, ht =>
      cases ht
      have gk : a.tmps.getD 77 undef = .bool true := hd 5 77 rfl (by kernel_rfl)
      have h79 : a.tmps[79]?.getD undef = .string ⟨(itext b y.N).toArray⟩ := (slot_eq a 79).symm.trans (hd 7 79 rfl (by kernel_rfl))
      have h81 : a.tmps[81]?.getD undef = .string ⟨(itext b y.N).toArray⟩ := (slot_eq a 81).symm.trans (hd 9 81 rfl (by kernel_rfl))
      exact step_value (v := .bool true) rfl rfl ((wanted_if rfl rfl rfl gk).trans rfl) (by go_simp) hC rfl
    | 11, ht =>
      cases ht
      have h77 : a.tmps[77]?.getD undef = .bool true := (slot_eq a 77).symm.trans (hd 5 77 rfl (by kernel_rfl))
      have h82 : a.tmps[82]?.getD undef = .bool true := (slot_eq a 82).symm.trans (hd 10 82 rfl (by kernel_rfl))
      exact step_value (v := .bool true) rfl rfl (wanted_free rfl) (by go_simp) hC rfl
    | 12, ht =>
      cases ht
      have h83 : a.tmps[83]?.getD undef = .bool true := (slot_eq a 83).symm.trans (hd 11 83 rfl (by kernel_rfl))
      exact step_value (v := .bool true) rfl rfl (wanted_free rfl) (by go_simp) hC rfl
    | 13, ht =>
      cases ht
      have gk : a.tmps.getD 84 undef = .bool true := hd 12 84 rfl (by kernel_rfl)
      have h0 : a.tmps[0]?.getD undef = .slice x.A x.n x.c := (hF.at_ 0 (by decide)).trans rfl
      exact step_value (v := .slice x.A x.n x.c) rfl rfl ((wanted_if rfl rfl rfl gk).trans rfl) (by go_simp) hC rfl
    | 14, ht =>
      cases ht
      have gk : a.tmps.getD 84 undef = .bool true := hd 12 84 rfl (by kernel_rfl)
      have h85 : a.tmps[85]?.getD undef = .slice x.A x.n x.c := (slot_eq a 85).symm.trans (hd 13 85 rfl (by kernel_rfl))
      have hm := S1.out.count V V [x] x (HW11.out.trans (hC.mono HW11.out.size)) (Env.start (by simp only [List.mem_singleton, forall_eq]; exact (HE11.out.2 x (by simp)).later hC)) (by simp) (by have := HBX.out; omega)
      refine step_call rfl rfl ((wanted_if rfl rfl rfl gk).trans rfl) (call1_run ⟨_, rfl⟩ h85 (enters_of Tryz.func20 (by kernel_rfl) rfl)) (hm.mono ?_)
      rintro e2 V2 ⟨rfl, hE⟩
      exact ⟨_, rfl, rfl, hE.1, hC.trans (hE.1.mono hC.size)⟩
    | 15, ht =>
      cases ht
      have gk : a.tmps.getD 84 undef = .bool true := hd 12 84 rfl (by kernel_rfl)
      have h0 : a.tmps[0]?.getD undef = .slice x.A x.n x.c := (hF.at_ 0 (by decide)).trans rfl
      exact step_value (v := .slice x.A x.n x.c) rfl rfl ((wanted_if rfl rfl rfl gk).trans rfl) (by go_simp) hC rfl
    | 16, ht =>
      cases ht
      have gk : a.tmps.getD 84 undef = .bool true := hd 12 84 rfl (by kernel_rfl)
      have h87 : a.tmps[87]?.getD undef = .slice x.A x.n x.c := (slot_eq a 87).symm.trans (hd 15 87 rfl (by kernel_rfl))
      have hm := rCount6_E (w := V) (W := V) (e := [x]) (x := x) (Env.start (by simp only [List.mem_singleton, forall_eq]; exact (HE11.out.2 x (by simp)).later hC)) (by simp) (by have := HBX.out; omega)
      refine step_call rfl rfl ((wanted_if rfl rfl rfl gk).trans rfl) (call1_run ⟨_, rfl⟩ h87 (enters_of Tryz.func21 (by kernel_rfl) rfl)) (hm.mono ?_)
      rintro e2 V2 ⟨rfl, hE⟩
      exact ⟨_, rfl, rfl, hE.1, hC.trans (hE.1.mono hC.size)⟩
    | 17, ht =>
      cases ht
      have gk : a.tmps.getD 84 undef = .bool true := hd 12 84 rfl (by kernel_rfl)
      have h86 : a.tmps[86]?.getD undef = .int .i64 ((dec x.N).length : Nat) := (slot_eq a 86).symm.trans (hd 14 86 rfl (by kernel_rfl))
      have h88 : a.tmps[88]?.getD undef = .int .i64 ((dec x.N).length : Nat) := (slot_eq a 88).symm.trans (hd 16 88 rfl (by kernel_rfl))
      exact step_value (v := .bool true) rfl rfl ((wanted_if rfl rfl rfl gk).trans rfl) (by go_simp) hC rfl
    | 18, ht =>
      cases ht
      have h84 : a.tmps[84]?.getD undef = .bool true := (slot_eq a 84).symm.trans (hd 12 84 rfl (by kernel_rfl))
      have h89 : a.tmps[89]?.getD undef = .bool true := (slot_eq a 89).symm.trans (hd 17 89 rfl (by kernel_rfl))
      exact step_value (v := .bool true) rfl rfl (wanted_free rfl) (by go_simp) hC rfl
    | 19, ht =>
      cases ht
      have h90 : a.tmps[90]?.getD undef = .bool true := (slot_eq a 90).symm.trans (hd 18 90 rfl (by kernel_rfl))
      exact step_value (v := .bool true) rfl rfl (wanted_free rfl) (by go_simp) hC rfl
    | 20, ht =>
      cases ht
      have gk : a.tmps.getD 91 undef = .bool true := hd 19 91 rfl (by kernel_rfl)
      have h2 : a.tmps[2]?.getD undef = .slice A l.length c := (hF.at_ 2 (by decide)).trans rfl
      exact step_value (v := .slice A l.length c) rfl rfl ((wanted_if rfl rfl rfl gk).trans rfl) (by go_simp) hC rfl
    | 21, ht =>
      cases ht
      have gk : a.tmps.getD 91 undef = .bool true := hd 19 91 rfl (by kernel_rfl)
      have h92 : a.tmps[92]?.getD undef = .slice A l.length c := (slot_eq a 92).symm.trans (hd 20 92 rfl (by kernel_rfl))
      have hm := pAll6_any (w0 := w) (w := V) (c := c) S1.out (HW11.out.trans (hC.mono HW11.out.size)) (ROW.out V (HW11.out.trans (hC.mono HW11.out.size))) (by have := HBL.out; omega) (fun z hz => Nat.le_trans (HB.out z hz) (by omega))
      refine step_call rfl rfl ((wanted_if rfl rfl rfl gk).trans rfl) (call1_run ⟨_, rfl⟩ h92 (enters_of Tryz.func23 (by kernel_rfl) rfl)) (hm.mono ?_)
      rintro e2 V2 ⟨v, rfl, hb2, hs2⟩
      exact ⟨v, rfl, hs2, hb2, hC.trans (hb2.mono hC.size)⟩
    | 22, ht =>
      cases ht
      have gk : a.tmps.getD 91 undef = .bool true := hd 19 91 rfl (by kernel_rfl)
      have h2 : a.tmps[2]?.getD undef = .slice A l.length c := (hF.at_ 2 (by decide)).trans rfl
      exact step_value (v := .slice A l.length c) rfl rfl ((wanted_if rfl rfl rfl gk).trans rfl) (by go_simp) hC rfl
    | 23, ht =>
      cases ht
      have gk : a.tmps.getD 91 undef = .bool true := hd 19 91 rfl (by kernel_rfl)
      have h94 : a.tmps[94]?.getD undef = .slice A l.length c := (slot_eq a 94).symm.trans (hd 22 94 rfl (by kernel_rfl))
      have hm := rAll6_any (w := V) (c := c) (ROW.out V (HW11.out.trans (hC.mono HW11.out.size))) (by have := HBL.out; omega) (fun z hz => Nat.le_trans (HB.out z hz) (by omega))
      refine step_call rfl rfl ((wanted_if rfl rfl rfl gk).trans rfl) (call1_run ⟨_, rfl⟩ h94 (enters_of Tryz.func24 (by kernel_rfl) rfl)) (hm.mono ?_)
      rintro e2 V2 ⟨v, rfl, hb2, hs2⟩
      exact ⟨v, rfl, hs2, hb2, hC.trans (hb2.mono hC.size)⟩
    | 24, ht =>
      cases ht
      have gk : a.tmps.getD 91 undef = .bool true := hd 19 91 rfl (by kernel_rfl)
      have r93 : RepS (txts l) (a.tmps.getD 93 undef) V := hd 21 93 rfl (by kernel_rfl)
      have h93 : a.tmps[93]?.getD undef = a.tmps.getD 93 undef := (slot_eq a 93).symm
      have r95 : RepS (txts l) (a.tmps.getD 95 undef) V := hd 23 95 rfl (by kernel_rfl)
      have h95 : a.tmps[95]?.getD undef = a.tmps.getD 95 undef := (slot_eq a 95).symm
      refine step_call rfl rfl ((wanted_if rfl rfl rfl gk).trans rfl) (call2_run ⟨_, rfl⟩ h93 h95 (enters_of Tryz.func22 (by kernel_rfl) rfl)) ((sameTexts_any r93 r95 (by have := HBL.out; omega)).mono ?_)
      rintro e2 V2 ⟨rfl, hb2⟩
      exact ⟨_, rfl, rfl, hb2, hC.trans (hb2.mono hC.size)⟩
    | 25, ht =>
      cases ht
      have h91 : a.tmps[91]?.getD undef = .bool true := (slot_eq a 91).symm.trans (hd 19 91 rfl (by kernel_rfl))
      have h96 : a.tmps[96]?.getD undef = .bool true := (slot_eq a 96).symm.trans (hd 24 96 rfl (by kernel_rfl))
      exact step_value (v := .bool true) rfl rfl (wanted_free rfl) (by go_simp) hC rfl
    | 26, ht =>
      cases ht
      have h97 : a.tmps[97]?.getD undef = .bool true := (slot_eq a 97).symm.trans (hd 25 97 rfl (by kernel_rfl))
      exact step_value (v := .bool true) rfl rfl (wanted_free rfl) (by go_simp) hC rfl
    | 27, ht =>
      cases ht
      have gk : a.tmps.getD 98 undef = .bool true := hd 26 98 rfl (by kernel_rfl)
      have hm := wakes6_E (S1.out.on (HW11.out.trans (hC.mono HW11.out.size))) (Env.start (w := V) (l := []) (by simp))
      refine step_call rfl rfl ((wanted_if rfl rfl rfl gk).trans rfl) (call0_run6 ⟨_, rfl⟩ (enters_of Tryz.func9 (by kernel_rfl) rfl)) (hm.mono ?_)
      rintro e2 V2 ⟨rfl, hE⟩
      exact ⟨_, rfl, rfl, hE.1, hC.trans (hE.1.mono hC.size)⟩
    | 28, ht =>
      cases ht
      have h98 : a.tmps[98]?.getD undef = .bool true := (slot_eq a 98).symm.trans (hd 26 98 rfl (by kernel_rfl))
      have h99 : a.tmps[99]?.getD undef = .bool true := (slot_eq a 99).symm.trans (hd 27 99 rfl (by kernel_rfl))
      exact step_value (v := .bool true) rfl rfl (wanted_free rfl) (by go_simp) hC rfl
    | 29, ht =>
      cases ht
      have h100 : a.tmps[100]?.getD undef = .bool true := (slot_eq a 100).symm.trans (hd 28 100 rfl (by kernel_rfl))
      exact step_value (v := .bool true) rfl rfl (wanted_free rfl) (by go_simp) hC rfl
    | k + 30, ht => simp at ht
  · intro a9 V9 hC hF hf
    have h8 := (hf 29 8 rfl : a9.tmps.getD 8 undef = .bool true)
    have hdf : a9.defers = [] := hF.defers
    have hb9 := HW11.out.trans (hC.mono HW11.out.size)
    clear hf hF
    show wpList _ _ _ [] a9 V9
    go_wp2
    exact bodyPost_ret (results_tmp rfl _ _ _) hdf ⟨by rw [h8], hb9⟩

theorem dtells_any (w : World) (S : DigTold w) (x : Num) (b : Bool) (y : Num) (A : Option Addr) (c : Nat) (l : List Num) (s : ByteArray) (hx : x.ok w w.heap.size) (hy : y.ok w w.heap.size) (hR : Rds w w.heap.size A l) (hl : l.length ≤ 100000000000000) (_hlc : l.length ≤ c) (_hcm : c ≤ maxLen)
    (hs : s.size ≤ maxLen) :
    Calls Tryz.prog 3 #[.slice x.A x.n x.c, .agg #[.bool b, .slice y.A y.n y.c], .slice A l.length c, .string s] w fun e w' => e = .returned (.bool true) ∧ Below w.heap.size w w' := by
  by_cases hg : great4 [x, y] = false ∧ great4 l = false ∧ s.size ≤ 200
  · exact dtells_go w S x b y A c l s hx hy hR hg.1 hg.2.1 hg.2.2
  · exact dtells_far w S x b y A c l s hx hy hR hl hs hg
end Go.Proofs.YtaancfhbmjkoaaaGreatDoor
