/- DigitsBack, over what the program's functions answer: a text of an integer is parsed as it; what is parsed, told, is the text without noughts ahead. -/
import Derived.Laws.IdiomStrings
import Derived.Laws.DeepStrings4
import Derived.Test.YtaancfhbmjkoaaaGreatDoorWakes6
import Derived.Test.YtaancfhbmjkoaaaGreatDoorGRefA
import Derived.Test.YtaancfhbmjkoaaaGreatDoorSame6
import Derived.Test.YtaancfhbmjkoaaaGreatDoorFactsN
import Derived.Test.YtaancfhbmjkoaaaGreatDoorLaw
namespace Go.Proofs.YtaancfhbmjkoaaaGreatDoor
open Go Go.ChangeShapes Go.WideShapes Go.ChangeAt Go.RowKit Go.Deep

set_option maxRecDepth 100000 in
set_option maxHeartbeats 4000000 in
theorem dback_far (w : World) (S : DigTold w) (b : Bool) (x : Num) (s : ByteArray) (hx : x.ok w w.heap.size) (hs : s.size ≤ maxLen) (hl : ¬ (x.n ≤ 6 ∧ s.size ≤ 200)) :
    Calls Tryz.prog 4 #[.agg #[.bool b, .slice x.A x.n x.c], .string s] w fun e w' => e = .returned (.bool true) ∧ Below w.heap.size w w' := by
  have hE0 : Env w [x] (w.alloc (.cells #[.bool b, .slice x.A x.n x.c] 25)) := (Env.start (by simp; exact hx)).alloc _
  have EW := Lib.hid (wakes6_E S hE0)
  have hs2 : s.size ≤ 9223372036854775807 := by simpa [maxLen] using hs
  have hx2 : x.n ≤ 35184372087808 := hx.2.2.2
  clear hx hE0 hs
  rcases (by omega : 6 < x.n ∨ (x.n ≤ 6 ∧ 200 < s.size)) with h1 | ⟨h1, h2⟩
  all_goals
    clear hl
    go_enter Tryz.func4, Tryz.ntmps4
    go_wp2_with fail
    refine EW.out.mono ?_
    rintro e Vw ⟨rfl, hEw⟩
    go_wp2
    go_ret
    exact ⟨rfl, hEw.1⟩

theorem itext_parts (b : Bool) (N : Nat) : iRest (itext b N) = dec N ∧ iNeg (itext b N) = (b && decide (N ≠ 0)) := by
  have hd := digs_dec N
  have hne := dec_ne N
  have h0 : iNeg (dec N) = false := by
    unfold iNeg
    cases h : dec N with
    | nil => exact absurd h hne
    | cons c l =>
      rw [h] at hd
      have := (digs_cons.mp hd).1
      simp only [List.head?_cons, beq_eq_false_iff_ne, ne_eq, Option.some.injEq]
      intro e; subst e; revert this; decide
  unfold itext
  by_cases h : b = true ∧ N ≠ 0
  · rw [if_pos h]
    refine ⟨rfl, ?_⟩
    rw [h.1]
    simp [iNeg, h.2]
  · rw [if_neg h]
    refine ⟨by unfold iRest; rw [h0]; rfl, ?_⟩
    rw [h0]
    cases b
    · rfl
    · have : N = 0 := by simpa using h
      simp [this]
theorem call0_run {o : Oper} {a : Act} {V : World} {f : FuncId} (hop : ∃ ts, o.op = .call { callee := .value (.func f), args := #[], argTypes := ts }) (en : ∀ args w, (callFunc f args).run Tryz.prog w = .ok (.enter f args) w) :
    (execOp a.eval o).run Tryz.prog V = .ok (.enter f #[]) V := by
  obtain ⟨dst, op, ty, pos, after, guard⟩ := o
  obtain ⟨ts, hop⟩ := hop
  simp only at hop
  subst hop
  have := en #[] V
  go_simp
theorem DigTold.later {w0 w : World} (S : DigTold w0) (h : Below w0.heap.size w0 w) : DigTold w where
  text := fun w1 W e x h0 => S.text w1 W e x (h.trans (h0.mono h.size))
  itext := fun w1 W e b x h0 => S.itext w1 W e b x (h.trans (h0.mono h.size))
  count := fun w1 W e x h0 => S.count w1 W e x (h.trans (h0.mono h.size))
  parse := fun w1 W e s h0 => S.parse w1 W e s (h.trans (h0.mono h.size))
  parseInt := fun w1 W e s h0 => S.parseInt w1 W e s (h.trans (h0.mono h.size))
theorem dec_drop {l : List UInt8} {k : Nat} (hd : Digs l) (hk : k < l.length) (hv : val (l.drop k) = val l) (h : k + 1 = l.length ∨ l[k] ≠ 48) : dec (val l) = l.drop k := by
  have hd2 : Digs (l.drop k) := fun c hc => hd c (List.mem_of_mem_drop hc)
  rw [← hv]
  have hcons := List.drop_eq_getElem_cons hk
  by_cases h0 : val (l.drop k) = 0
  · have hk1 : k + 1 = l.length := by
      rcases h with h | h
      · exact h
      · exfalso
        have h48 : 48 < l[k].toNat := by
          have h1 := (hd _ (List.getElem_mem hk)).1
          have h2 : l[k].toNat ≠ 48 := fun e => h (UInt8.toNat_inj.mp e)
          omega
        have := head_ge (l := l.drop (k + 1)) h48
        rw [← hcons, h0] at this
        have := Nat.pow_pos (n := (l.drop (k + 1)).length) (show 0 < 10 by omega)
        omega
    have hnil : l.drop (k + 1) = [] := List.drop_eq_nil_of_le (by omega)
    rw [h0, hcons, hnil, dec_zero]
    rw [hcons, hnil] at h0
    have h1 := hd _ (List.getElem_mem hk)
    have h2 : val [l[k]] = l[k].toNat - 48 := by show 0 * 10 + _ = _; omega
    rw [h2] at h0
    have h3 : l[k] = 48 := UInt8.toNat_inj.mp (by rw [show (48 : UInt8).toNat = 48 from rfl]; omega)
    rw [h3]
  · rw [dec_pos h0]
    refine decz_val hd2 fun c hc => ?_
    rw [hcons, List.head?_cons, Option.some.injEq] at hc
    subst hc
    have h1 := (hd _ (List.getElem_mem hk)).1
    rcases h with h | h
    · have hnil : l.drop (k + 1) = [] := List.drop_eq_nil_of_le (by omega)
      rw [hcons, hnil] at h0
      have h2 : val [l[k]] = l[k].toNat - 48 := by show 0 * 10 + _ = _; omega
      omega
    · have h2 : l[k].toNat ≠ 48 := fun e => h (UInt8.toNat_inj.mp e)
      omega
theorem cut_at (l : List UInt8) (k : Nat) (_h : k ≤ l.length) : (⟨l.toArray⟩ : ByteArray).extract k l.length = ⟨(l.drop k).toArray⟩ := by
  apply ByteArray.ext
  apply Array.ext'
  rw [Lib.extract_data]
  exact List.take_of_length_le (by simp)
theorem dec_six {N n : Nat} (h : N < Bw ^ n) (hn : n ≤ 6) : (dec N).length ≤ 60 := by
  have h1 : N < 10 ^ 60 := Nat.lt_of_lt_of_le (lt_pow_of h hn) (by rw [Bw_eq]; decide)
  by_cases h0 : N = 0
  · rw [h0, dec_zero]; simp
  · rw [dec_pos h0]; exact decz_len h1

set_option maxRecDepth 100000 in
set_option maxHeartbeats 4000000 in
theorem dback_go (w : World) (S : DigTold w) (b : Bool) (x : Num) (l : List UInt8) (hx : x.ok w w.heap.size) (hl : x.n ≤ 6) (hs : l.length ≤ 200) :
    Calls Tryz.prog 4 #[.agg #[.bool b, .slice x.A x.n x.c], .string ⟨l.toArray⟩] w fun e w' => e = .returned (.bool true) ∧ Below w.heap.size w w' := by
  have hE0 : Env w [x] (w.alloc (.cells #[.bool b, .slice x.A x.n x.c] 25)) := (Env.start (by simp; exact hx)).alloc _
  have B1 := Box2.new w 25 (.bool b) (.slice x.A x.n x.c)
  obtain ⟨W1, hW1⟩ : ∃ W1, w.alloc (.cells #[.bool b, .slice x.A x.n x.c] 25) = W1 := ⟨_, rfl⟩
  rw [hW1] at hE0 B1
  obtain ⟨l1, l2⟩ := itext_parts b x.N
  have HX := Lib.hid hx.1.1
  obtain ⟨c1, c2, -, -⟩ := B1.cells
  clear hx
  go_enter Tryz.func4, Tryz.ntmps4
  go_wp2_with fail
  refine (S.itext _ _ _ b x hE0.1 hE0.here (by simp) (by omega)).mono ?_
  rintro e W2 ⟨rfl, hE2⟩
  have hd60 := dec_six HX.out hl
  have hln : (itext b x.N).length ≤ 61 := by
    unfold itext
    split
    · rw [List.length_cons]; omega
    · omega
  have hrd : Reads (iRest (itext b x.N)) := by rw [l1]; exact ⟨(dec_ge _).1, hd60, digs_dec _⟩
  have hb2 := hE0.1.trans (hE2.1.mono hE0.1.size)
  have EP := parseInt_ok S hb2 hE2.here (itext b x.N) (by omega) hrd
  have B2 := B1.below hE2.1 B1.lt
  have HE0 := Lib.hid hE0
  have L1 := Lib.hid l1
  have L2 := Lib.hid l2
  have HB2 := Lib.hid B2
  have HBB := Lib.hid hb2
  have HEP := Lib.hid EP
  clear hE0 B1 c1 c2 EP B2 hrd l1 l2 hW1 hb2
  go_wp2_with fail
  refine HEP.out.mono ?_
  rintro e W3 ⟨r, rfl, rN, rn, hE3⟩
  rw [L1.out, val_dec] at rN
  rw [L1.out, L2.out, val_dec]
  obtain ⟨yb, hyb⟩ : ∃ yb, (b && decide (x.N ≠ 0) && decide (x.N ≠ 0)) = yb := ⟨_, rfl⟩
  rw [hyb]
  have hb3 := HBB.out.trans (hE3.1.mono HBB.out.size)
  have B3 := HB2.out.below hE3.1 HB2.out.lt
  have RN := Lib.hid rN
  have RL := Lib.hid rn
  have hE4 := hE3.here.alloc (.cells #[.bool yb, .slice r.A r.n r.c] 25)
  have hb4 := hb3.alloc hb3.size (.cells #[.bool yb, .slice r.A r.n r.c] 25)
  have B4 := B3.alloc (.cells #[.bool yb, .slice r.A r.n r.c] 25)
  have C4 := Box2.new W3 25 (.bool yb) (.slice r.A r.n r.c)
  obtain ⟨d1, d2, -, -⟩ := B4.cells
  clear rN rn hE2 HEP
  obtain ⟨W4, hW4⟩ : ∃ W4, W3.alloc (.cells #[.bool yb, .slice r.A r.n r.c] 25) = W4 := ⟨_, rfl⟩
  have ET := Lib.hid (rTrim_E hE4.here (x := x) (by simp))
  have HB4 := Lib.hid hb4
  have HE4 := Lib.hid hE4
  have BX := Lib.hid B4
  have BY := Lib.hid C4
  rw [hW4] at ET HB4 BX BY HE4 d1 d2
  clear hE3 hE4 hb3 hb4 B3 B4 C4 HB2 HBB
  go_wp2_with fail
  refine ET.out.mono ?_
  rintro e W5 ⟨u, rfl, uN, un, hE5, -⟩
  have hUN : u.N = x.N := uN
  have hUL : u.n = lenL x.N := un
  have hb5 := HB4.out.trans (hE5.1.mono HB4.out.size)
  have BX5 := Lib.hid (BX.out.below hE5.1 BX.out.lt)
  have BY5 := Lib.hid (BY.out.below hE5.1 BY.out.lt)
  have HB5 := Lib.hid hb5
  have HE5 := Lib.hid hE5
  have HSM : Hid (sameB r.n u.n r.N u.N = true) := Lib.hid (same_of (by rw [RN.out, hUN]) RL.out (by rw [hUL, hUN]))
  have HZ : Hid (decide (0 < u.n) = decide (x.N ≠ 0)) := Lib.hid (by
    by_cases h0 : x.N = 0
    · rw [hUL, h0, lenL_zero]; simp
    · have := lenL_pos h0; rw [hUL]; simp [h0]; omega)
  clear uN un d1 d2 hUN hUL hb5 hE5 HB4 HE4 BX BY ET
  have HRL := Lib.hid (show r.n ≤ 6 by rw [RL.out, RN.out]; exact Nat.le_trans (lenL_le.2 HX.out) hl)
  cases b
  · obtain rfl : yb = false := by rw [← hyb]; rfl
    clear hyb
    go_wp2_with fail
    refine wp_region_facts 25 [32, 33, 34, 35, 36, 37, 38, 39, 40, 41, 42, 43, 44, 45, 46, 47, 48, 49, 50, 51, 52, 53, 54, 55, 56] (fun i v V => match i with
        | 0 => v = .int .i64 0
        | 1 => v = .bool false
        | 2 => v = .bool false
        | 3 => v = .agg #[.bool false, .slice r.A r.n r.c]
        | 4 => v = .pointer (some ⟨w.heap.size, 0, none⟩)
        | 5 => v = .bool false
        | 6 => v = .bool false
        | 7 => v = undef
        | 8 => v = undef
        | 9 => v = undef
        | 10 => v = .bool false
        | 11 => v = .slice u.A u.n u.c
        | 12 => v = .agg #[.bool false, .slice u.A u.n u.c]
        | 13 => v = .bool true
        | 14 => v = .bool false
        | 15 => v = .bool false
        | 16 => v = .bool false
        | 17 => v = .pointer (some ⟨w.heap.size, 1, none⟩)
        | 18 => v = .slice x.A x.n x.c
        | 19 => v = .string ⟨(dec x.N).toArray⟩
        | 20 => v = .pointer (some ⟨W3.heap.size, 1, none⟩)
        | 21 => v = .slice r.A r.n r.c
        | 22 => v = .string ⟨(dec x.N).toArray⟩
        | 23 => v = .bool false
        | _ => v = .bool false) (fun V => Below W5.heap.size W5 V) (by kernel_rfl) (by kernel_rfl) rfl (by decide) (by first | (simp; done) | (simp; done)) (Below.refl _ _).drew ?_ ?_ ?_
    · intro i v V V2 hf hb _
      match i, hf with
      | 0, hf => exact hf
      | 1, hf => exact hf
      | 2, hf => exact hf
      | 3, hf => exact hf
      | 4, hf => exact hf
      | 5, hf => exact hf
      | 6, hf => exact hf
      | 7, hf => exact hf
      | 8, hf => exact hf
      | 9, hf => exact hf
      | 10, hf => exact hf
      | 11, hf => exact hf
      | 12, hf => exact hf
      | 13, hf => exact hf
      | 14, hf => exact hf
      | 15, hf => exact hf
      | 16, hf => exact hf
      | 17, hf => exact hf
      | 18, hf => exact hf
      | 19, hf => exact hf
      | 20, hf => exact hf
      | 21, hf => exact hf
      | 22, hf => exact hf
      | 23, hf => exact hf
      | _ + 24, hf => exact hf
    · intro i t ht a V hC hF hd
      match i, ht with
      | 0, ht =>
        cases ht
        have h7 : a.tmps[7]?.getD undef = .int .i64 0 := (hF.at_ 7 (by decide)).trans rfl
        exact step_value (v := .int .i64 0) rfl rfl (wanted_free rfl) (by go_simp) hC rfl
      | 1, ht =>
        cases ht
        have h32 : a.tmps[32]?.getD undef = .int .i64 0 := (slot_eq a 32).symm.trans (hd 0 32 rfl (by kernel_rfl))
        exact step_value (v := .bool false) rfl rfl (wanted_free rfl) (by go_simp) hC rfl
      | 2, ht =>
        cases ht
        have h33 : a.tmps[33]?.getD undef = .bool false := (slot_eq a 33).symm.trans (hd 1 33 rfl (by kernel_rfl))
        exact step_value (v := .bool false) rfl rfl (wanted_free rfl) (by go_simp) hC rfl
      | 3, ht =>
        cases ht
        have gk : a.tmps.getD 34 undef = .bool false := hd 2 34 rfl (by kernel_rfl)
        have h6 : a.tmps[6]?.getD undef = .pointer (some ⟨W3.heap.size, 0, none⟩) := (hF.at_ 6 (by decide)).trans rfl
        obtain ⟨c00, c01, -, -⟩ := (BX5.out.below hC BX5.out.lt).cells
        obtain ⟨c10, c11, -, -⟩ := (BY5.out.below hC BY5.out.lt).cells
        exact step_value (v := .agg #[.bool false, .slice r.A r.n r.c]) rfl rfl ((wanted_if rfl rfl rfl gk).trans rfl) (by go_simp) hC rfl
      | 4, ht =>
        cases ht
        have gk : a.tmps.getD 34 undef = .bool false := hd 2 34 rfl (by kernel_rfl)
        have h2 : a.tmps[2]?.getD undef = .pointer (some ⟨w.heap.size, 0, none⟩) := (hF.at_ 2 (by decide)).trans rfl
        exact step_value (v := .pointer (some ⟨w.heap.size, 0, none⟩)) rfl rfl ((wanted_if rfl rfl rfl gk).trans rfl) (by go_simp) hC rfl
      | 5, ht =>
        cases ht
        have gk : a.tmps.getD 34 undef = .bool false := hd 2 34 rfl (by kernel_rfl)
        have h36 : a.tmps[36]?.getD undef = .pointer (some ⟨w.heap.size, 0, none⟩) := (slot_eq a 36).symm.trans (hd 4 36 rfl (by kernel_rfl))
        obtain ⟨c00, c01, -, -⟩ := (BX5.out.below hC BX5.out.lt).cells
        obtain ⟨c10, c11, -, -⟩ := (BY5.out.below hC BY5.out.lt).cells
        exact step_value (v := .bool false) rfl rfl ((wanted_if rfl rfl rfl gk).trans rfl) (by go_simp) hC rfl
      | 6, ht =>
        cases ht
        have gk : a.tmps.getD 34 undef = .bool false := hd 2 34 rfl (by kernel_rfl)
        have h37 : a.tmps[37]?.getD undef = .bool false := (slot_eq a 37).symm.trans (hd 5 37 rfl (by kernel_rfl))
        exact step_value (v := .bool false) rfl rfl ((wanted_if rfl rfl rfl gk).trans rfl) (by go_simp) hC rfl
      | 7, ht =>
        cases ht
        have gk : a.tmps.getD 38 undef = .bool false := hd 6 38 rfl (by kernel_rfl)
        exact step_skip rfl rfl ((wanted_if rfl rfl rfl gk).trans rfl) hC rfl
      | 8, ht =>
        cases ht
        have gk : a.tmps.getD 38 undef = .bool false := hd 6 38 rfl (by kernel_rfl)
        exact step_skip rfl rfl ((wanted_if rfl rfl rfl gk).trans rfl) hC rfl
      | 9, ht =>
        cases ht
        have gk : a.tmps.getD 38 undef = .bool false := hd 6 38 rfl (by kernel_rfl)
        exact step_skip rfl rfl ((wanted_if rfl rfl rfl gk).trans rfl) hC rfl
      | 10, ht =>
        cases ht
        have gk : a.tmps.getD 34 undef = .bool false := hd 2 34 rfl (by kernel_rfl)
        have h38 : a.tmps[38]?.getD undef = .bool false := (slot_eq a 38).symm.trans (hd 6 38 rfl (by kernel_rfl))
        have h41 : a.tmps[41]?.getD undef = undef := (slot_eq a 41).symm.trans (hd 9 41 rfl (by kernel_rfl))
        exact step_value (v := .bool false) rfl rfl ((wanted_if rfl rfl rfl gk).trans rfl) (by go_simp) hC rfl
      | 11, ht =>
        cases ht
        have gk : a.tmps.getD 34 undef = .bool false := hd 2 34 rfl (by kernel_rfl)
        have h8 : a.tmps[8]?.getD undef = .slice u.A u.n u.c := (hF.at_ 8 (by decide)).trans rfl
        exact step_value (v := .slice u.A u.n u.c) rfl rfl ((wanted_if rfl rfl rfl gk).trans rfl) (by go_simp) hC rfl
      | 12, ht =>
        cases ht
        have gk : a.tmps.getD 34 undef = .bool false := hd 2 34 rfl (by kernel_rfl)
        have h42 : a.tmps[42]?.getD undef = .bool false := (slot_eq a 42).symm.trans (hd 10 42 rfl (by kernel_rfl))
        have h43 : a.tmps[43]?.getD undef = .slice u.A u.n u.c := (slot_eq a 43).symm.trans (hd 11 43 rfl (by kernel_rfl))
        exact step_value (v := .agg #[.bool false, .slice u.A u.n u.c]) rfl rfl ((wanted_if rfl rfl rfl gk).trans rfl) (by go_simp) hC rfl
      | 13, ht =>
        cases ht
        have gk : a.tmps.getD 34 undef = .bool false := hd 2 34 rfl (by kernel_rfl)
        have h35 : a.tmps[35]?.getD undef = .agg #[.bool false, .slice r.A r.n r.c] := (slot_eq a 35).symm.trans (hd 3 35 rfl (by kernel_rfl))
        have h44 : a.tmps[44]?.getD undef = .agg #[.bool false, .slice u.A u.n u.c] := (slot_eq a 44).symm.trans (hd 12 44 rfl (by kernel_rfl))
        have hm := same6_E (w := V) (W := V) (e := [r, u]) false (x := r) (y := u) (Env.start (by simp only [List.mem_cons, List.not_mem_nil, or_false, forall_eq_or_imp, forall_eq]; exact ⟨(HE5.out.2 r (by simp)).later hC, (HE5.out.2 u (by simp)).later hC⟩)) (by simp) (by simp) HSM.out
        refine step_call rfl rfl ((wanted_if rfl rfl rfl gk).trans rfl) (call2_run ⟨_, rfl⟩ h35 h44 (enters_of Tryz.func15 (by kernel_rfl) rfl)) (hm.mono ?_)
        rintro e2 V2 ⟨rfl, hE⟩
        exact ⟨_, rfl, rfl, hE.1, hC.trans (hE.1.mono hC.size)⟩
      | 14, ht =>
        cases ht
        have gk : a.tmps.getD 34 undef = .bool false := hd 2 34 rfl (by kernel_rfl)
        have h45 : a.tmps[45]?.getD undef = .bool true := (slot_eq a 45).symm.trans (hd 13 45 rfl (by kernel_rfl))
        exact step_value (v := .bool false) rfl rfl ((wanted_if rfl rfl rfl gk).trans rfl) (by go_simp) hC rfl
      | 15, ht =>
        cases ht
        have h34 : a.tmps[34]?.getD undef = .bool false := (slot_eq a 34).symm.trans (hd 2 34 rfl (by kernel_rfl))
        have h46 : a.tmps[46]?.getD undef = .bool false := (slot_eq a 46).symm.trans (hd 14 46 rfl (by kernel_rfl))
        exact step_value (v := .bool false) rfl rfl (wanted_free rfl) (by go_simp) hC rfl
      | 16, ht =>
        cases ht
        have h47 : a.tmps[47]?.getD undef = .bool false := (slot_eq a 47).symm.trans (hd 15 47 rfl (by kernel_rfl))
        exact step_value (v := .bool false) rfl rfl (wanted_free rfl) (by go_simp) hC rfl
      | 17, ht =>
        cases ht
        have gk : a.tmps.getD 48 undef = .bool false := hd 16 48 rfl (by kernel_rfl)
        have h2 : a.tmps[2]?.getD undef = .pointer (some ⟨w.heap.size, 0, none⟩) := (hF.at_ 2 (by decide)).trans rfl
        exact step_value (v := .pointer (some ⟨w.heap.size, 1, none⟩)) rfl rfl ((wanted_if rfl rfl rfl gk).trans rfl) (by go_simp) hC rfl
      | 18, ht =>
        cases ht
        have gk : a.tmps.getD 48 undef = .bool false := hd 16 48 rfl (by kernel_rfl)
        have h49 : a.tmps[49]?.getD undef = .pointer (some ⟨w.heap.size, 1, none⟩) := (slot_eq a 49).symm.trans (hd 17 49 rfl (by kernel_rfl))
        obtain ⟨c00, c01, -, -⟩ := (BX5.out.below hC BX5.out.lt).cells
        obtain ⟨c10, c11, -, -⟩ := (BY5.out.below hC BY5.out.lt).cells
        exact step_value (v := .slice x.A x.n x.c) rfl rfl ((wanted_if rfl rfl rfl gk).trans rfl) (by go_simp) hC rfl
      | 19, ht =>
        cases ht
        have gk : a.tmps.getD 48 undef = .bool false := hd 16 48 rfl (by kernel_rfl)
        have h50 : a.tmps[50]?.getD undef = .slice x.A x.n x.c := (slot_eq a 50).symm.trans (hd 18 50 rfl (by kernel_rfl))
        have hm := S.text V V [x] x (HB5.out.trans (hC.mono HB5.out.size)) (Env.start (by simp only [List.mem_singleton, forall_eq]; exact (HE5.out.2 x (by simp)).later hC)) (by simp) (by have := HRL.out; omega)
        refine step_call rfl rfl ((wanted_if rfl rfl rfl gk).trans rfl) (call1_run ⟨_, rfl⟩ h50 (enters_of Tryz.func16 (by kernel_rfl) rfl)) (hm.mono ?_)
        rintro e2 V2 ⟨rfl, hE⟩
        exact ⟨_, rfl, rfl, hE.1, hC.trans (hE.1.mono hC.size)⟩
      | 20, ht =>
        cases ht
        have gk : a.tmps.getD 48 undef = .bool false := hd 16 48 rfl (by kernel_rfl)
        have h6 : a.tmps[6]?.getD undef = .pointer (some ⟨W3.heap.size, 0, none⟩) := (hF.at_ 6 (by decide)).trans rfl
        exact step_value (v := .pointer (some ⟨W3.heap.size, 1, none⟩)) rfl rfl ((wanted_if rfl rfl rfl gk).trans rfl) (by go_simp) hC rfl
      | 21, ht =>
        cases ht
        have gk : a.tmps.getD 48 undef = .bool false := hd 16 48 rfl (by kernel_rfl)
        have h52 : a.tmps[52]?.getD undef = .pointer (some ⟨W3.heap.size, 1, none⟩) := (slot_eq a 52).symm.trans (hd 20 52 rfl (by kernel_rfl))
        obtain ⟨c00, c01, -, -⟩ := (BX5.out.below hC BX5.out.lt).cells
        obtain ⟨c10, c11, -, -⟩ := (BY5.out.below hC BY5.out.lt).cells
        exact step_value (v := .slice r.A r.n r.c) rfl rfl ((wanted_if rfl rfl rfl gk).trans rfl) (by go_simp) hC rfl
      | 22, ht =>
        cases ht
        have gk : a.tmps.getD 48 undef = .bool false := hd 16 48 rfl (by kernel_rfl)
        have h53 : a.tmps[53]?.getD undef = .slice r.A r.n r.c := (slot_eq a 53).symm.trans (hd 21 53 rfl (by kernel_rfl))
        have hm := S.text V V [r] r (HB5.out.trans (hC.mono HB5.out.size)) (Env.start (by simp only [List.mem_singleton, forall_eq]; exact (HE5.out.2 r (by simp)).later hC)) (by simp) (by have := HRL.out; omega)
        rw [RN.out] at hm
        refine step_call rfl rfl ((wanted_if rfl rfl rfl gk).trans rfl) (call1_run ⟨_, rfl⟩ h53 (enters_of Tryz.func16 (by kernel_rfl) rfl)) (hm.mono ?_)
        rintro e2 V2 ⟨rfl, hE⟩
        exact ⟨_, rfl, rfl, hE.1, hC.trans (hE.1.mono hC.size)⟩
      | 23, ht =>
        cases ht
        have gk : a.tmps.getD 48 undef = .bool false := hd 16 48 rfl (by kernel_rfl)
        have h51 : a.tmps[51]?.getD undef = .string ⟨(dec x.N).toArray⟩ := (slot_eq a 51).symm.trans (hd 19 51 rfl (by kernel_rfl))
        have h54 : a.tmps[54]?.getD undef = .string ⟨(dec x.N).toArray⟩ := (slot_eq a 54).symm.trans (hd 22 54 rfl (by kernel_rfl))
        exact step_value (v := .bool false) rfl rfl ((wanted_if rfl rfl rfl gk).trans rfl) (by go_simp) hC rfl
      | 24, ht =>
        cases ht
        have h48 : a.tmps[48]?.getD undef = .bool false := (slot_eq a 48).symm.trans (hd 16 48 rfl (by kernel_rfl))
        have h55 : a.tmps[55]?.getD undef = .bool false := (slot_eq a 55).symm.trans (hd 23 55 rfl (by kernel_rfl))
        exact step_value (v := .bool false) rfl rfl (wanted_free rfl) (by go_simp) hC rfl
      | k + 25, ht => simp at ht
    · intro a2 V2 hC hF hf
      have hlit := act_eq (a := a2) (.agg #[.bool false, .slice x.A x.n x.c] :: .string ⟨l.toArray⟩ :: .pointer (some ⟨w.heap.size, 0, none⟩) :: undef :: .bool false :: .string ⟨(itext false x.N).toArray⟩ :: .pointer (some ⟨W3.heap.size, 0, none⟩) :: .int .i64 0 :: .slice u.A u.n u.c :: undef :: undef :: undef :: .pointer (some ⟨w.heap.size, 1, none⟩) :: .slice x.A x.n x.c :: .int .i64 (x.n : Nat) :: .bool (decide (6 < (x.n : Int))) :: .bool (decide (6 < (x.n : Int))) :: .string ⟨l.toArray⟩ :: .int .i64 (l.length : Nat) :: .bool (decide (200 < (l.length : Int))) :: .bool (decide (6 < (x.n : Int)) || decide (200 < (l.length : Int))) :: undef :: .agg #[.bool false, .slice x.A x.n x.c] :: .string ⟨(itext false x.N).toArray⟩ :: .tuple #[.agg #[.bool false, .slice r.A r.n r.c], .int .i64 0] :: .string ⟨(itext false x.N).toArray⟩ :: .tuple #[.agg #[.bool false, .slice r.A r.n r.c], .int .i64 0] :: .agg #[.bool false, .slice r.A r.n r.c] :: .int .i64 0 :: .pointer (some ⟨w.heap.size, 1, none⟩) :: .slice x.A x.n x.c :: .slice u.A u.n u.c :: .int .i64 0 :: .bool false :: .bool false :: .agg #[.bool false, .slice r.A r.n r.c] :: .pointer (some ⟨w.heap.size, 0, none⟩) :: .bool false :: .bool false :: undef :: undef :: undef :: .bool false :: .slice u.A u.n u.c :: .agg #[.bool false, .slice u.A u.n u.c] :: .bool true :: .bool false :: .bool false :: .bool false :: .pointer (some ⟨w.heap.size, 1, none⟩) :: .slice x.A x.n x.c :: .string ⟨(dec x.N).toArray⟩ :: .pointer (some ⟨W3.heap.size, 1, none⟩) :: .slice r.A r.n r.c :: .string ⟨(dec x.N).toArray⟩ :: .bool false :: .bool false :: undef :: undef :: undef :: undef :: undef :: undef :: undef :: undef :: undef :: undef :: undef :: undef :: undef :: undef :: undef :: undef :: undef :: undef :: undef :: undef :: undef :: undef :: undef :: undef :: undef :: undef :: undef :: undef :: undef :: undef :: undef :: undef :: undef :: undef :: undef :: undef :: undef :: undef :: undef :: undef :: undef :: undef :: undef :: undef :: undef :: undef :: undef :: undef :: undef :: undef :: undef :: undef :: []) (by simpa using hF.size) hF.defers (fun i hi => match i, hi with
        | 0, _ => (hF.same 0 (by decide)).trans rfl
        | 1, _ => (hF.same 1 (by decide)).trans rfl
        | 2, _ => (hF.same 2 (by decide)).trans rfl
        | 3, _ => (hF.same 3 (by decide)).trans rfl
        | 4, _ => (hF.same 4 (by decide)).trans rfl
        | 5, _ => (hF.same 5 (by decide)).trans rfl
        | 6, _ => (hF.same 6 (by decide)).trans rfl
        | 7, _ => (hF.same 7 (by decide)).trans rfl
        | 8, _ => (hF.same 8 (by decide)).trans rfl
        | 9, _ => (hF.same 9 (by decide)).trans rfl
        | 10, _ => (hF.same 10 (by decide)).trans rfl
        | 11, _ => (hF.same 11 (by decide)).trans rfl
        | 12, _ => (hF.same 12 (by decide)).trans rfl
        | 13, _ => (hF.same 13 (by decide)).trans rfl
        | 14, _ => (hF.same 14 (by decide)).trans rfl
        | 15, _ => (hF.same 15 (by decide)).trans rfl
        | 16, _ => (hF.same 16 (by decide)).trans rfl
        | 17, _ => (hF.same 17 (by decide)).trans rfl
        | 18, _ => (hF.same 18 (by decide)).trans rfl
        | 19, _ => (hF.same 19 (by decide)).trans rfl
        | 20, _ => (hF.same 20 (by decide)).trans rfl
        | 21, _ => (hF.same 21 (by decide)).trans rfl
        | 22, _ => (hF.same 22 (by decide)).trans rfl
        | 23, _ => (hF.same 23 (by decide)).trans rfl
        | 24, _ => (hF.same 24 (by decide)).trans rfl
        | 25, _ => (hF.same 25 (by decide)).trans rfl
        | 26, _ => (hF.same 26 (by decide)).trans rfl
        | 27, _ => (hF.same 27 (by decide)).trans rfl
        | 28, _ => (hF.same 28 (by decide)).trans rfl
        | 29, _ => (hF.same 29 (by decide)).trans rfl
        | 30, _ => (hF.same 30 (by decide)).trans rfl
        | 31, _ => (hF.same 31 (by decide)).trans rfl
        | 32, _ => (hf 0 32 rfl : a2.tmps.getD 32 undef = _)
        | 33, _ => (hf 1 33 rfl : a2.tmps.getD 33 undef = _)
        | 34, _ => (hf 2 34 rfl : a2.tmps.getD 34 undef = _)
        | 35, _ => (hf 3 35 rfl : a2.tmps.getD 35 undef = _)
        | 36, _ => (hf 4 36 rfl : a2.tmps.getD 36 undef = _)
        | 37, _ => (hf 5 37 rfl : a2.tmps.getD 37 undef = _)
        | 38, _ => (hf 6 38 rfl : a2.tmps.getD 38 undef = _)
        | 39, _ => (hf 7 39 rfl : a2.tmps.getD 39 undef = _)
        | 40, _ => (hf 8 40 rfl : a2.tmps.getD 40 undef = _)
        | 41, _ => (hf 9 41 rfl : a2.tmps.getD 41 undef = _)
        | 42, _ => (hf 10 42 rfl : a2.tmps.getD 42 undef = _)
        | 43, _ => (hf 11 43 rfl : a2.tmps.getD 43 undef = _)
        | 44, _ => (hf 12 44 rfl : a2.tmps.getD 44 undef = _)
        | 45, _ => (hf 13 45 rfl : a2.tmps.getD 45 undef = _)
        | 46, _ => (hf 14 46 rfl : a2.tmps.getD 46 undef = _)
        | 47, _ => (hf 15 47 rfl : a2.tmps.getD 47 undef = _)
        | 48, _ => (hf 16 48 rfl : a2.tmps.getD 48 undef = _)
        | 49, _ => (hf 17 49 rfl : a2.tmps.getD 49 undef = _)
        | 50, _ => (hf 18 50 rfl : a2.tmps.getD 50 undef = _)
        | 51, _ => (hf 19 51 rfl : a2.tmps.getD 51 undef = _)
        | 52, _ => (hf 20 52 rfl : a2.tmps.getD 52 undef = _)
        | 53, _ => (hf 21 53 rfl : a2.tmps.getD 53 undef = _)
        | 54, _ => (hf 22 54 rfl : a2.tmps.getD 54 undef = _)
        | 55, _ => (hf 23 55 rfl : a2.tmps.getD 55 undef = _)
        | 56, _ => (hf 24 56 rfl : a2.tmps.getD 56 undef = _)
        | 57, _ => (hF.same 57 (by decide)).trans rfl
        | 58, _ => (hF.same 58 (by decide)).trans rfl
        | 59, _ => (hF.same 59 (by decide)).trans rfl
        | 60, _ => (hF.same 60 (by decide)).trans rfl
        | 61, _ => (hF.same 61 (by decide)).trans rfl
        | 62, _ => (hF.same 62 (by decide)).trans rfl
        | 63, _ => (hF.same 63 (by decide)).trans rfl
        | 64, _ => (hF.same 64 (by decide)).trans rfl
        | 65, _ => (hF.same 65 (by decide)).trans rfl
        | 66, _ => (hF.same 66 (by decide)).trans rfl
        | 67, _ => (hF.same 67 (by decide)).trans rfl
        | 68, _ => (hF.same 68 (by decide)).trans rfl
        | 69, _ => (hF.same 69 (by decide)).trans rfl
        | 70, _ => (hF.same 70 (by decide)).trans rfl
        | 71, _ => (hF.same 71 (by decide)).trans rfl
        | 72, _ => (hF.same 72 (by decide)).trans rfl
        | 73, _ => (hF.same 73 (by decide)).trans rfl
        | 74, _ => (hF.same 74 (by decide)).trans rfl
        | 75, _ => (hF.same 75 (by decide)).trans rfl
        | 76, _ => (hF.same 76 (by decide)).trans rfl
        | 77, _ => (hF.same 77 (by decide)).trans rfl
        | 78, _ => (hF.same 78 (by decide)).trans rfl
        | 79, _ => (hF.same 79 (by decide)).trans rfl
        | 80, _ => (hF.same 80 (by decide)).trans rfl
        | 81, _ => (hF.same 81 (by decide)).trans rfl
        | 82, _ => (hF.same 82 (by decide)).trans rfl
        | 83, _ => (hF.same 83 (by decide)).trans rfl
        | 84, _ => (hF.same 84 (by decide)).trans rfl
        | 85, _ => (hF.same 85 (by decide)).trans rfl
        | 86, _ => (hF.same 86 (by decide)).trans rfl
        | 87, _ => (hF.same 87 (by decide)).trans rfl
        | 88, _ => (hF.same 88 (by decide)).trans rfl
        | 89, _ => (hF.same 89 (by decide)).trans rfl
        | 90, _ => (hF.same 90 (by decide)).trans rfl
        | 91, _ => (hF.same 91 (by decide)).trans rfl
        | 92, _ => (hF.same 92 (by decide)).trans rfl
        | 93, _ => (hF.same 93 (by decide)).trans rfl
        | 94, _ => (hF.same 94 (by decide)).trans rfl
        | 95, _ => (hF.same 95 (by decide)).trans rfl
        | 96, _ => (hF.same 96 (by decide)).trans rfl
        | 97, _ => (hF.same 97 (by decide)).trans rfl
        | 98, _ => (hF.same 98 (by decide)).trans rfl
        | 99, _ => (hF.same 99 (by decide)).trans rfl
        | 100, _ => (hF.same 100 (by decide)).trans rfl
        | 101, _ => (hF.same 101 (by decide)).trans rfl
        | 102, _ => (hF.same 102 (by decide)).trans rfl
        | 103, _ => (hF.same 103 (by decide)).trans rfl
        | 104, _ => (hF.same 104 (by decide)).trans rfl
        | 105, _ => (hF.same 105 (by decide)).trans rfl
        | 106, _ => (hF.same 106 (by decide)).trans rfl
        | 107, _ => (hF.same 107 (by decide)).trans rfl
        | 108, _ => (hF.same 108 (by decide)).trans rfl
        | _ + 109, h => absurd h (by simp only [List.length_cons, List.length_nil]; omega))
      subst hlit
      have hb6 := HB5.out.trans (hC.mono HB5.out.size)
      clear hf hF
      show wpList _ _ _ [] _ V2
      go_wp2_with fail
      have hE6 : Env V2 [] V2 := Env.start (by simp)
      by_cases hr : Reads l
      · refine (parse_ok S hb6 hE6 l hr).mono ?_
        rintro e V3 ⟨q, rfl, qN, qn, hE7⟩
        have QN := Lib.hid qN
        have QL := Lib.hid qn
        have hb7 := hb6.trans (hE7.1.mono hb6.size)
        have HR := Lib.hid hr
        have HQL : Hid (q.n ≤ 60) := Lib.hid (by rw [qn]; exact lenL_le.2 (Nat.lt_of_lt_of_le (Nat.lt_of_lt_of_le (val_lt hr.2.2) (Nat.pow_le_pow_right (by omega) hr.2.1)) (Nat.pow_le_pow_left (by rw [Bw_eq]; omega) 60)))
        have hl1 : 1 ≤ l.length := hr.1
        have hl60 : l.length ≤ 60 := hr.2.1
        clear qN qn hr hE6
        go_wp2_with fail
        go_loopw [11] (fun av V => ∃ k : Nat, av = .int .i64 k ∧ k < l.length ∧ Hid (val (l.drop k) = val l) ∧ V = V3) (fun av _ => l.length - (intOf av).toNat)
        case atStart => exact ⟨0, rfl, by omega, Lib.hid rfl, rfl⟩
        case round =>
          obtain ⟨k, rfl, hk, hv, rfl⟩ := hrel
          have hkb : k < (⟨l.toArray⟩ : ByteArray).size := by rw [str_size]; exact hk
          have hge : (⟨l.toArray⟩ : ByteArray)[k] = l[k] := rfl
          by_cases hlast : k + 1 < l.length
          · have hlt : decide ((k : Int) < (l.length : Int) - 1) = true := by rw [decide_eq_true_eq]; omega
            by_cases hc : l[k] = 48
            · have hb : ((((⟨l.toArray⟩ : ByteArray)[k]).toNat : Int) == 48) = true := by rw [hge, hc]; rfl
              have HN : Hid (val (l.drop (k + 1)) = val l) := Lib.hid (by
                rw [← hv.out, List.drop_eq_getElem_cons hk, hc, val_nought])
              clear hge hc
              go_wp2
              exact ⟨⟨k + 1, congrArg _ (by omega), hlast, HN, trivial⟩, by simp [intOf]; omega⟩
            · have hb : ((((⟨l.toArray⟩ : ByteArray)[k]).toNat : Int) == 48) = false := by
                rw [hge, beq_eq_false_iff_ne]; intro e; exact hc (UInt8.toNat_inj.mp (by rw [show (48 : UInt8).toNat = 48 from rfl]; omega))
              have HFIN : Hid (dec (val l) = l.drop k) := Lib.hid (dec_drop HR.out.2.2 hk hv.out (.inr hc))
              clear hge hc
              go_wp2_with fail
              refine wp_region_facts 27 [83, 84, 85, 86, 87, 88, 89, 90, 91, 92, 93, 94, 95, 96, 97, 98, 99, 100, 101, 102, 103, 104, 105, 106, 107, 108, 4] (fun i v V => match i with
                  | 0 => v = .slice q.A q.n q.c
                  | 1 => v = .string ⟨(l.drop k).toArray⟩
                  | 2 => v = .string ⟨l.toArray⟩
                  | 3 => v = .int .i64 (k : Nat)
                  | 4 => v = .string ⟨l.toArray⟩
                  | 5 => v = .int .i64 (l.length : Nat)
                  | 6 => v = .int .i64 (k : Nat)
                  | 7 => v = .string ⟨(l.drop k).toArray⟩
                  | 8 => v = .bool true
                  | 9 => v = .bool true
                  | 10 => v = .string ⟨l.toArray⟩
                  | 11 => v = .int .i64 (l.length : Nat)
                  | 12 => v = .bool true
                  | 13 => v = .bool true
                  | 14 => v = .bool true
                  | 15 => v = .slice q.A q.n q.c
                  | 16 => v = .int .i64 ((l.length : Int) - (k : Int))
                  | 17 => v = .string ⟨l.toArray⟩
                  | 18 => v = .int .i64 (l.length : Nat)
                  | 19 => v = .int .i64 (k : Nat)
                  | 20 => v = .int .i64 ((l.length : Int) - (k : Int))
                  | 21 => v = .bool true
                  | 22 => v = .bool true
                  | 23 => v = .bool true
                  | 24 => v = .bool true
                  | 25 => v = .bool true
                  | _ => v = .bool true) (fun V => Below wr.heap.size wr V) (by kernel_rfl) (by kernel_rfl) rfl (by decide) (by first | (simp; done) | (simp; done)) (Below.refl _ _).drew ?_ ?_ ?_
              · intro i v V V2 hf hb _
                match i, hf with
                | 0, hf => exact hf
                | 1, hf => exact hf
                | 2, hf => exact hf
                | 3, hf => exact hf
                | 4, hf => exact hf
                | 5, hf => exact hf
                | 6, hf => exact hf
                | 7, hf => exact hf
                | 8, hf => exact hf
                | 9, hf => exact hf
                | 10, hf => exact hf
                | 11, hf => exact hf
                | 12, hf => exact hf
                | 13, hf => exact hf
                | 14, hf => exact hf
                | 15, hf => exact hf
                | 16, hf => exact hf
                | 17, hf => exact hf
                | 18, hf => exact hf
                | 19, hf => exact hf
                | 20, hf => exact hf
                | 21, hf => exact hf
                | 22, hf => exact hf
                | 23, hf => exact hf
                | 24, hf => exact hf
                | 25, hf => exact hf
                | _ + 26, hf => exact hf
              · intro i t ht a V hC hF hd
                match i, ht with
                | 0, ht =>
                  cases ht
                  have h9 : a.tmps[9]?.getD undef = .slice q.A q.n q.c := (hF.at_ 9 (by decide)).trans rfl
                  exact step_value (v := .slice q.A q.n q.c) rfl rfl (wanted_free rfl) (by go_simp) hC rfl
                | 1, ht =>
                  cases ht
                  have h83 : a.tmps[83]?.getD undef = .slice q.A q.n q.c := (slot_eq a 83).symm.trans (hd 0 83 rfl (by kernel_rfl))
                  have hm := S.text V V [q] q (hb7.trans (hC.mono hb7.size)) (Env.start (by simp only [List.mem_singleton, forall_eq]; exact (hE7.2 q (by simp)).later hC)) (by simp) (by have := HQL.out; omega)
                  rw [QN.out, HFIN.out] at hm
                  refine step_call rfl rfl (wanted_free rfl) (call1_run ⟨_, rfl⟩ h83 (enters_of Tryz.func16 (by kernel_rfl) rfl)) (hm.mono ?_)
                  rintro e2 V2 ⟨rfl, hE⟩
                  exact ⟨_, rfl, rfl, hE.1, hC.trans (hE.1.mono hC.size)⟩
                | 2, ht =>
                  cases ht
                  have h1 : a.tmps[1]?.getD undef = .string ⟨l.toArray⟩ := (hF.at_ 1 (by decide)).trans rfl
                  exact step_value (v := .string ⟨l.toArray⟩) rfl rfl (wanted_free rfl) (by go_simp) hC rfl
                | 3, ht =>
                  cases ht
                  have h11 : a.tmps[11]?.getD undef = .int .i64 (k : Nat) := (hF.at_ 11 (by decide)).trans rfl
                  exact step_value (v := .int .i64 (k : Nat)) rfl rfl (wanted_free rfl) (by go_simp) hC rfl
                | 4, ht =>
                  cases ht
                  have h1 : a.tmps[1]?.getD undef = .string ⟨l.toArray⟩ := (hF.at_ 1 (by decide)).trans rfl
                  exact step_value (v := .string ⟨l.toArray⟩) rfl rfl (wanted_free rfl) (by go_simp) hC rfl
                | 5, ht =>
                  cases ht
                  have h87 : a.tmps[87]?.getD undef = .string ⟨l.toArray⟩ := (slot_eq a 87).symm.trans (hd 4 87 rfl (by kernel_rfl))
                  exact step_value (v := .int .i64 (l.length : Nat)) rfl rfl (wanted_free rfl) (by go_simp) hC rfl
                | 6, ht =>
                  cases ht
                  have h86 : a.tmps[86]?.getD undef = .int .i64 (k : Nat) := (slot_eq a 86).symm.trans (hd 3 86 rfl (by kernel_rfl))
                  have h88 : a.tmps[88]?.getD undef = .int .i64 (l.length : Nat) := (slot_eq a 88).symm.trans (hd 5 88 rfl (by kernel_rfl))
                  have hmin : min (k : Int) (l.length : Int) = (k : Int) := by omega
                  exact step_value (v := .int .i64 (k : Nat)) rfl rfl (wanted_free rfl) (by go_simp; try (intro h; omega)) hC rfl
                | 7, ht =>
                  cases ht
                  have h85 : a.tmps[85]?.getD undef = .string ⟨l.toArray⟩ := (slot_eq a 85).symm.trans (hd 2 85 rfl (by kernel_rfl))
                  have h89 : a.tmps[89]?.getD undef = .int .i64 (k : Nat) := (slot_eq a 89).symm.trans (hd 6 89 rfl (by kernel_rfl))
                  have hcut := cut_at l k (Nat.le_of_lt hk)
                  exact step_value (v := .string ⟨(l.drop k).toArray⟩) rfl rfl (wanted_free rfl) (by go_simp; try (intro h; omega)) hC rfl
                | 8, ht =>
                  cases ht
                  have h84 : a.tmps[84]?.getD undef = .string ⟨(l.drop k).toArray⟩ := (slot_eq a 84).symm.trans (hd 1 84 rfl (by kernel_rfl))
                  have h90 : a.tmps[90]?.getD undef = .string ⟨(l.drop k).toArray⟩ := (slot_eq a 90).symm.trans (hd 7 90 rfl (by kernel_rfl))
                  exact step_value (v := .bool true) rfl rfl (wanted_free rfl) (by go_simp) hC rfl
                | 9, ht =>
                  cases ht
                  have h91 : a.tmps[91]?.getD undef = .bool true := (slot_eq a 91).symm.trans (hd 8 91 rfl (by kernel_rfl))
                  exact step_value (v := .bool true) rfl rfl (wanted_free rfl) (by go_simp) hC rfl
                | 10, ht =>
                  cases ht
                  have gk : a.tmps.getD 92 undef = .bool true := hd 9 92 rfl (by kernel_rfl)
                  have h1 : a.tmps[1]?.getD undef = .string ⟨l.toArray⟩ := (hF.at_ 1 (by decide)).trans rfl
                  exact step_value (v := .string ⟨l.toArray⟩) rfl rfl ((wanted_if rfl rfl rfl gk).trans rfl) (by go_simp) hC rfl
                | 11, ht =>
                  cases ht
                  have gk : a.tmps.getD 92 undef = .bool true := hd 9 92 rfl (by kernel_rfl)
                  have h93 : a.tmps[93]?.getD undef = .string ⟨l.toArray⟩ := (slot_eq a 93).symm.trans (hd 10 93 rfl (by kernel_rfl))
                  exact step_value (v := .int .i64 (l.length : Nat)) rfl rfl ((wanted_if rfl rfl rfl gk).trans rfl) (by go_simp) hC rfl
                | 12, ht =>
                  cases ht
                  have gk : a.tmps.getD 92 undef = .bool true := hd 9 92 rfl (by kernel_rfl)
                  have h94 : a.tmps[94]?.getD undef = .int .i64 (l.length : Nat) := (slot_eq a 94).symm.trans (hd 11 94 rfl (by kernel_rfl))
                  exact step_value (v := .bool true) rfl rfl ((wanted_if rfl rfl rfl gk).trans rfl) (by go_simp; try omega) hC rfl
                | 13, ht =>
                  cases ht
                  have h92 : a.tmps[92]?.getD undef = .bool true := (slot_eq a 92).symm.trans (hd 9 92 rfl (by kernel_rfl))
                  have h95 : a.tmps[95]?.getD undef = .bool true := (slot_eq a 95).symm.trans (hd 12 95 rfl (by kernel_rfl))
                  exact step_value (v := .bool true) rfl rfl (wanted_free rfl) (by go_simp) hC rfl
                | 14, ht =>
                  cases ht
                  have h96 : a.tmps[96]?.getD undef = .bool true := (slot_eq a 96).symm.trans (hd 13 96 rfl (by kernel_rfl))
                  exact step_value (v := .bool true) rfl rfl (wanted_free rfl) (by go_simp) hC rfl
                | 15, ht =>
                  cases ht
                  have gk : a.tmps.getD 97 undef = .bool true := hd 14 97 rfl (by kernel_rfl)
                  have h9 : a.tmps[9]?.getD undef = .slice q.A q.n q.c := (hF.at_ 9 (by decide)).trans rfl
                  exact step_value (v := .slice q.A q.n q.c) rfl rfl ((wanted_if rfl rfl rfl gk).trans rfl) (by go_simp) hC rfl
                | 16, ht =>
                  cases ht
                  have gk : a.tmps.getD 97 undef = .bool true := hd 14 97 rfl (by kernel_rfl)
                  have h98 : a.tmps[98]?.getD undef = .slice q.A q.n q.c := (slot_eq a 98).symm.trans (hd 15 98 rfl (by kernel_rfl))
                  have hm := S.count V V [q] q (hb7.trans (hC.mono hb7.size)) (Env.start (by simp only [List.mem_singleton, forall_eq]; exact (hE7.2 q (by simp)).later hC)) (by simp) (by have := HQL.out; omega)
                  rw [QN.out, HFIN.out, List.length_drop, show (((l.length - k : Nat)) : Int) = (l.length : Int) - (k : Int) by omega] at hm
                  refine step_call rfl rfl ((wanted_if rfl rfl rfl gk).trans rfl) (call1_run ⟨_, rfl⟩ h98 (enters_of Tryz.func20 (by kernel_rfl) rfl)) (hm.mono ?_)
                  rintro e2 V2 ⟨rfl, hE⟩
                  exact ⟨_, rfl, rfl, hE.1, hC.trans (hE.1.mono hC.size)⟩
                | 17, ht =>
                  cases ht
                  have gk : a.tmps.getD 97 undef = .bool true := hd 14 97 rfl (by kernel_rfl)
                  have h1 : a.tmps[1]?.getD undef = .string ⟨l.toArray⟩ := (hF.at_ 1 (by decide)).trans rfl
                  exact step_value (v := .string ⟨l.toArray⟩) rfl rfl ((wanted_if rfl rfl rfl gk).trans rfl) (by go_simp) hC rfl
                | 18, ht =>
                  cases ht
                  have gk : a.tmps.getD 97 undef = .bool true := hd 14 97 rfl (by kernel_rfl)
                  have h100 : a.tmps[100]?.getD undef = .string ⟨l.toArray⟩ := (slot_eq a 100).symm.trans (hd 17 100 rfl (by kernel_rfl))
                  exact step_value (v := .int .i64 (l.length : Nat)) rfl rfl ((wanted_if rfl rfl rfl gk).trans rfl) (by go_simp) hC rfl
                | 19, ht =>
                  cases ht
                  have gk : a.tmps.getD 97 undef = .bool true := hd 14 97 rfl (by kernel_rfl)
                  have h11 : a.tmps[11]?.getD undef = .int .i64 (k : Nat) := (hF.at_ 11 (by decide)).trans rfl
                  exact step_value (v := .int .i64 (k : Nat)) rfl rfl ((wanted_if rfl rfl rfl gk).trans rfl) (by go_simp) hC rfl
                | 20, ht =>
                  cases ht
                  have gk : a.tmps.getD 97 undef = .bool true := hd 14 97 rfl (by kernel_rfl)
                  have h101 : a.tmps[101]?.getD undef = .int .i64 (l.length : Nat) := (slot_eq a 101).symm.trans (hd 18 101 rfl (by kernel_rfl))
                  have h102 : a.tmps[102]?.getD undef = .int .i64 (k : Nat) := (slot_eq a 102).symm.trans (hd 19 102 rfl (by kernel_rfl))
                  have hwr : IntKind.i64.wrap ((l.length : Int) - (k : Int)) = (l.length : Int) - (k : Int) := by rw [IntKind.wrap_i64]; omega
                  exact step_value (v := .int .i64 ((l.length : Int) - (k : Int))) rfl rfl ((wanted_if rfl rfl rfl gk).trans rfl) (by go_simp) hC rfl
                | 21, ht =>
                  cases ht
                  have gk : a.tmps.getD 97 undef = .bool true := hd 14 97 rfl (by kernel_rfl)
                  have h99 : a.tmps[99]?.getD undef = .int .i64 ((l.length : Int) - (k : Int)) := (slot_eq a 99).symm.trans (hd 16 99 rfl (by kernel_rfl))
                  have h103 : a.tmps[103]?.getD undef = .int .i64 ((l.length : Int) - (k : Int)) := (slot_eq a 103).symm.trans (hd 20 103 rfl (by kernel_rfl))
                  exact step_value (v := .bool true) rfl rfl ((wanted_if rfl rfl rfl gk).trans rfl) (by go_simp) hC rfl
                | 22, ht =>
                  cases ht
                  have h97 : a.tmps[97]?.getD undef = .bool true := (slot_eq a 97).symm.trans (hd 14 97 rfl (by kernel_rfl))
                  have h104 : a.tmps[104]?.getD undef = .bool true := (slot_eq a 104).symm.trans (hd 21 104 rfl (by kernel_rfl))
                  exact step_value (v := .bool true) rfl rfl (wanted_free rfl) (by go_simp) hC rfl
                | 23, ht =>
                  cases ht
                  have h105 : a.tmps[105]?.getD undef = .bool true := (slot_eq a 105).symm.trans (hd 22 105 rfl (by kernel_rfl))
                  exact step_value (v := .bool true) rfl rfl (wanted_free rfl) (by go_simp) hC rfl
                | 24, ht =>
                  cases ht
                  have gk : a.tmps.getD 106 undef = .bool true := hd 23 106 rfl (by kernel_rfl)
                  have hm := wakes6_E (S.later (hb7.trans (hC.mono hb7.size))) (Env.start (w := V) (l := []) (by simp))
                  refine step_call rfl rfl ((wanted_if rfl rfl rfl gk).trans rfl) (call0_run ⟨_, rfl⟩ (enters_of Tryz.func9 (by kernel_rfl) rfl)) (hm.mono ?_)
                  rintro e2 V2 ⟨rfl, hE⟩
                  exact ⟨_, rfl, rfl, hE.1, hC.trans (hE.1.mono hC.size)⟩
                | 25, ht =>
                  cases ht
                  have h106 : a.tmps[106]?.getD undef = .bool true := (slot_eq a 106).symm.trans (hd 23 106 rfl (by kernel_rfl))
                  have h107 : a.tmps[107]?.getD undef = .bool true := (slot_eq a 107).symm.trans (hd 24 107 rfl (by kernel_rfl))
                  exact step_value (v := .bool true) rfl rfl (wanted_free rfl) (by go_simp) hC rfl
                | 26, ht =>
                  cases ht
                  have h108 : a.tmps[108]?.getD undef = .bool true := (slot_eq a 108).symm.trans (hd 25 108 rfl (by kernel_rfl))
                  exact step_value (v := .bool true) rfl rfl (wanted_free rfl) (by go_simp) hC rfl
                | k + 27, ht => simp at ht
              · intro a3 V3 hC hF hf
                have h4 := (hf 26 4 rfl : a3.tmps.getD 4 undef = .bool true)
                have hdf : a3.defers = [] := hF.defers
                have hb8 := hb7.trans (hC.mono hb7.size)
                clear hf hF
                show wpList _ _ _ [] a3 V3
                go_wp2
                exact bodyPost_ret (results_tmp rfl _ _ _) hdf ⟨by rw [h4], hb8⟩
          · have hlt : decide ((k : Int) < (l.length : Int) - 1) = false := by rw [decide_eq_false_iff_not]; omega
            have HFIN : Hid (dec (val l) = l.drop k) := Lib.hid (dec_drop HR.out.2.2 hk hv.out (.inl (by omega)))
            clear hge
            go_wp2_with fail
            refine wp_region_facts 27 [83, 84, 85, 86, 87, 88, 89, 90, 91, 92, 93, 94, 95, 96, 97, 98, 99, 100, 101, 102, 103, 104, 105, 106, 107, 108, 4] (fun i v V => match i with
                | 0 => v = .slice q.A q.n q.c
                | 1 => v = .string ⟨(l.drop k).toArray⟩
                | 2 => v = .string ⟨l.toArray⟩
                | 3 => v = .int .i64 (k : Nat)
                | 4 => v = .string ⟨l.toArray⟩
                | 5 => v = .int .i64 (l.length : Nat)
                | 6 => v = .int .i64 (k : Nat)
                | 7 => v = .string ⟨(l.drop k).toArray⟩
                | 8 => v = .bool true
                | 9 => v = .bool true
                | 10 => v = .string ⟨l.toArray⟩
                | 11 => v = .int .i64 (l.length : Nat)
                | 12 => v = .bool true
                | 13 => v = .bool true
                | 14 => v = .bool true
                | 15 => v = .slice q.A q.n q.c
                | 16 => v = .int .i64 ((l.length : Int) - (k : Int))
                | 17 => v = .string ⟨l.toArray⟩
                | 18 => v = .int .i64 (l.length : Nat)
                | 19 => v = .int .i64 (k : Nat)
                | 20 => v = .int .i64 ((l.length : Int) - (k : Int))
                | 21 => v = .bool true
                | 22 => v = .bool true
                | 23 => v = .bool true
                | 24 => v = .bool true
                | 25 => v = .bool true
                | _ => v = .bool true) (fun V => Below wr.heap.size wr V) (by kernel_rfl) (by kernel_rfl) rfl (by decide) (by first | (simp; done) | (simp; done)) (Below.refl _ _).drew ?_ ?_ ?_
            · intro i v V V2 hf hb _
              match i, hf with
              | 0, hf => exact hf
              | 1, hf => exact hf
              | 2, hf => exact hf
              | 3, hf => exact hf
              | 4, hf => exact hf
              | 5, hf => exact hf
              | 6, hf => exact hf
              | 7, hf => exact hf
              | 8, hf => exact hf
              | 9, hf => exact hf
              | 10, hf => exact hf
              | 11, hf => exact hf
              | 12, hf => exact hf
              | 13, hf => exact hf
              | 14, hf => exact hf
              | 15, hf => exact hf
              | 16, hf => exact hf
              | 17, hf => exact hf
              | 18, hf => exact hf
              | 19, hf => exact hf
              | 20, hf => exact hf
              | 21, hf => exact hf
              | 22, hf => exact hf
              | 23, hf => exact hf
              | 24, hf => exact hf
              | 25, hf => exact hf
              | _ + 26, hf => exact hf
            · intro i t ht a V hC hF hd
              match i, ht with
              | 0, ht =>
                cases ht
                have h9 : a.tmps[9]?.getD undef = .slice q.A q.n q.c := (hF.at_ 9 (by decide)).trans rfl
                exact step_value (v := .slice q.A q.n q.c) rfl rfl (wanted_free rfl) (by go_simp) hC rfl
              | 1, ht =>
                cases ht
                have h83 : a.tmps[83]?.getD undef = .slice q.A q.n q.c := (slot_eq a 83).symm.trans (hd 0 83 rfl (by kernel_rfl))
                have hm := S.text V V [q] q (hb7.trans (hC.mono hb7.size)) (Env.start (by simp only [List.mem_singleton, forall_eq]; exact (hE7.2 q (by simp)).later hC)) (by simp) (by have := HQL.out; omega)
                rw [QN.out, HFIN.out] at hm
                refine step_call rfl rfl (wanted_free rfl) (call1_run ⟨_, rfl⟩ h83 (enters_of Tryz.func16 (by kernel_rfl) rfl)) (hm.mono ?_)
                rintro e2 V2 ⟨rfl, hE⟩
                exact ⟨_, rfl, rfl, hE.1, hC.trans (hE.1.mono hC.size)⟩
              | 2, ht =>
                cases ht
                have h1 : a.tmps[1]?.getD undef = .string ⟨l.toArray⟩ := (hF.at_ 1 (by decide)).trans rfl
                exact step_value (v := .string ⟨l.toArray⟩) rfl rfl (wanted_free rfl) (by go_simp) hC rfl
              | 3, ht =>
                cases ht
                have h11 : a.tmps[11]?.getD undef = .int .i64 (k : Nat) := (hF.at_ 11 (by decide)).trans rfl
                exact step_value (v := .int .i64 (k : Nat)) rfl rfl (wanted_free rfl) (by go_simp) hC rfl
              | 4, ht =>
                cases ht
                have h1 : a.tmps[1]?.getD undef = .string ⟨l.toArray⟩ := (hF.at_ 1 (by decide)).trans rfl
                exact step_value (v := .string ⟨l.toArray⟩) rfl rfl (wanted_free rfl) (by go_simp) hC rfl
              | 5, ht =>
                cases ht
                have h87 : a.tmps[87]?.getD undef = .string ⟨l.toArray⟩ := (slot_eq a 87).symm.trans (hd 4 87 rfl (by kernel_rfl))
                exact step_value (v := .int .i64 (l.length : Nat)) rfl rfl (wanted_free rfl) (by go_simp) hC rfl
              | 6, ht =>
                cases ht
                have h86 : a.tmps[86]?.getD undef = .int .i64 (k : Nat) := (slot_eq a 86).symm.trans (hd 3 86 rfl (by kernel_rfl))
                have h88 : a.tmps[88]?.getD undef = .int .i64 (l.length : Nat) := (slot_eq a 88).symm.trans (hd 5 88 rfl (by kernel_rfl))
                have hmin : min (k : Int) (l.length : Int) = (k : Int) := by omega
                exact step_value (v := .int .i64 (k : Nat)) rfl rfl (wanted_free rfl) (by go_simp; try (intro h; omega)) hC rfl
              | 7, ht =>
                cases ht
                have h85 : a.tmps[85]?.getD undef = .string ⟨l.toArray⟩ := (slot_eq a 85).symm.trans (hd 2 85 rfl (by kernel_rfl))
                have h89 : a.tmps[89]?.getD undef = .int .i64 (k : Nat) := (slot_eq a 89).symm.trans (hd 6 89 rfl (by kernel_rfl))
                have hcut := cut_at l k (Nat.le_of_lt hk)
                exact step_value (v := .string ⟨(l.drop k).toArray⟩) rfl rfl (wanted_free rfl) (by go_simp; try (intro h; omega)) hC rfl
              | 8, ht =>
                cases ht
                have h84 : a.tmps[84]?.getD undef = .string ⟨(l.drop k).toArray⟩ := (slot_eq a 84).symm.trans (hd 1 84 rfl (by kernel_rfl))
                have h90 : a.tmps[90]?.getD undef = .string ⟨(l.drop k).toArray⟩ := (slot_eq a 90).symm.trans (hd 7 90 rfl (by kernel_rfl))
                exact step_value (v := .bool true) rfl rfl (wanted_free rfl) (by go_simp) hC rfl
              | 9, ht =>
                cases ht
                have h91 : a.tmps[91]?.getD undef = .bool true := (slot_eq a 91).symm.trans (hd 8 91 rfl (by kernel_rfl))
                exact step_value (v := .bool true) rfl rfl (wanted_free rfl) (by go_simp) hC rfl
              | 10, ht =>
                cases ht
                have gk : a.tmps.getD 92 undef = .bool true := hd 9 92 rfl (by kernel_rfl)
                have h1 : a.tmps[1]?.getD undef = .string ⟨l.toArray⟩ := (hF.at_ 1 (by decide)).trans rfl
                exact step_value (v := .string ⟨l.toArray⟩) rfl rfl ((wanted_if rfl rfl rfl gk).trans rfl) (by go_simp) hC rfl
              | 11, ht =>
                cases ht
                have gk : a.tmps.getD 92 undef = .bool true := hd 9 92 rfl (by kernel_rfl)
                have h93 : a.tmps[93]?.getD undef = .string ⟨l.toArray⟩ := (slot_eq a 93).symm.trans (hd 10 93 rfl (by kernel_rfl))
                exact step_value (v := .int .i64 (l.length : Nat)) rfl rfl ((wanted_if rfl rfl rfl gk).trans rfl) (by go_simp) hC rfl
              | 12, ht =>
                cases ht
                have gk : a.tmps.getD 92 undef = .bool true := hd 9 92 rfl (by kernel_rfl)
                have h94 : a.tmps[94]?.getD undef = .int .i64 (l.length : Nat) := (slot_eq a 94).symm.trans (hd 11 94 rfl (by kernel_rfl))
                exact step_value (v := .bool true) rfl rfl ((wanted_if rfl rfl rfl gk).trans rfl) (by go_simp; try omega) hC rfl
              | 13, ht =>
                cases ht
                have h92 : a.tmps[92]?.getD undef = .bool true := (slot_eq a 92).symm.trans (hd 9 92 rfl (by kernel_rfl))
                have h95 : a.tmps[95]?.getD undef = .bool true := (slot_eq a 95).symm.trans (hd 12 95 rfl (by kernel_rfl))
                exact step_value (v := .bool true) rfl rfl (wanted_free rfl) (by go_simp) hC rfl
              | 14, ht =>
                cases ht
                have h96 : a.tmps[96]?.getD undef = .bool true := (slot_eq a 96).symm.trans (hd 13 96 rfl (by kernel_rfl))
                exact step_value (v := .bool true) rfl rfl (wanted_free rfl) (by go_simp) hC rfl
              | 15, ht =>
                cases ht
                have gk : a.tmps.getD 97 undef = .bool true := hd 14 97 rfl (by kernel_rfl)
                have h9 : a.tmps[9]?.getD undef = .slice q.A q.n q.c := (hF.at_ 9 (by decide)).trans rfl
                exact step_value (v := .slice q.A q.n q.c) rfl rfl ((wanted_if rfl rfl rfl gk).trans rfl) (by go_simp) hC rfl
              | 16, ht =>
                cases ht
                have gk : a.tmps.getD 97 undef = .bool true := hd 14 97 rfl (by kernel_rfl)
                have h98 : a.tmps[98]?.getD undef = .slice q.A q.n q.c := (slot_eq a 98).symm.trans (hd 15 98 rfl (by kernel_rfl))
                have hm := S.count V V [q] q (hb7.trans (hC.mono hb7.size)) (Env.start (by simp only [List.mem_singleton, forall_eq]; exact (hE7.2 q (by simp)).later hC)) (by simp) (by have := HQL.out; omega)
                rw [QN.out, HFIN.out, List.length_drop, show (((l.length - k : Nat)) : Int) = (l.length : Int) - (k : Int) by omega] at hm
                refine step_call rfl rfl ((wanted_if rfl rfl rfl gk).trans rfl) (call1_run ⟨_, rfl⟩ h98 (enters_of Tryz.func20 (by kernel_rfl) rfl)) (hm.mono ?_)
                rintro e2 V2 ⟨rfl, hE⟩
                exact ⟨_, rfl, rfl, hE.1, hC.trans (hE.1.mono hC.size)⟩
              | 17, ht =>
                cases ht
                have gk : a.tmps.getD 97 undef = .bool true := hd 14 97 rfl (by kernel_rfl)
                have h1 : a.tmps[1]?.getD undef = .string ⟨l.toArray⟩ := (hF.at_ 1 (by decide)).trans rfl
                exact step_value (v := .string ⟨l.toArray⟩) rfl rfl ((wanted_if rfl rfl rfl gk).trans rfl) (by go_simp) hC rfl
              | 18, ht =>
                cases ht
                have gk : a.tmps.getD 97 undef = .bool true := hd 14 97 rfl (by kernel_rfl)
                have h100 : a.tmps[100]?.getD undef = .string ⟨l.toArray⟩ := (slot_eq a 100).symm.trans (hd 17 100 rfl (by kernel_rfl))
                exact step_value (v := .int .i64 (l.length : Nat)) rfl rfl ((wanted_if rfl rfl rfl gk).trans rfl) (by go_simp) hC rfl
              | 19, ht =>
                cases ht
                have gk : a.tmps.getD 97 undef = .bool true := hd 14 97 rfl (by kernel_rfl)
                have h11 : a.tmps[11]?.getD undef = .int .i64 (k : Nat) := (hF.at_ 11 (by decide)).trans rfl
                exact step_value (v := .int .i64 (k : Nat)) rfl rfl ((wanted_if rfl rfl rfl gk).trans rfl) (by go_simp) hC rfl
              | 20, ht =>
                cases ht
                have gk : a.tmps.getD 97 undef = .bool true := hd 14 97 rfl (by kernel_rfl)
                have h101 : a.tmps[101]?.getD undef = .int .i64 (l.length : Nat) := (slot_eq a 101).symm.trans (hd 18 101 rfl (by kernel_rfl))
                have h102 : a.tmps[102]?.getD undef = .int .i64 (k : Nat) := (slot_eq a 102).symm.trans (hd 19 102 rfl (by kernel_rfl))
                have hwr : IntKind.i64.wrap ((l.length : Int) - (k : Int)) = (l.length : Int) - (k : Int) := by rw [IntKind.wrap_i64]; omega
                exact step_value (v := .int .i64 ((l.length : Int) - (k : Int))) rfl rfl ((wanted_if rfl rfl rfl gk).trans rfl) (by go_simp) hC rfl
              | 21, ht =>
                cases ht
                have gk : a.tmps.getD 97 undef = .bool true := hd 14 97 rfl (by kernel_rfl)
                have h99 : a.tmps[99]?.getD undef = .int .i64 ((l.length : Int) - (k : Int)) := (slot_eq a 99).symm.trans (hd 16 99 rfl (by kernel_rfl))
                have h103 : a.tmps[103]?.getD undef = .int .i64 ((l.length : Int) - (k : Int)) := (slot_eq a 103).symm.trans (hd 20 103 rfl (by kernel_rfl))
                exact step_value (v := .bool true) rfl rfl ((wanted_if rfl rfl rfl gk).trans rfl) (by go_simp) hC rfl
              | 22, ht =>
                cases ht
                have h97 : a.tmps[97]?.getD undef = .bool true := (slot_eq a 97).symm.trans (hd 14 97 rfl (by kernel_rfl))
                have h104 : a.tmps[104]?.getD undef = .bool true := (slot_eq a 104).symm.trans (hd 21 104 rfl (by kernel_rfl))
                exact step_value (v := .bool true) rfl rfl (wanted_free rfl) (by go_simp) hC rfl
              | 23, ht =>
                cases ht
                have h105 : a.tmps[105]?.getD undef = .bool true := (slot_eq a 105).symm.trans (hd 22 105 rfl (by kernel_rfl))
                exact step_value (v := .bool true) rfl rfl (wanted_free rfl) (by go_simp) hC rfl
              | 24, ht =>
                cases ht
                have gk : a.tmps.getD 106 undef = .bool true := hd 23 106 rfl (by kernel_rfl)
                have hm := wakes6_E (S.later (hb7.trans (hC.mono hb7.size))) (Env.start (w := V) (l := []) (by simp))
                refine step_call rfl rfl ((wanted_if rfl rfl rfl gk).trans rfl) (call0_run ⟨_, rfl⟩ (enters_of Tryz.func9 (by kernel_rfl) rfl)) (hm.mono ?_)
                rintro e2 V2 ⟨rfl, hE⟩
                exact ⟨_, rfl, rfl, hE.1, hC.trans (hE.1.mono hC.size)⟩
              | 25, ht =>
                cases ht
                have h106 : a.tmps[106]?.getD undef = .bool true := (slot_eq a 106).symm.trans (hd 23 106 rfl (by kernel_rfl))
                have h107 : a.tmps[107]?.getD undef = .bool true := (slot_eq a 107).symm.trans (hd 24 107 rfl (by kernel_rfl))
                exact step_value (v := .bool true) rfl rfl (wanted_free rfl) (by go_simp) hC rfl
              | 26, ht =>
                cases ht
                have h108 : a.tmps[108]?.getD undef = .bool true := (slot_eq a 108).symm.trans (hd 25 108 rfl (by kernel_rfl))
                exact step_value (v := .bool true) rfl rfl (wanted_free rfl) (by go_simp) hC rfl
              | k + 27, ht => simp at ht
            · intro a3 V3 hC hF hf
              have h4 := (hf 26 4 rfl : a3.tmps.getD 4 undef = .bool true)
              have hdf : a3.defers = [] := hF.defers
              have hb8 := hb7.trans (hC.mono hb7.size)
              clear hf hF
              show wpList _ _ _ [] a3 V3
              go_wp2
              exact bodyPost_ret (results_tmp rfl _ _ _) hdf ⟨by rw [h4], hb8⟩
      · refine (parse_bad S hb6 hE6 l (by omega) hr).mono ?_
        rintro e V3 ⟨rfl, hE7⟩
        have hb7 := hb6.trans (hE7.1.mono hb6.size)
        have hE8 : Env w [] V3 := ⟨hb7, by simp⟩
        clear hr hE6 hE7
        go_wp2_with fail
        refine (wakes6_E S hE8).mono ?_
        rintro e V4 ⟨rfl, hE9⟩
        go_wp2
        go_ret
        exact ⟨rfl, hE9.1⟩
  · have hyb2 : decide (x.N ≠ 0) = yb := by rw [← hyb]; simp
    rw [hyb2] at HZ
    clear hyb hyb2
    go_wp2_with fail
    refine wp_region_facts 25 [32, 33, 34, 35, 36, 37, 38, 39, 40, 41, 42, 43, 44, 45, 46, 47, 48, 49, 50, 51, 52, 53, 54, 55, 56] (fun i v V => match i with
        | 0 => v = .int .i64 0
        | 1 => v = .bool false
        | 2 => v = .bool false
        | 3 => v = .agg #[.bool yb, .slice r.A r.n r.c]
        | 4 => v = .pointer (some ⟨w.heap.size, 0, none⟩)
        | 5 => v = .bool true
        | 6 => v = .bool true
        | 7 => v = .slice u.A u.n u.c
        | 8 => v = .int .i64 (u.n : Nat)
        | 9 => v = .bool yb
        | 10 => v = .bool yb
        | 11 => v = .slice u.A u.n u.c
        | 12 => v = .agg #[.bool yb, .slice u.A u.n u.c]
        | 13 => v = .bool true
        | 14 => v = .bool false
        | 15 => v = .bool false
        | 16 => v = .bool false
        | 17 => v = .pointer (some ⟨w.heap.size, 1, none⟩)
        | 18 => v = .slice x.A x.n x.c
        | 19 => v = .string ⟨(dec x.N).toArray⟩
        | 20 => v = .pointer (some ⟨W3.heap.size, 1, none⟩)
        | 21 => v = .slice r.A r.n r.c
        | 22 => v = .string ⟨(dec x.N).toArray⟩
        | 23 => v = .bool false
        | _ => v = .bool false) (fun V => Below W5.heap.size W5 V) (by kernel_rfl) (by kernel_rfl) rfl (by decide) (by first | (simp; done) | (simp; done)) (Below.refl _ _).drew ?_ ?_ ?_
    · intro i v V V2 hf hb _
      match i, hf with
      | 0, hf => exact hf
      | 1, hf => exact hf
      | 2, hf => exact hf
      | 3, hf => exact hf
      | 4, hf => exact hf
      | 5, hf => exact hf
      | 6, hf => exact hf
      | 7, hf => exact hf
      | 8, hf => exact hf
      | 9, hf => exact hf
      | 10, hf => exact hf
      | 11, hf => exact hf
      | 12, hf => exact hf
      | 13, hf => exact hf
      | 14, hf => exact hf
      | 15, hf => exact hf
      | 16, hf => exact hf
      | 17, hf => exact hf
      | 18, hf => exact hf
      | 19, hf => exact hf
      | 20, hf => exact hf
      | 21, hf => exact hf
      | 22, hf => exact hf
      | 23, hf => exact hf
      | _ + 24, hf => exact hf
    · intro i t ht a V hC hF hd
      match i, ht with
      | 0, ht =>
        cases ht
        have h7 : a.tmps[7]?.getD undef = .int .i64 0 := (hF.at_ 7 (by decide)).trans rfl
        exact step_value (v := .int .i64 0) rfl rfl (wanted_free rfl) (by go_simp) hC rfl
      | 1, ht =>
        cases ht
        have h32 : a.tmps[32]?.getD undef = .int .i64 0 := (slot_eq a 32).symm.trans (hd 0 32 rfl (by kernel_rfl))
        exact step_value (v := .bool false) rfl rfl (wanted_free rfl) (by go_simp) hC rfl
      | 2, ht =>
        cases ht
        have h33 : a.tmps[33]?.getD undef = .bool false := (slot_eq a 33).symm.trans (hd 1 33 rfl (by kernel_rfl))
        exact step_value (v := .bool false) rfl rfl (wanted_free rfl) (by go_simp) hC rfl
      | 3, ht =>
        cases ht
        have gk : a.tmps.getD 34 undef = .bool false := hd 2 34 rfl (by kernel_rfl)
        have h6 : a.tmps[6]?.getD undef = .pointer (some ⟨W3.heap.size, 0, none⟩) := (hF.at_ 6 (by decide)).trans rfl
        obtain ⟨c00, c01, -, -⟩ := (BX5.out.below hC BX5.out.lt).cells
        obtain ⟨c10, c11, -, -⟩ := (BY5.out.below hC BY5.out.lt).cells
        exact step_value (v := .agg #[.bool yb, .slice r.A r.n r.c]) rfl rfl ((wanted_if rfl rfl rfl gk).trans rfl) (by go_simp) hC rfl
      | 4, ht =>
        cases ht
        have gk : a.tmps.getD 34 undef = .bool false := hd 2 34 rfl (by kernel_rfl)
        have h2 : a.tmps[2]?.getD undef = .pointer (some ⟨w.heap.size, 0, none⟩) := (hF.at_ 2 (by decide)).trans rfl
        exact step_value (v := .pointer (some ⟨w.heap.size, 0, none⟩)) rfl rfl ((wanted_if rfl rfl rfl gk).trans rfl) (by go_simp) hC rfl
      | 5, ht =>
        cases ht
        have gk : a.tmps.getD 34 undef = .bool false := hd 2 34 rfl (by kernel_rfl)
        have h36 : a.tmps[36]?.getD undef = .pointer (some ⟨w.heap.size, 0, none⟩) := (slot_eq a 36).symm.trans (hd 4 36 rfl (by kernel_rfl))
        obtain ⟨c00, c01, -, -⟩ := (BX5.out.below hC BX5.out.lt).cells
        obtain ⟨c10, c11, -, -⟩ := (BY5.out.below hC BY5.out.lt).cells
        exact step_value (v := .bool true) rfl rfl ((wanted_if rfl rfl rfl gk).trans rfl) (by go_simp) hC rfl
      | 6, ht =>
        cases ht
        have gk : a.tmps.getD 34 undef = .bool false := hd 2 34 rfl (by kernel_rfl)
        have h37 : a.tmps[37]?.getD undef = .bool true := (slot_eq a 37).symm.trans (hd 5 37 rfl (by kernel_rfl))
        exact step_value (v := .bool true) rfl rfl ((wanted_if rfl rfl rfl gk).trans rfl) (by go_simp) hC rfl
      | 7, ht =>
        cases ht
        have gk : a.tmps.getD 38 undef = .bool true := hd 6 38 rfl (by kernel_rfl)
        have h8 : a.tmps[8]?.getD undef = .slice u.A u.n u.c := (hF.at_ 8 (by decide)).trans rfl
        exact step_value (v := .slice u.A u.n u.c) rfl rfl ((wanted_if rfl rfl rfl gk).trans rfl) (by go_simp) hC rfl
      | 8, ht =>
        cases ht
        have gk : a.tmps.getD 38 undef = .bool true := hd 6 38 rfl (by kernel_rfl)
        have h39 : a.tmps[39]?.getD undef = .slice u.A u.n u.c := (slot_eq a 39).symm.trans (hd 7 39 rfl (by kernel_rfl))
        exact step_value (v := .int .i64 (u.n : Nat)) rfl rfl ((wanted_if rfl rfl rfl gk).trans rfl) (by go_simp) hC rfl
      | 9, ht =>
        cases ht
        have gk : a.tmps.getD 38 undef = .bool true := hd 6 38 rfl (by kernel_rfl)
        have h40 : a.tmps[40]?.getD undef = .int .i64 (u.n : Nat) := (slot_eq a 40).symm.trans (hd 8 40 rfl (by kernel_rfl))
        have hz := HZ.out
        exact step_value (v := .bool yb) rfl rfl ((wanted_if rfl rfl rfl gk).trans rfl) (by go_simp) hC rfl
      | 10, ht =>
        cases ht
        have gk : a.tmps.getD 34 undef = .bool false := hd 2 34 rfl (by kernel_rfl)
        have h38 : a.tmps[38]?.getD undef = .bool true := (slot_eq a 38).symm.trans (hd 6 38 rfl (by kernel_rfl))
        have h41 : a.tmps[41]?.getD undef = .bool yb := (slot_eq a 41).symm.trans (hd 9 41 rfl (by kernel_rfl))
        exact step_value (v := .bool yb) rfl rfl ((wanted_if rfl rfl rfl gk).trans rfl) (by go_simp) hC rfl
      | 11, ht =>
        cases ht
        have gk : a.tmps.getD 34 undef = .bool false := hd 2 34 rfl (by kernel_rfl)
        have h8 : a.tmps[8]?.getD undef = .slice u.A u.n u.c := (hF.at_ 8 (by decide)).trans rfl
        exact step_value (v := .slice u.A u.n u.c) rfl rfl ((wanted_if rfl rfl rfl gk).trans rfl) (by go_simp) hC rfl
      | 12, ht =>
        cases ht
        have gk : a.tmps.getD 34 undef = .bool false := hd 2 34 rfl (by kernel_rfl)
        have h42 : a.tmps[42]?.getD undef = .bool yb := (slot_eq a 42).symm.trans (hd 10 42 rfl (by kernel_rfl))
        have h43 : a.tmps[43]?.getD undef = .slice u.A u.n u.c := (slot_eq a 43).symm.trans (hd 11 43 rfl (by kernel_rfl))
        exact step_value (v := .agg #[.bool yb, .slice u.A u.n u.c]) rfl rfl ((wanted_if rfl rfl rfl gk).trans rfl) (by go_simp) hC rfl
      | 13, ht =>
        cases ht
        have gk : a.tmps.getD 34 undef = .bool false := hd 2 34 rfl (by kernel_rfl)
        have h35 : a.tmps[35]?.getD undef = .agg #[.bool yb, .slice r.A r.n r.c] := (slot_eq a 35).symm.trans (hd 3 35 rfl (by kernel_rfl))
        have h44 : a.tmps[44]?.getD undef = .agg #[.bool yb, .slice u.A u.n u.c] := (slot_eq a 44).symm.trans (hd 12 44 rfl (by kernel_rfl))
        have hm := same6_E (w := V) (W := V) (e := [r, u]) yb (x := r) (y := u) (Env.start (by simp only [List.mem_cons, List.not_mem_nil, or_false, forall_eq_or_imp, forall_eq]; exact ⟨(HE5.out.2 r (by simp)).later hC, (HE5.out.2 u (by simp)).later hC⟩)) (by simp) (by simp) HSM.out
        refine step_call rfl rfl ((wanted_if rfl rfl rfl gk).trans rfl) (call2_run ⟨_, rfl⟩ h35 h44 (enters_of Tryz.func15 (by kernel_rfl) rfl)) (hm.mono ?_)
        rintro e2 V2 ⟨rfl, hE⟩
        exact ⟨_, rfl, rfl, hE.1, hC.trans (hE.1.mono hC.size)⟩
      | 14, ht =>
        cases ht
        have gk : a.tmps.getD 34 undef = .bool false := hd 2 34 rfl (by kernel_rfl)
        have h45 : a.tmps[45]?.getD undef = .bool true := (slot_eq a 45).symm.trans (hd 13 45 rfl (by kernel_rfl))
        exact step_value (v := .bool false) rfl rfl ((wanted_if rfl rfl rfl gk).trans rfl) (by go_simp) hC rfl
      | 15, ht =>
        cases ht
        have h34 : a.tmps[34]?.getD undef = .bool false := (slot_eq a 34).symm.trans (hd 2 34 rfl (by kernel_rfl))
        have h46 : a.tmps[46]?.getD undef = .bool false := (slot_eq a 46).symm.trans (hd 14 46 rfl (by kernel_rfl))
        exact step_value (v := .bool false) rfl rfl (wanted_free rfl) (by go_simp) hC rfl
      | 16, ht =>
        cases ht
        have h47 : a.tmps[47]?.getD undef = .bool false := (slot_eq a 47).symm.trans (hd 15 47 rfl (by kernel_rfl))
        exact step_value (v := .bool false) rfl rfl (wanted_free rfl) (by go_simp) hC rfl
      | 17, ht =>
        cases ht
        have gk : a.tmps.getD 48 undef = .bool false := hd 16 48 rfl (by kernel_rfl)
        have h2 : a.tmps[2]?.getD undef = .pointer (some ⟨w.heap.size, 0, none⟩) := (hF.at_ 2 (by decide)).trans rfl
        exact step_value (v := .pointer (some ⟨w.heap.size, 1, none⟩)) rfl rfl ((wanted_if rfl rfl rfl gk).trans rfl) (by go_simp) hC rfl
      | 18, ht =>
        cases ht
        have gk : a.tmps.getD 48 undef = .bool false := hd 16 48 rfl (by kernel_rfl)
        have h49 : a.tmps[49]?.getD undef = .pointer (some ⟨w.heap.size, 1, none⟩) := (slot_eq a 49).symm.trans (hd 17 49 rfl (by kernel_rfl))
        obtain ⟨c00, c01, -, -⟩ := (BX5.out.below hC BX5.out.lt).cells
        obtain ⟨c10, c11, -, -⟩ := (BY5.out.below hC BY5.out.lt).cells
        exact step_value (v := .slice x.A x.n x.c) rfl rfl ((wanted_if rfl rfl rfl gk).trans rfl) (by go_simp) hC rfl
      | 19, ht =>
        cases ht
        have gk : a.tmps.getD 48 undef = .bool false := hd 16 48 rfl (by kernel_rfl)
        have h50 : a.tmps[50]?.getD undef = .slice x.A x.n x.c := (slot_eq a 50).symm.trans (hd 18 50 rfl (by kernel_rfl))
        have hm := S.text V V [x] x (HB5.out.trans (hC.mono HB5.out.size)) (Env.start (by simp only [List.mem_singleton, forall_eq]; exact (HE5.out.2 x (by simp)).later hC)) (by simp) (by have := HRL.out; omega)
        refine step_call rfl rfl ((wanted_if rfl rfl rfl gk).trans rfl) (call1_run ⟨_, rfl⟩ h50 (enters_of Tryz.func16 (by kernel_rfl) rfl)) (hm.mono ?_)
        rintro e2 V2 ⟨rfl, hE⟩
        exact ⟨_, rfl, rfl, hE.1, hC.trans (hE.1.mono hC.size)⟩
      | 20, ht =>
        cases ht
        have gk : a.tmps.getD 48 undef = .bool false := hd 16 48 rfl (by kernel_rfl)
        have h6 : a.tmps[6]?.getD undef = .pointer (some ⟨W3.heap.size, 0, none⟩) := (hF.at_ 6 (by decide)).trans rfl
        exact step_value (v := .pointer (some ⟨W3.heap.size, 1, none⟩)) rfl rfl ((wanted_if rfl rfl rfl gk).trans rfl) (by go_simp) hC rfl
      | 21, ht =>
        cases ht
        have gk : a.tmps.getD 48 undef = .bool false := hd 16 48 rfl (by kernel_rfl)
        have h52 : a.tmps[52]?.getD undef = .pointer (some ⟨W3.heap.size, 1, none⟩) := (slot_eq a 52).symm.trans (hd 20 52 rfl (by kernel_rfl))
        obtain ⟨c00, c01, -, -⟩ := (BX5.out.below hC BX5.out.lt).cells
        obtain ⟨c10, c11, -, -⟩ := (BY5.out.below hC BY5.out.lt).cells
        exact step_value (v := .slice r.A r.n r.c) rfl rfl ((wanted_if rfl rfl rfl gk).trans rfl) (by go_simp) hC rfl
      | 22, ht =>
        cases ht
        have gk : a.tmps.getD 48 undef = .bool false := hd 16 48 rfl (by kernel_rfl)
        have h53 : a.tmps[53]?.getD undef = .slice r.A r.n r.c := (slot_eq a 53).symm.trans (hd 21 53 rfl (by kernel_rfl))
        have hm := S.text V V [r] r (HB5.out.trans (hC.mono HB5.out.size)) (Env.start (by simp only [List.mem_singleton, forall_eq]; exact (HE5.out.2 r (by simp)).later hC)) (by simp) (by have := HRL.out; omega)
        rw [RN.out] at hm
        refine step_call rfl rfl ((wanted_if rfl rfl rfl gk).trans rfl) (call1_run ⟨_, rfl⟩ h53 (enters_of Tryz.func16 (by kernel_rfl) rfl)) (hm.mono ?_)
        rintro e2 V2 ⟨rfl, hE⟩
        exact ⟨_, rfl, rfl, hE.1, hC.trans (hE.1.mono hC.size)⟩
      | 23, ht =>
        cases ht
        have gk : a.tmps.getD 48 undef = .bool false := hd 16 48 rfl (by kernel_rfl)
        have h51 : a.tmps[51]?.getD undef = .string ⟨(dec x.N).toArray⟩ := (slot_eq a 51).symm.trans (hd 19 51 rfl (by kernel_rfl))
        have h54 : a.tmps[54]?.getD undef = .string ⟨(dec x.N).toArray⟩ := (slot_eq a 54).symm.trans (hd 22 54 rfl (by kernel_rfl))
        exact step_value (v := .bool false) rfl rfl ((wanted_if rfl rfl rfl gk).trans rfl) (by go_simp) hC rfl
      | 24, ht =>
        cases ht
        have h48 : a.tmps[48]?.getD undef = .bool false := (slot_eq a 48).symm.trans (hd 16 48 rfl (by kernel_rfl))
        have h55 : a.tmps[55]?.getD undef = .bool false := (slot_eq a 55).symm.trans (hd 23 55 rfl (by kernel_rfl))
        exact step_value (v := .bool false) rfl rfl (wanted_free rfl) (by go_simp) hC rfl
      | k + 25, ht => simp at ht
    · intro a2 V2 hC hF hf
      have hlit := act_eq (a := a2) (.agg #[.bool true, .slice x.A x.n x.c] :: .string ⟨l.toArray⟩ :: .pointer (some ⟨w.heap.size, 0, none⟩) :: undef :: .bool false :: .string ⟨(itext true x.N).toArray⟩ :: .pointer (some ⟨W3.heap.size, 0, none⟩) :: .int .i64 0 :: .slice u.A u.n u.c :: undef :: undef :: undef :: .pointer (some ⟨w.heap.size, 1, none⟩) :: .slice x.A x.n x.c :: .int .i64 (x.n : Nat) :: .bool (decide (6 < (x.n : Int))) :: .bool (decide (6 < (x.n : Int))) :: .string ⟨l.toArray⟩ :: .int .i64 (l.length : Nat) :: .bool (decide (200 < (l.length : Int))) :: .bool (decide (6 < (x.n : Int)) || decide (200 < (l.length : Int))) :: undef :: .agg #[.bool true, .slice x.A x.n x.c] :: .string ⟨(itext true x.N).toArray⟩ :: .tuple #[.agg #[.bool yb, .slice r.A r.n r.c], .int .i64 0] :: .string ⟨(itext true x.N).toArray⟩ :: .tuple #[.agg #[.bool yb, .slice r.A r.n r.c], .int .i64 0] :: .agg #[.bool yb, .slice r.A r.n r.c] :: .int .i64 0 :: .pointer (some ⟨w.heap.size, 1, none⟩) :: .slice x.A x.n x.c :: .slice u.A u.n u.c :: .int .i64 0 :: .bool false :: .bool false :: .agg #[.bool yb, .slice r.A r.n r.c] :: .pointer (some ⟨w.heap.size, 0, none⟩) :: .bool true :: .bool true :: .slice u.A u.n u.c :: .int .i64 (u.n : Nat) :: .bool yb :: .bool yb :: .slice u.A u.n u.c :: .agg #[.bool yb, .slice u.A u.n u.c] :: .bool true :: .bool false :: .bool false :: .bool false :: .pointer (some ⟨w.heap.size, 1, none⟩) :: .slice x.A x.n x.c :: .string ⟨(dec x.N).toArray⟩ :: .pointer (some ⟨W3.heap.size, 1, none⟩) :: .slice r.A r.n r.c :: .string ⟨(dec x.N).toArray⟩ :: .bool false :: .bool false :: undef :: undef :: undef :: undef :: undef :: undef :: undef :: undef :: undef :: undef :: undef :: undef :: undef :: undef :: undef :: undef :: undef :: undef :: undef :: undef :: undef :: undef :: undef :: undef :: undef :: undef :: undef :: undef :: undef :: undef :: undef :: undef :: undef :: undef :: undef :: undef :: undef :: undef :: undef :: undef :: undef :: undef :: undef :: undef :: undef :: undef :: undef :: undef :: undef :: undef :: undef :: undef :: []) (by simpa using hF.size) hF.defers (fun i hi => match i, hi with
        | 0, _ => (hF.same 0 (by decide)).trans rfl
        | 1, _ => (hF.same 1 (by decide)).trans rfl
        | 2, _ => (hF.same 2 (by decide)).trans rfl
        | 3, _ => (hF.same 3 (by decide)).trans rfl
        | 4, _ => (hF.same 4 (by decide)).trans rfl
        | 5, _ => (hF.same 5 (by decide)).trans rfl
        | 6, _ => (hF.same 6 (by decide)).trans rfl
        | 7, _ => (hF.same 7 (by decide)).trans rfl
        | 8, _ => (hF.same 8 (by decide)).trans rfl
        | 9, _ => (hF.same 9 (by decide)).trans rfl
        | 10, _ => (hF.same 10 (by decide)).trans rfl
        | 11, _ => (hF.same 11 (by decide)).trans rfl
        | 12, _ => (hF.same 12 (by decide)).trans rfl
        | 13, _ => (hF.same 13 (by decide)).trans rfl
        | 14, _ => (hF.same 14 (by decide)).trans rfl
        | 15, _ => (hF.same 15 (by decide)).trans rfl
        | 16, _ => (hF.same 16 (by decide)).trans rfl
        | 17, _ => (hF.same 17 (by decide)).trans rfl
        | 18, _ => (hF.same 18 (by decide)).trans rfl
        | 19, _ => (hF.same 19 (by decide)).trans rfl
        | 20, _ => (hF.same 20 (by decide)).trans rfl
        | 21, _ => (hF.same 21 (by decide)).trans rfl
        | 22, _ => (hF.same 22 (by decide)).trans rfl
        | 23, _ => (hF.same 23 (by decide)).trans rfl
        | 24, _ => (hF.same 24 (by decide)).trans rfl
        | 25, _ => (hF.same 25 (by decide)).trans rfl
        | 26, _ => (hF.same 26 (by decide)).trans rfl
        | 27, _ => (hF.same 27 (by decide)).trans rfl
        | 28, _ => (hF.same 28 (by decide)).trans rfl
        | 29, _ => (hF.same 29 (by decide)).trans rfl
        | 30, _ => (hF.same 30 (by decide)).trans rfl
        | 31, _ => (hF.same 31 (by decide)).trans rfl
        | 32, _ => (hf 0 32 rfl : a2.tmps.getD 32 undef = _)
        | 33, _ => (hf 1 33 rfl : a2.tmps.getD 33 undef = _)
        | 34, _ => (hf 2 34 rfl : a2.tmps.getD 34 undef = _)
        | 35, _ => (hf 3 35 rfl : a2.tmps.getD 35 undef = _)
        | 36, _ => (hf 4 36 rfl : a2.tmps.getD 36 undef = _)
        | 37, _ => (hf 5 37 rfl : a2.tmps.getD 37 undef = _)
        | 38, _ => (hf 6 38 rfl : a2.tmps.getD 38 undef = _)
        | 39, _ => (hf 7 39 rfl : a2.tmps.getD 39 undef = _)
        | 40, _ => (hf 8 40 rfl : a2.tmps.getD 40 undef = _)
        | 41, _ => (hf 9 41 rfl : a2.tmps.getD 41 undef = _)
        | 42, _ => (hf 10 42 rfl : a2.tmps.getD 42 undef = _)
        | 43, _ => (hf 11 43 rfl : a2.tmps.getD 43 undef = _)
        | 44, _ => (hf 12 44 rfl : a2.tmps.getD 44 undef = _)
        | 45, _ => (hf 13 45 rfl : a2.tmps.getD 45 undef = _)
        | 46, _ => (hf 14 46 rfl : a2.tmps.getD 46 undef = _)
        | 47, _ => (hf 15 47 rfl : a2.tmps.getD 47 undef = _)
        | 48, _ => (hf 16 48 rfl : a2.tmps.getD 48 undef = _)
        | 49, _ => (hf 17 49 rfl : a2.tmps.getD 49 undef = _)
        | 50, _ => (hf 18 50 rfl : a2.tmps.getD 50 undef = _)
        | 51, _ => (hf 19 51 rfl : a2.tmps.getD 51 undef = _)
        | 52, _ => (hf 20 52 rfl : a2.tmps.getD 52 undef = _)
        | 53, _ => (hf 21 53 rfl : a2.tmps.getD 53 undef = _)
        | 54, _ => (hf 22 54 rfl : a2.tmps.getD 54 undef = _)
        | 55, _ => (hf 23 55 rfl : a2.tmps.getD 55 undef = _)
        | 56, _ => (hf 24 56 rfl : a2.tmps.getD 56 undef = _)
        | 57, _ => (hF.same 57 (by decide)).trans rfl
        | 58, _ => (hF.same 58 (by decide)).trans rfl
        | 59, _ => (hF.same 59 (by decide)).trans rfl
        | 60, _ => (hF.same 60 (by decide)).trans rfl
        | 61, _ => (hF.same 61 (by decide)).trans rfl
        | 62, _ => (hF.same 62 (by decide)).trans rfl
        | 63, _ => (hF.same 63 (by decide)).trans rfl
        | 64, _ => (hF.same 64 (by decide)).trans rfl
        | 65, _ => (hF.same 65 (by decide)).trans rfl
        | 66, _ => (hF.same 66 (by decide)).trans rfl
        | 67, _ => (hF.same 67 (by decide)).trans rfl
        | 68, _ => (hF.same 68 (by decide)).trans rfl
        | 69, _ => (hF.same 69 (by decide)).trans rfl
        | 70, _ => (hF.same 70 (by decide)).trans rfl
        | 71, _ => (hF.same 71 (by decide)).trans rfl
        | 72, _ => (hF.same 72 (by decide)).trans rfl
        | 73, _ => (hF.same 73 (by decide)).trans rfl
        | 74, _ => (hF.same 74 (by decide)).trans rfl
        | 75, _ => (hF.same 75 (by decide)).trans rfl
        | 76, _ => (hF.same 76 (by decide)).trans rfl
        | 77, _ => (hF.same 77 (by decide)).trans rfl
        | 78, _ => (hF.same 78 (by decide)).trans rfl
        | 79, _ => (hF.same 79 (by decide)).trans rfl
        | 80, _ => (hF.same 80 (by decide)).trans rfl
        | 81, _ => (hF.same 81 (by decide)).trans rfl
        | 82, _ => (hF.same 82 (by decide)).trans rfl
        | 83, _ => (hF.same 83 (by decide)).trans rfl
        | 84, _ => (hF.same 84 (by decide)).trans rfl
        | 85, _ => (hF.same 85 (by decide)).trans rfl
        | 86, _ => (hF.same 86 (by decide)).trans rfl
        | 87, _ => (hF.same 87 (by decide)).trans rfl
        | 88, _ => (hF.same 88 (by decide)).trans rfl
        | 89, _ => (hF.same 89 (by decide)).trans rfl
        | 90, _ => (hF.same 90 (by decide)).trans rfl
        | 91, _ => (hF.same 91 (by decide)).trans rfl
        | 92, _ => (hF.same 92 (by decide)).trans rfl
        | 93, _ => (hF.same 93 (by decide)).trans rfl
        | 94, _ => (hF.same 94 (by decide)).trans rfl
        | 95, _ => (hF.same 95 (by decide)).trans rfl
        | 96, _ => (hF.same 96 (by decide)).trans rfl
        | 97, _ => (hF.same 97 (by decide)).trans rfl
        | 98, _ => (hF.same 98 (by decide)).trans rfl
        | 99, _ => (hF.same 99 (by decide)).trans rfl
        | 100, _ => (hF.same 100 (by decide)).trans rfl
        | 101, _ => (hF.same 101 (by decide)).trans rfl
        | 102, _ => (hF.same 102 (by decide)).trans rfl
        | 103, _ => (hF.same 103 (by decide)).trans rfl
        | 104, _ => (hF.same 104 (by decide)).trans rfl
        | 105, _ => (hF.same 105 (by decide)).trans rfl
        | 106, _ => (hF.same 106 (by decide)).trans rfl
        | 107, _ => (hF.same 107 (by decide)).trans rfl
        | 108, _ => (hF.same 108 (by decide)).trans rfl
        | _ + 109, h => absurd h (by simp only [List.length_cons, List.length_nil]; omega))
      subst hlit
      have hb6 := HB5.out.trans (hC.mono HB5.out.size)
      clear hf hF
      show wpList _ _ _ [] _ V2
      go_wp2_with fail
      have hE6 : Env V2 [] V2 := Env.start (by simp)
      by_cases hr : Reads l
      · refine (parse_ok S hb6 hE6 l hr).mono ?_
        rintro e V3 ⟨q, rfl, qN, qn, hE7⟩
        have QN := Lib.hid qN
        have QL := Lib.hid qn
        have hb7 := hb6.trans (hE7.1.mono hb6.size)
        have HR := Lib.hid hr
        have HQL : Hid (q.n ≤ 60) := Lib.hid (by rw [qn]; exact lenL_le.2 (Nat.lt_of_lt_of_le (Nat.lt_of_lt_of_le (val_lt hr.2.2) (Nat.pow_le_pow_right (by omega) hr.2.1)) (Nat.pow_le_pow_left (by rw [Bw_eq]; omega) 60)))
        have hl1 : 1 ≤ l.length := hr.1
        have hl60 : l.length ≤ 60 := hr.2.1
        clear qN qn hr hE6
        go_wp2_with fail
        go_loopw [11] (fun av V => ∃ k : Nat, av = .int .i64 k ∧ k < l.length ∧ Hid (val (l.drop k) = val l) ∧ V = V3) (fun av _ => l.length - (intOf av).toNat)
        case atStart => exact ⟨0, rfl, by omega, Lib.hid rfl, rfl⟩
        case round =>
          obtain ⟨k, rfl, hk, hv, rfl⟩ := hrel
          have hkb : k < (⟨l.toArray⟩ : ByteArray).size := by rw [str_size]; exact hk
          have hge : (⟨l.toArray⟩ : ByteArray)[k] = l[k] := rfl
          by_cases hlast : k + 1 < l.length
          · have hlt : decide ((k : Int) < (l.length : Int) - 1) = true := by rw [decide_eq_true_eq]; omega
            by_cases hc : l[k] = 48
            · have hb : ((((⟨l.toArray⟩ : ByteArray)[k]).toNat : Int) == 48) = true := by rw [hge, hc]; rfl
              have HN : Hid (val (l.drop (k + 1)) = val l) := Lib.hid (by
                rw [← hv.out, List.drop_eq_getElem_cons hk, hc, val_nought])
              clear hge hc
              go_wp2
              exact ⟨⟨k + 1, congrArg _ (by omega), hlast, HN, trivial⟩, by simp [intOf]; omega⟩
            · have hb : ((((⟨l.toArray⟩ : ByteArray)[k]).toNat : Int) == 48) = false := by
                rw [hge, beq_eq_false_iff_ne]; intro e; exact hc (UInt8.toNat_inj.mp (by rw [show (48 : UInt8).toNat = 48 from rfl]; omega))
              have HFIN : Hid (dec (val l) = l.drop k) := Lib.hid (dec_drop HR.out.2.2 hk hv.out (.inr hc))
              clear hge hc
              go_wp2_with fail
              refine wp_region_facts 27 [83, 84, 85, 86, 87, 88, 89, 90, 91, 92, 93, 94, 95, 96, 97, 98, 99, 100, 101, 102, 103, 104, 105, 106, 107, 108, 4] (fun i v V => match i with
                  | 0 => v = .slice q.A q.n q.c
                  | 1 => v = .string ⟨(l.drop k).toArray⟩
                  | 2 => v = .string ⟨l.toArray⟩
                  | 3 => v = .int .i64 (k : Nat)
                  | 4 => v = .string ⟨l.toArray⟩
                  | 5 => v = .int .i64 (l.length : Nat)
                  | 6 => v = .int .i64 (k : Nat)
                  | 7 => v = .string ⟨(l.drop k).toArray⟩
                  | 8 => v = .bool true
                  | 9 => v = .bool true
                  | 10 => v = .string ⟨l.toArray⟩
                  | 11 => v = .int .i64 (l.length : Nat)
                  | 12 => v = .bool true
                  | 13 => v = .bool true
                  | 14 => v = .bool true
                  | 15 => v = .slice q.A q.n q.c
                  | 16 => v = .int .i64 ((l.length : Int) - (k : Int))
                  | 17 => v = .string ⟨l.toArray⟩
                  | 18 => v = .int .i64 (l.length : Nat)
                  | 19 => v = .int .i64 (k : Nat)
                  | 20 => v = .int .i64 ((l.length : Int) - (k : Int))
                  | 21 => v = .bool true
                  | 22 => v = .bool true
                  | 23 => v = .bool true
                  | 24 => v = .bool true
                  | 25 => v = .bool true
                  | _ => v = .bool true) (fun V => Below wr.heap.size wr V) (by kernel_rfl) (by kernel_rfl) rfl (by decide) (by first | (simp; done) | (simp; done)) (Below.refl _ _).drew ?_ ?_ ?_
              · intro i v V V2 hf hb _
                match i, hf with
                | 0, hf => exact hf
                | 1, hf => exact hf
                | 2, hf => exact hf
                | 3, hf => exact hf
                | 4, hf => exact hf
                | 5, hf => exact hf
                | 6, hf => exact hf
                | 7, hf => exact hf
                | 8, hf => exact hf
                | 9, hf => exact hf
                | 10, hf => exact hf
                | 11, hf => exact hf
                | 12, hf => exact hf
                | 13, hf => exact hf
                | 14, hf => exact hf
                | 15, hf => exact hf
                | 16, hf => exact hf
                | 17, hf => exact hf
                | 18, hf => exact hf
                | 19, hf => exact hf
                | 20, hf => exact hf
                | 21, hf => exact hf
                | 22, hf => exact hf
                | 23, hf => exact hf
                | 24, hf => exact hf
                | 25, hf => exact hf
                | _ + 26, hf => exact hf
              · intro i t ht a V hC hF hd
                match i, ht with
                | 0, ht =>
                  cases ht
                  have h9 : a.tmps[9]?.getD undef = .slice q.A q.n q.c := (hF.at_ 9 (by decide)).trans rfl
                  exact step_value (v := .slice q.A q.n q.c) rfl rfl (wanted_free rfl) (by go_simp) hC rfl
                | 1, ht =>
                  cases ht
                  have h83 : a.tmps[83]?.getD undef = .slice q.A q.n q.c := (slot_eq a 83).symm.trans (hd 0 83 rfl (by kernel_rfl))
                  have hm := S.text V V [q] q (hb7.trans (hC.mono hb7.size)) (Env.start (by simp only [List.mem_singleton, forall_eq]; exact (hE7.2 q (by simp)).later hC)) (by simp) (by have := HQL.out; omega)
                  rw [QN.out, HFIN.out] at hm
                  refine step_call rfl rfl (wanted_free rfl) (call1_run ⟨_, rfl⟩ h83 (enters_of Tryz.func16 (by kernel_rfl) rfl)) (hm.mono ?_)
                  rintro e2 V2 ⟨rfl, hE⟩
                  exact ⟨_, rfl, rfl, hE.1, hC.trans (hE.1.mono hC.size)⟩
                | 2, ht =>
                  cases ht
                  have h1 : a.tmps[1]?.getD undef = .string ⟨l.toArray⟩ := (hF.at_ 1 (by decide)).trans rfl
                  exact step_value (v := .string ⟨l.toArray⟩) rfl rfl (wanted_free rfl) (by go_simp) hC rfl
                | 3, ht =>
                  cases ht
                  have h11 : a.tmps[11]?.getD undef = .int .i64 (k : Nat) := (hF.at_ 11 (by decide)).trans rfl
                  exact step_value (v := .int .i64 (k : Nat)) rfl rfl (wanted_free rfl) (by go_simp) hC rfl
                | 4, ht =>
                  cases ht
                  have h1 : a.tmps[1]?.getD undef = .string ⟨l.toArray⟩ := (hF.at_ 1 (by decide)).trans rfl
                  exact step_value (v := .string ⟨l.toArray⟩) rfl rfl (wanted_free rfl) (by go_simp) hC rfl
                | 5, ht =>
                  cases ht
                  have h87 : a.tmps[87]?.getD undef = .string ⟨l.toArray⟩ := (slot_eq a 87).symm.trans (hd 4 87 rfl (by kernel_rfl))
                  exact step_value (v := .int .i64 (l.length : Nat)) rfl rfl (wanted_free rfl) (by go_simp) hC rfl
                | 6, ht =>
                  cases ht
                  have h86 : a.tmps[86]?.getD undef = .int .i64 (k : Nat) := (slot_eq a 86).symm.trans (hd 3 86 rfl (by kernel_rfl))
                  have h88 : a.tmps[88]?.getD undef = .int .i64 (l.length : Nat) := (slot_eq a 88).symm.trans (hd 5 88 rfl (by kernel_rfl))
                  have hmin : min (k : Int) (l.length : Int) = (k : Int) := by omega
                  exact step_value (v := .int .i64 (k : Nat)) rfl rfl (wanted_free rfl) (by go_simp; try (intro h; omega)) hC rfl
                | 7, ht =>
                  cases ht
                  have h85 : a.tmps[85]?.getD undef = .string ⟨l.toArray⟩ := (slot_eq a 85).symm.trans (hd 2 85 rfl (by kernel_rfl))
                  have h89 : a.tmps[89]?.getD undef = .int .i64 (k : Nat) := (slot_eq a 89).symm.trans (hd 6 89 rfl (by kernel_rfl))
                  have hcut := cut_at l k (Nat.le_of_lt hk)
                  exact step_value (v := .string ⟨(l.drop k).toArray⟩) rfl rfl (wanted_free rfl) (by go_simp; try (intro h; omega)) hC rfl
                | 8, ht =>
                  cases ht
                  have h84 : a.tmps[84]?.getD undef = .string ⟨(l.drop k).toArray⟩ := (slot_eq a 84).symm.trans (hd 1 84 rfl (by kernel_rfl))
                  have h90 : a.tmps[90]?.getD undef = .string ⟨(l.drop k).toArray⟩ := (slot_eq a 90).symm.trans (hd 7 90 rfl (by kernel_rfl))
                  exact step_value (v := .bool true) rfl rfl (wanted_free rfl) (by go_simp) hC rfl
                | 9, ht =>
                  cases ht
                  have h91 : a.tmps[91]?.getD undef = .bool true := (slot_eq a 91).symm.trans (hd 8 91 rfl (by kernel_rfl))
                  exact step_value (v := .bool true) rfl rfl (wanted_free rfl) (by go_simp) hC rfl
                | 10, ht =>
                  cases ht
                  have gk : a.tmps.getD 92 undef = .bool true := hd 9 92 rfl (by kernel_rfl)
                  have h1 : a.tmps[1]?.getD undef = .string ⟨l.toArray⟩ := (hF.at_ 1 (by decide)).trans rfl
                  exact step_value (v := .string ⟨l.toArray⟩) rfl rfl ((wanted_if rfl rfl rfl gk).trans rfl) (by go_simp) hC rfl
                | 11, ht =>
                  cases ht
                  have gk : a.tmps.getD 92 undef = .bool true := hd 9 92 rfl (by kernel_rfl)
                  have h93 : a.tmps[93]?.getD undef = .string ⟨l.toArray⟩ := (slot_eq a 93).symm.trans (hd 10 93 rfl (by kernel_rfl))
                  exact step_value (v := .int .i64 (l.length : Nat)) rfl rfl ((wanted_if rfl rfl rfl gk).trans rfl) (by go_simp) hC rfl
                | 12, ht =>
                  cases ht
                  have gk : a.tmps.getD 92 undef = .bool true := hd 9 92 rfl (by kernel_rfl)
                  have h94 : a.tmps[94]?.getD undef = .int .i64 (l.length : Nat) := (slot_eq a 94).symm.trans (hd 11 94 rfl (by kernel_rfl))
                  exact step_value (v := .bool true) rfl rfl ((wanted_if rfl rfl rfl gk).trans rfl) (by go_simp; try omega) hC rfl
                | 13, ht =>
                  cases ht
                  have h92 : a.tmps[92]?.getD undef = .bool true := (slot_eq a 92).symm.trans (hd 9 92 rfl (by kernel_rfl))
                  have h95 : a.tmps[95]?.getD undef = .bool true := (slot_eq a 95).symm.trans (hd 12 95 rfl (by kernel_rfl))
                  exact step_value (v := .bool true) rfl rfl (wanted_free rfl) (by go_simp) hC rfl
                | 14, ht =>
                  cases ht
                  have h96 : a.tmps[96]?.getD undef = .bool true := (slot_eq a 96).symm.trans (hd 13 96 rfl (by kernel_rfl))
                  exact step_value (v := .bool true) rfl rfl (wanted_free rfl) (by go_simp) hC rfl
                | 15, ht =>
                  cases ht
                  have gk : a.tmps.getD 97 undef = .bool true := hd 14 97 rfl (by kernel_rfl)
                  have h9 : a.tmps[9]?.getD undef = .slice q.A q.n q.c := (hF.at_ 9 (by decide)).trans rfl
                  exact step_value (v := .slice q.A q.n q.c) rfl rfl ((wanted_if rfl rfl rfl gk).trans rfl) (by go_simp) hC rfl
                | 16, ht =>
                  cases ht
                  have gk : a.tmps.getD 97 undef = .bool true := hd 14 97 rfl (by kernel_rfl)
                  have h98 : a.tmps[98]?.getD undef = .slice q.A q.n q.c := (slot_eq a 98).symm.trans (hd 15 98 rfl (by kernel_rfl))
                  have hm := S.count V V [q] q (hb7.trans (hC.mono hb7.size)) (Env.start (by simp only [List.mem_singleton, forall_eq]; exact (hE7.2 q (by simp)).later hC)) (by simp) (by have := HQL.out; omega)
                  rw [QN.out, HFIN.out, List.length_drop, show (((l.length - k : Nat)) : Int) = (l.length : Int) - (k : Int) by omega] at hm
                  refine step_call rfl rfl ((wanted_if rfl rfl rfl gk).trans rfl) (call1_run ⟨_, rfl⟩ h98 (enters_of Tryz.func20 (by kernel_rfl) rfl)) (hm.mono ?_)
                  rintro e2 V2 ⟨rfl, hE⟩
                  exact ⟨_, rfl, rfl, hE.1, hC.trans (hE.1.mono hC.size)⟩
                | 17, ht =>
                  cases ht
                  have gk : a.tmps.getD 97 undef = .bool true := hd 14 97 rfl (by kernel_rfl)
                  have h1 : a.tmps[1]?.getD undef = .string ⟨l.toArray⟩ := (hF.at_ 1 (by decide)).trans rfl
                  exact step_value (v := .string ⟨l.toArray⟩) rfl rfl ((wanted_if rfl rfl rfl gk).trans rfl) (by go_simp) hC rfl
                | 18, ht =>
                  cases ht
                  have gk : a.tmps.getD 97 undef = .bool true := hd 14 97 rfl (by kernel_rfl)
                  have h100 : a.tmps[100]?.getD undef = .string ⟨l.toArray⟩ := (slot_eq a 100).symm.trans (hd 17 100 rfl (by kernel_rfl))
                  exact step_value (v := .int .i64 (l.length : Nat)) rfl rfl ((wanted_if rfl rfl rfl gk).trans rfl) (by go_simp) hC rfl
                | 19, ht =>
                  cases ht
                  have gk : a.tmps.getD 97 undef = .bool true := hd 14 97 rfl (by kernel_rfl)
                  have h11 : a.tmps[11]?.getD undef = .int .i64 (k : Nat) := (hF.at_ 11 (by decide)).trans rfl
                  exact step_value (v := .int .i64 (k : Nat)) rfl rfl ((wanted_if rfl rfl rfl gk).trans rfl) (by go_simp) hC rfl
                | 20, ht =>
                  cases ht
                  have gk : a.tmps.getD 97 undef = .bool true := hd 14 97 rfl (by kernel_rfl)
                  have h101 : a.tmps[101]?.getD undef = .int .i64 (l.length : Nat) := (slot_eq a 101).symm.trans (hd 18 101 rfl (by kernel_rfl))
                  have h102 : a.tmps[102]?.getD undef = .int .i64 (k : Nat) := (slot_eq a 102).symm.trans (hd 19 102 rfl (by kernel_rfl))
                  have hwr : IntKind.i64.wrap ((l.length : Int) - (k : Int)) = (l.length : Int) - (k : Int) := by rw [IntKind.wrap_i64]; omega
                  exact step_value (v := .int .i64 ((l.length : Int) - (k : Int))) rfl rfl ((wanted_if rfl rfl rfl gk).trans rfl) (by go_simp) hC rfl
                | 21, ht =>
                  cases ht
                  have gk : a.tmps.getD 97 undef = .bool true := hd 14 97 rfl (by kernel_rfl)
                  have h99 : a.tmps[99]?.getD undef = .int .i64 ((l.length : Int) - (k : Int)) := (slot_eq a 99).symm.trans (hd 16 99 rfl (by kernel_rfl))
                  have h103 : a.tmps[103]?.getD undef = .int .i64 ((l.length : Int) - (k : Int)) := (slot_eq a 103).symm.trans (hd 20 103 rfl (by kernel_rfl))
                  exact step_value (v := .bool true) rfl rfl ((wanted_if rfl rfl rfl gk).trans rfl) (by go_simp) hC rfl
                | 22, ht =>
                  cases ht
                  have h97 : a.tmps[97]?.getD undef = .bool true := (slot_eq a 97).symm.trans (hd 14 97 rfl (by kernel_rfl))
                  have h104 : a.tmps[104]?.getD undef = .bool true := (slot_eq a 104).symm.trans (hd 21 104 rfl (by kernel_rfl))
                  exact step_value (v := .bool true) rfl rfl (wanted_free rfl) (by go_simp) hC rfl
                | 23, ht =>
                  cases ht
                  have h105 : a.tmps[105]?.getD undef = .bool true := (slot_eq a 105).symm.trans (hd 22 105 rfl (by kernel_rfl))
                  exact step_value (v := .bool true) rfl rfl (wanted_free rfl) (by go_simp) hC rfl
                | 24, ht =>
                  cases ht
                  have gk : a.tmps.getD 106 undef = .bool true := hd 23 106 rfl (by kernel_rfl)
                  have hm := wakes6_E (S.later (hb7.trans (hC.mono hb7.size))) (Env.start (w := V) (l := []) (by simp))
                  refine step_call rfl rfl ((wanted_if rfl rfl rfl gk).trans rfl) (call0_run ⟨_, rfl⟩ (enters_of Tryz.func9 (by kernel_rfl) rfl)) (hm.mono ?_)
                  rintro e2 V2 ⟨rfl, hE⟩
                  exact ⟨_, rfl, rfl, hE.1, hC.trans (hE.1.mono hC.size)⟩
                | 25, ht =>
                  cases ht
                  have h106 : a.tmps[106]?.getD undef = .bool true := (slot_eq a 106).symm.trans (hd 23 106 rfl (by kernel_rfl))
                  have h107 : a.tmps[107]?.getD undef = .bool true := (slot_eq a 107).symm.trans (hd 24 107 rfl (by kernel_rfl))
                  exact step_value (v := .bool true) rfl rfl (wanted_free rfl) (by go_simp) hC rfl
                | 26, ht =>
                  cases ht
                  have h108 : a.tmps[108]?.getD undef = .bool true := (slot_eq a 108).symm.trans (hd 25 108 rfl (by kernel_rfl))
                  exact step_value (v := .bool true) rfl rfl (wanted_free rfl) (by go_simp) hC rfl
                | k + 27, ht => simp at ht
              · intro a3 V3 hC hF hf
                have h4 := (hf 26 4 rfl : a3.tmps.getD 4 undef = .bool true)
                have hdf : a3.defers = [] := hF.defers
                have hb8 := hb7.trans (hC.mono hb7.size)
                clear hf hF
                show wpList _ _ _ [] a3 V3
                go_wp2
                exact bodyPost_ret (results_tmp rfl _ _ _) hdf ⟨by rw [h4], hb8⟩
          · have hlt : decide ((k : Int) < (l.length : Int) - 1) = false := by rw [decide_eq_false_iff_not]; omega
            have HFIN : Hid (dec (val l) = l.drop k) := Lib.hid (dec_drop HR.out.2.2 hk hv.out (.inl (by omega)))
            clear hge
            go_wp2_with fail
            refine wp_region_facts 27 [83, 84, 85, 86, 87, 88, 89, 90, 91, 92, 93, 94, 95, 96, 97, 98, 99, 100, 101, 102, 103, 104, 105, 106, 107, 108, 4] (fun i v V => match i with
                | 0 => v = .slice q.A q.n q.c
                | 1 => v = .string ⟨(l.drop k).toArray⟩
                | 2 => v = .string ⟨l.toArray⟩
                | 3 => v = .int .i64 (k : Nat)
                | 4 => v = .string ⟨l.toArray⟩
                | 5 => v = .int .i64 (l.length : Nat)
                | 6 => v = .int .i64 (k : Nat)
                | 7 => v = .string ⟨(l.drop k).toArray⟩
                | 8 => v = .bool true
                | 9 => v = .bool true
                | 10 => v = .string ⟨l.toArray⟩
                | 11 => v = .int .i64 (l.length : Nat)
                | 12 => v = .bool true
                | 13 => v = .bool true
                | 14 => v = .bool true
                | 15 => v = .slice q.A q.n q.c
                | 16 => v = .int .i64 ((l.length : Int) - (k : Int))
                | 17 => v = .string ⟨l.toArray⟩
                | 18 => v = .int .i64 (l.length : Nat)
                | 19 => v = .int .i64 (k : Nat)
                | 20 => v = .int .i64 ((l.length : Int) - (k : Int))
                | 21 => v = .bool true
                | 22 => v = .bool true
                | 23 => v = .bool true
                | 24 => v = .bool true
                | 25 => v = .bool true
                | _ => v = .bool true) (fun V => Below wr.heap.size wr V) (by kernel_rfl) (by kernel_rfl) rfl (by decide) (by first | (simp; done) | (simp; done)) (Below.refl _ _).drew ?_ ?_ ?_
            · intro i v V V2 hf hb _
              match i, hf with
              | 0, hf => exact hf
              | 1, hf => exact hf
              | 2, hf => exact hf
              | 3, hf => exact hf
              | 4, hf => exact hf
              | 5, hf => exact hf
              | 6, hf => exact hf
              | 7, hf => exact hf
              | 8, hf => exact hf
              | 9, hf => exact hf
              | 10, hf => exact hf
              | 11, hf => exact hf
              | 12, hf => exact hf
              | 13, hf => exact hf
              | 14, hf => exact hf
              | 15, hf => exact hf
              | 16, hf => exact hf
              | 17, hf => exact hf
              | 18, hf => exact hf
              | 19, hf => exact hf
              | 20, hf => exact hf
              | 21, hf => exact hf
              | 22, hf => exact hf
              | 23, hf => exact hf
              | 24, hf => exact hf
              | 25, hf => exact hf
              | _ + 26, hf => exact hf
            · intro i t ht a V hC hF hd
              match i, ht with
              | 0, ht =>
                cases ht
                have h9 : a.tmps[9]?.getD undef = .slice q.A q.n q.c := (hF.at_ 9 (by decide)).trans rfl
                exact step_value (v := .slice q.A q.n q.c) rfl rfl (wanted_free rfl) (by go_simp) hC rfl
              | 1, ht =>
                cases ht
                have h83 : a.tmps[83]?.getD undef = .slice q.A q.n q.c := (slot_eq a 83).symm.trans (hd 0 83 rfl (by kernel_rfl))
                have hm := S.text V V [q] q (hb7.trans (hC.mono hb7.size)) (Env.start (by simp only [List.mem_singleton, forall_eq]; exact (hE7.2 q (by simp)).later hC)) (by simp) (by have := HQL.out; omega)
                rw [QN.out, HFIN.out] at hm
                refine step_call rfl rfl (wanted_free rfl) (call1_run ⟨_, rfl⟩ h83 (enters_of Tryz.func16 (by kernel_rfl) rfl)) (hm.mono ?_)
                rintro e2 V2 ⟨rfl, hE⟩
                exact ⟨_, rfl, rfl, hE.1, hC.trans (hE.1.mono hC.size)⟩
              | 2, ht =>
                cases ht
                have h1 : a.tmps[1]?.getD undef = .string ⟨l.toArray⟩ := (hF.at_ 1 (by decide)).trans rfl
                exact step_value (v := .string ⟨l.toArray⟩) rfl rfl (wanted_free rfl) (by go_simp) hC rfl
              | 3, ht =>
                cases ht
                have h11 : a.tmps[11]?.getD undef = .int .i64 (k : Nat) := (hF.at_ 11 (by decide)).trans rfl
                exact step_value (v := .int .i64 (k : Nat)) rfl rfl (wanted_free rfl) (by go_simp) hC rfl
              | 4, ht =>
                cases ht
                have h1 : a.tmps[1]?.getD undef = .string ⟨l.toArray⟩ := (hF.at_ 1 (by decide)).trans rfl
                exact step_value (v := .string ⟨l.toArray⟩) rfl rfl (wanted_free rfl) (by go_simp) hC rfl
              | 5, ht =>
                cases ht
                have h87 : a.tmps[87]?.getD undef = .string ⟨l.toArray⟩ := (slot_eq a 87).symm.trans (hd 4 87 rfl (by kernel_rfl))
                exact step_value (v := .int .i64 (l.length : Nat)) rfl rfl (wanted_free rfl) (by go_simp) hC rfl
              | 6, ht =>
                cases ht
                have h86 : a.tmps[86]?.getD undef = .int .i64 (k : Nat) := (slot_eq a 86).symm.trans (hd 3 86 rfl (by kernel_rfl))
                have h88 : a.tmps[88]?.getD undef = .int .i64 (l.length : Nat) := (slot_eq a 88).symm.trans (hd 5 88 rfl (by kernel_rfl))
                have hmin : min (k : Int) (l.length : Int) = (k : Int) := by omega
                exact step_value (v := .int .i64 (k : Nat)) rfl rfl (wanted_free rfl) (by go_simp; try (intro h; omega)) hC rfl
              | 7, ht =>
                cases ht
                have h85 : a.tmps[85]?.getD undef = .string ⟨l.toArray⟩ := (slot_eq a 85).symm.trans (hd 2 85 rfl (by kernel_rfl))
                have h89 : a.tmps[89]?.getD undef = .int .i64 (k : Nat) := (slot_eq a 89).symm.trans (hd 6 89 rfl (by kernel_rfl))
                have hcut := cut_at l k (Nat.le_of_lt hk)
                exact step_value (v := .string ⟨(l.drop k).toArray⟩) rfl rfl (wanted_free rfl) (by go_simp; try (intro h; omega)) hC rfl
              | 8, ht =>
                cases ht
                have h84 : a.tmps[84]?.getD undef = .string ⟨(l.drop k).toArray⟩ := (slot_eq a 84).symm.trans (hd 1 84 rfl (by kernel_rfl))
                have h90 : a.tmps[90]?.getD undef = .string ⟨(l.drop k).toArray⟩ := (slot_eq a 90).symm.trans (hd 7 90 rfl (by kernel_rfl))
                exact step_value (v := .bool true) rfl rfl (wanted_free rfl) (by go_simp) hC rfl
              | 9, ht =>
                cases ht
                have h91 : a.tmps[91]?.getD undef = .bool true := (slot_eq a 91).symm.trans (hd 8 91 rfl (by kernel_rfl))
                exact step_value (v := .bool true) rfl rfl (wanted_free rfl) (by go_simp) hC rfl
              | 10, ht =>
                cases ht
                have gk : a.tmps.getD 92 undef = .bool true := hd 9 92 rfl (by kernel_rfl)
                have h1 : a.tmps[1]?.getD undef = .string ⟨l.toArray⟩ := (hF.at_ 1 (by decide)).trans rfl
                exact step_value (v := .string ⟨l.toArray⟩) rfl rfl ((wanted_if rfl rfl rfl gk).trans rfl) (by go_simp) hC rfl
              | 11, ht =>
                cases ht
                have gk : a.tmps.getD 92 undef = .bool true := hd 9 92 rfl (by kernel_rfl)
                have h93 : a.tmps[93]?.getD undef = .string ⟨l.toArray⟩ := (slot_eq a 93).symm.trans (hd 10 93 rfl (by kernel_rfl))
                exact step_value (v := .int .i64 (l.length : Nat)) rfl rfl ((wanted_if rfl rfl rfl gk).trans rfl) (by go_simp) hC rfl
              | 12, ht =>
                cases ht
                have gk : a.tmps.getD 92 undef = .bool true := hd 9 92 rfl (by kernel_rfl)
                have h94 : a.tmps[94]?.getD undef = .int .i64 (l.length : Nat) := (slot_eq a 94).symm.trans (hd 11 94 rfl (by kernel_rfl))
                exact step_value (v := .bool true) rfl rfl ((wanted_if rfl rfl rfl gk).trans rfl) (by go_simp; try omega) hC rfl
              | 13, ht =>
                cases ht
                have h92 : a.tmps[92]?.getD undef = .bool true := (slot_eq a 92).symm.trans (hd 9 92 rfl (by kernel_rfl))
                have h95 : a.tmps[95]?.getD undef = .bool true := (slot_eq a 95).symm.trans (hd 12 95 rfl (by kernel_rfl))
                exact step_value (v := .bool true) rfl rfl (wanted_free rfl) (by go_simp) hC rfl
              | 14, ht =>
                cases ht
                have h96 : a.tmps[96]?.getD undef = .bool true := (slot_eq a 96).symm.trans (hd 13 96 rfl (by kernel_rfl))
                exact step_value (v := .bool true) rfl rfl (wanted_free rfl) (by go_simp) hC rfl
              | 15, ht =>
                cases ht
                have gk : a.tmps.getD 97 undef = .bool true := hd 14 97 rfl (by kernel_rfl)
                have h9 : a.tmps[9]?.getD undef = .slice q.A q.n q.c := (hF.at_ 9 (by decide)).trans rfl
                exact step_value (v := .slice q.A q.n q.c) rfl rfl ((wanted_if rfl rfl rfl gk).trans rfl) (by go_simp) hC rfl
              | 16, ht =>
                cases ht
                have gk : a.tmps.getD 97 undef = .bool true := hd 14 97 rfl (by kernel_rfl)
                have h98 : a.tmps[98]?.getD undef = .slice q.A q.n q.c := (slot_eq a 98).symm.trans (hd 15 98 rfl (by kernel_rfl))
                have hm := S.count V V [q] q (hb7.trans (hC.mono hb7.size)) (Env.start (by simp only [List.mem_singleton, forall_eq]; exact (hE7.2 q (by simp)).later hC)) (by simp) (by have := HQL.out; omega)
                rw [QN.out, HFIN.out, List.length_drop, show (((l.length - k : Nat)) : Int) = (l.length : Int) - (k : Int) by omega] at hm
                refine step_call rfl rfl ((wanted_if rfl rfl rfl gk).trans rfl) (call1_run ⟨_, rfl⟩ h98 (enters_of Tryz.func20 (by kernel_rfl) rfl)) (hm.mono ?_)
                rintro e2 V2 ⟨rfl, hE⟩
                exact ⟨_, rfl, rfl, hE.1, hC.trans (hE.1.mono hC.size)⟩
              | 17, ht =>
                cases ht
                have gk : a.tmps.getD 97 undef = .bool true := hd 14 97 rfl (by kernel_rfl)
                have h1 : a.tmps[1]?.getD undef = .string ⟨l.toArray⟩ := (hF.at_ 1 (by decide)).trans rfl
                exact step_value (v := .string ⟨l.toArray⟩) rfl rfl ((wanted_if rfl rfl rfl gk).trans rfl) (by go_simp) hC rfl
              | 18, ht =>
                cases ht
                have gk : a.tmps.getD 97 undef = .bool true := hd 14 97 rfl (by kernel_rfl)
                have h100 : a.tmps[100]?.getD undef = .string ⟨l.toArray⟩ := (slot_eq a 100).symm.trans (hd 17 100 rfl (by kernel_rfl))
                exact step_value (v := .int .i64 (l.length : Nat)) rfl rfl ((wanted_if rfl rfl rfl gk).trans rfl) (by go_simp) hC rfl
              | 19, ht =>
                cases ht
                have gk : a.tmps.getD 97 undef = .bool true := hd 14 97 rfl (by kernel_rfl)
                have h11 : a.tmps[11]?.getD undef = .int .i64 (k : Nat) := (hF.at_ 11 (by decide)).trans rfl
                exact step_value (v := .int .i64 (k : Nat)) rfl rfl ((wanted_if rfl rfl rfl gk).trans rfl) (by go_simp) hC rfl
              | 20, ht =>
                cases ht
                have gk : a.tmps.getD 97 undef = .bool true := hd 14 97 rfl (by kernel_rfl)
                have h101 : a.tmps[101]?.getD undef = .int .i64 (l.length : Nat) := (slot_eq a 101).symm.trans (hd 18 101 rfl (by kernel_rfl))
                have h102 : a.tmps[102]?.getD undef = .int .i64 (k : Nat) := (slot_eq a 102).symm.trans (hd 19 102 rfl (by kernel_rfl))
                have hwr : IntKind.i64.wrap ((l.length : Int) - (k : Int)) = (l.length : Int) - (k : Int) := by rw [IntKind.wrap_i64]; omega
                exact step_value (v := .int .i64 ((l.length : Int) - (k : Int))) rfl rfl ((wanted_if rfl rfl rfl gk).trans rfl) (by go_simp) hC rfl
              | 21, ht =>
                cases ht
                have gk : a.tmps.getD 97 undef = .bool true := hd 14 97 rfl (by kernel_rfl)
                have h99 : a.tmps[99]?.getD undef = .int .i64 ((l.length : Int) - (k : Int)) := (slot_eq a 99).symm.trans (hd 16 99 rfl (by kernel_rfl))
                have h103 : a.tmps[103]?.getD undef = .int .i64 ((l.length : Int) - (k : Int)) := (slot_eq a 103).symm.trans (hd 20 103 rfl (by kernel_rfl))
                exact step_value (v := .bool true) rfl rfl ((wanted_if rfl rfl rfl gk).trans rfl) (by go_simp) hC rfl
              | 22, ht =>
                cases ht
                have h97 : a.tmps[97]?.getD undef = .bool true := (slot_eq a 97).symm.trans (hd 14 97 rfl (by kernel_rfl))
                have h104 : a.tmps[104]?.getD undef = .bool true := (slot_eq a 104).symm.trans (hd 21 104 rfl (by kernel_rfl))
                exact step_value (v := .bool true) rfl rfl (wanted_free rfl) (by go_simp) hC rfl
              | 23, ht =>
                cases ht
                have h105 : a.tmps[105]?.getD undef = .bool true := (slot_eq a 105).symm.trans (hd 22 105 rfl (by kernel_rfl))
                exact step_value (v := .bool true) rfl rfl (wanted_free rfl) (by go_simp) hC rfl
              | 24, ht =>
                cases ht
                have gk : a.tmps.getD 106 undef = .bool true := hd 23 106 rfl (by kernel_rfl)
                have hm := wakes6_E (S.later (hb7.trans (hC.mono hb7.size))) (Env.start (w := V) (l := []) (by simp))
                refine step_call rfl rfl ((wanted_if rfl rfl rfl gk).trans rfl) (call0_run ⟨_, rfl⟩ (enters_of Tryz.func9 (by kernel_rfl) rfl)) (hm.mono ?_)
                rintro e2 V2 ⟨rfl, hE⟩
                exact ⟨_, rfl, rfl, hE.1, hC.trans (hE.1.mono hC.size)⟩
              | 25, ht =>
                cases ht
                have h106 : a.tmps[106]?.getD undef = .bool true := (slot_eq a 106).symm.trans (hd 23 106 rfl (by kernel_rfl))
                have h107 : a.tmps[107]?.getD undef = .bool true := (slot_eq a 107).symm.trans (hd 24 107 rfl (by kernel_rfl))
                exact step_value (v := .bool true) rfl rfl (wanted_free rfl) (by go_simp) hC rfl
              | 26, ht =>
                cases ht
                have h108 : a.tmps[108]?.getD undef = .bool true := (slot_eq a 108).symm.trans (hd 25 108 rfl (by kernel_rfl))
                exact step_value (v := .bool true) rfl rfl (wanted_free rfl) (by go_simp) hC rfl
              | k + 27, ht => simp at ht
            · intro a3 V3 hC hF hf
              have h4 := (hf 26 4 rfl : a3.tmps.getD 4 undef = .bool true)
              have hdf : a3.defers = [] := hF.defers
              have hb8 := hb7.trans (hC.mono hb7.size)
              clear hf hF
              show wpList _ _ _ [] a3 V3
              go_wp2
              exact bodyPost_ret (results_tmp rfl _ _ _) hdf ⟨by rw [h4], hb8⟩
      · refine (parse_bad S hb6 hE6 l (by omega) hr).mono ?_
        rintro e V3 ⟨rfl, hE7⟩
        have hb7 := hb6.trans (hE7.1.mono hb6.size)
        have hE8 : Env w [] V3 := ⟨hb7, by simp⟩
        clear hr hE6 hE7
        go_wp2_with fail
        refine (wakes6_E S hE8).mono ?_
        rintro e V4 ⟨rfl, hE9⟩
        go_wp2
        go_ret
        exact ⟨rfl, hE9.1⟩

theorem dback_any (w : World) (S : DigTold w) (b : Bool) (x : Num) (s : ByteArray) (hx : x.ok w w.heap.size) (hs : s.size ≤ maxLen) :
    Calls Tryz.prog 4 #[.agg #[.bool b, .slice x.A x.n x.c], .string s] w fun e w' => e = .returned (.bool true) ∧ Below w.heap.size w w' := by
  by_cases hl : x.n ≤ 6 ∧ s.size ≤ 200
  · have he : s = ⟨s.data.toList.toArray⟩ := by apply ByteArray.ext; simp
    rw [he]
    exact dback_go w S b x _ hx hl.1 (by rw [str_len]; exact hl.2)
  · exact dback_far w S b x s hx hs hl
end Go.Proofs.YtaancfhbmjkoaaaGreatDoor
