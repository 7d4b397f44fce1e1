/- DigitsParts, over what the program's functions answer: a number times a thousand, and one below that, stand side by side. -/
import Derived.Laws.DeepStrings4
import Derived.Test.YtaancfhbmjkoaaaGreatDoorWakes6
import Derived.Test.YtaancfhbmjkoaaaGreatDoorGRefB
import Derived.Test.YtaancfhbmjkoaaaGreatDoorGRefA
import Derived.Test.YtaancfhbmjkoaaaGreatDoorSame4
import Derived.Test.YtaancfhbmjkoaaaGreatDoorLaw
namespace Go.Proofs.YtaancfhbmjkoaaaGreatDoor
open Go Go.ChangeShapes Go.WideShapes Go.ChangeAt Go.RowKit Go.Deep

theorem dec_small {N : Nat} (h : N ≤ 999) : (dec N).length ≤ 3 := by
  by_cases h0 : N = 0
  · rw [h0, dec_zero]; simp
  · rw [dec_pos h0]; exact decz_len (by omega)
def lenS (v : Value) : Nat := match v with | .string b => b.size | _ => 0
theorem lenS_str (l : List UInt8) : lenS (.string ⟨l.toArray⟩) = l.length := str_size l
/-- A number times a thousand, and one below that: the digits stand side by side. -/
theorem dec_thousand {X N : Nat} {l : List UInt8} (h : X ≠ 0) (hd : Digs l) (hl : l.length = 3) (hv : val l = N) : dec (X * 1000 + N) = dec X ++ l := by
  have h1 := decz_mul (n := X) (l := l) h hd
  rw [hl, hv] at h1
  rw [dec_pos (by omega), dec_pos h, ← h1]

set_option maxRecDepth 100000 in
set_option maxHeartbeats 4000000 in
theorem dparts_far (w : World) (S : DigTold w) (x : Num) (n : Int) (hx : x.ok w w.heap.size) (hl : ¬ (x.n ≤ 5 ∧ 0 ≤ n ∧ n ≤ 999)) :
    Calls Tryz.prog 7 #[.slice x.A x.n x.c, .int .i64 n] w fun e w' => e = .returned (.bool true) ∧ Below w.heap.size w w' := by
  have hE0 : Env w [x] w := Env.start (by simp; exact hx)
  have EW := fun V (h : Env w [x] V) => wakes6_E S h
  clear hx
  rcases (by omega : 5 < x.n ∨ (x.n ≤ 5 ∧ n < 0) ∨ (x.n ≤ 5 ∧ 0 ≤ n ∧ 999 < n)) with h1 | ⟨h1, h2⟩ | ⟨h1, h2, h3⟩
  all_goals
    clear hl
    go_enter Tryz.func7, Tryz.ntmps7
    go_wp2_with fail
    refine (EW _ hE0).mono ?_
    rintro e Vw ⟨rfl, hEw⟩
    go_wp2
    go_ret
    exact ⟨rfl, hEw.1⟩

set_option maxRecDepth 100000 in
set_option maxHeartbeats 4000000 in
theorem dparts_go (w : World) (S : DigTold w) (x : Num) (N : Nat) (hx : x.ok w w.heap.size) (hl : x.n ≤ 5) (hN : N ≤ 999) :
    Calls Tryz.prog 7 #[.slice x.A x.n x.c, .int .i64 (N : Nat)] w fun e w' => e = .returned (.bool true) ∧ Below w.heap.size w w' := by
  have hE0 : Env w [x] w := Env.start (by simp; exact hx)
  have HX := Lib.hid hx.1.1
  clear hx
  go_enter Tryz.func7, Tryz.ntmps7
  go_wp2_with fail
  refine (rTrim_E (hE0.lit (N := N) (v := (N : Nat)) rfl rfl (by omega)) (x := ⟨some ⟨w.heap.size, 0, none⟩, 1, 1, N⟩) (by simp)).mono ?_
  rintro e W1 ⟨r, rfl, rN, rn, hE1, -⟩
  replace rN : Hid (r.N = N) := Lib.hid rN
  replace rn : Hid (r.n = lenL N) := Lib.hid rn
  have hr1 : r.n ≤ 1 := by rw [rn.out]; exact lenL_le.2 (by rw [Nat.pow_one, Bw_eq]; omega)
  go_wp2_with fail
  refine (rMul_E (hE1.lit (N := 1000) (v := 1000) rfl rfl (by decide)) (x := x) (y := ⟨some ⟨W1.heap.size, 0, none⟩, 1, 1, 1000⟩) (by simp) (by simp) (by omega) (by simp)).mono ?_
  rintro e W2 ⟨t, rfl, tN, tn, hE2, -⟩
  have BM := Lib.hid (mul_len (m := 1) (lt_pow_of HX.out hl) (show 1000 < Bw ^ 1 by rw [Nat.pow_one, Bw_eq]; decide))
  replace tN : Hid (t.N = x.N * 1000) := Lib.hid tN
  have ht6 : t.n ≤ 6 := by
    have h5 : t.n = lenL (x.N * 1000) := tn
    have := BM.out
    omega
  clear tn hE0
  go_wp2_with fail
  refine (rAdd2_E hE2 (x := t) (y := r) (by simp) (by simp) rfl (by omega) (by omega)).mono ?_
  rintro e W3 ⟨a, rfl, aN, an, hE3, -⟩
  replace aN : Hid (a.N = x.N * 1000 + N) := Lib.hid (by have h5 : a.N = t.N + r.N := aN; rw [h5, tN.out, rN.out])
  have ha7 : a.n ≤ 7 := by
    have h5 : a.n = lenL (t.N + r.N) := an
    have h6 := sum_len hE2 (x := t) (y := r) (by simp) (by simp) (b := 6) ht6 (by omega)
    omega
  replace an : Hid (a.n = lenL a.N) := Lib.hid (by have h5 : a.n = lenL (t.N + r.N) := an; rw [h5, aN.out, tN.out, rN.out])
  clear hE1 hE2
  go_wp2_with fail
  refine (S.text _ _ _ r hE3.1 hE3 (by simp) (by omega)).mono ?_
  rintro e W4 ⟨rfl, hE4⟩
  rw [rN.out]
  clear hE3
  go_wp2_with fail
  refine (rTrim_E hE4 (x := x) (by simp)).mono ?_
  rintro e W5 ⟨u, rfl, -, un, hE5, -⟩
  replace un := Lib.hid un
  have hls := dec_small hN
  have hlx : (dec x.N).length ≤ 51 := Nat.le_trans (dec_len_le (lt_pow_of HX.out hl)) (by omega)
  clear hE4
  by_cases h0 : x.N = 0
  · have un0 : u.n = 0 := by rw [un.out, h0, lenL_zero]
    have un1 : ((u.n : Int) == 0) = true := by rw [un0]; rfl
    have aN0 : Hid (a.N = N) := Lib.hid (by rw [aN.out, h0]; omega)
    clear h0
    go_wp2_with fail
    refine (S.text _ _ _ a hE5.1 hE5 (by simp) (by omega)).mono ?_
    rintro e W6 ⟨rfl, hE6⟩
    rw [aN0.out]
    go_wp2_with fail
    refine (S.count _ _ _ a hE6.1 hE6 (by simp) (by omega)).mono ?_
    rintro e W7 ⟨rfl, hE7⟩
    rw [aN0.out]
    go_wp2_with fail
    refine (wakes6_E S hE7).mono ?_
    rintro e W8 ⟨rfl, hE8⟩
    go_wp2
    go_ret
    exact ⟨rfl, hE8.1⟩
  · have un0 : 0 < u.n := by rw [un.out]; exact lenL_pos h0
    have un1 : ((u.n : Int) == 0) = false := by rw [beq_eq_false_iff_ne]; omega
    have HZ := Lib.hid h0
    have HE5 := Lib.hid hE5
    clear h0 hE5
    go_wp2_with fail
    go_loopw [7] (fun sv V => ∃ l : List UInt8, sv = .string ⟨l.toArray⟩ ∧ l.length ≤ 3 ∧ Hid (Digs l) ∧ Hid (val l = N) ∧ Hid (Env w [a, x] V)) (fun sv _ => 3 - lenS sv)
    case atStart => exact ⟨dec N, rfl, hls, Lib.hid (digs_dec N), Lib.hid (val_dec N), Lib.hid (HE5.out.pick (by intro z hz; simp only [List.mem_cons, List.not_mem_nil, or_false] at hz ⊢; rcases hz with rfl | rfl <;> simp))⟩
    case round =>
      obtain ⟨l, rfl, hl3, hd, hv, hE⟩ := hrel
      by_cases hlt : l.length < 3
      · go_wp2
        refine ⟨⟨48 :: l, congrArg _ (str_app [48] l), by simp; omega, Lib.hid (digs_cons.mpr ⟨by decide, hd.out⟩), Lib.hid (by rw [val_nought]; exact hv.out), hE⟩, ?_⟩
        rw [str_app [48] l, lenS_str, lenS_str]
        simp; omega
      · have hle : l.length = 3 := by omega
        go_wp2_with fail
        refine (S.text _ _ _ x hE.out.1 hE.out (by simp) (by omega)).mono ?_
        rintro e W6 ⟨rfl, hE6⟩
        have HD := Lib.hid hd.out
        have hlm : (dec x.N ++ l).length ≤ 54 := by rw [List.length_append]; omega
        have hm1 : 1 ≤ (dec x.N ++ l).length := by rw [List.length_append]; omega
        have HM : Hid (Digs (dec x.N ++ l)) := Lib.hid (digs_append.mpr ⟨digs_dec _, hd.out⟩)
        have HV : Hid (val (dec x.N ++ l) = a.N) := Lib.hid (by rw [val_append, val_dec, hle, hv.out, aN.out])
        have HT : Hid (dec a.N = dec x.N ++ l) := Lib.hid (by rw [aN.out]; exact dec_thousand HZ.out hd.out hle hv.out)
        obtain ⟨m, hm⟩ : ∃ m, dec x.N ++ l = m := ⟨_, rfl⟩
        have hsa : (⟨(dec x.N).toArray⟩ : ByteArray) ++ ⟨l.toArray⟩ = ⟨m.toArray⟩ := by rw [str_app, hm]
        rw [hm] at hlm hm1 HM HV HT
        have hlx2 := hlx
        clear hE hm
        go_wp2_with fail
        refine (parse_ok S hE6.1 hE6 m ⟨hm1, by omega, HM.out⟩).mono ?_
        rintro e W7 ⟨q, rfl, qN, qn, hE7⟩
        rw [HV.out] at qN qn
        have QN := Lib.hid qN
        have Qn := Lib.hid qn
        clear qN qn hE6
        go_wp2_with fail
        refine (S.text _ _ _ a hE7.1 hE7 (by simp) (by omega)).mono ?_
        rintro e W8 ⟨rfl, hE8⟩
        rw [HT.out]
        have hq7 : q.n ≤ 7 := by rw [Qn.out, ← an.out]; exact ha7
        have hsm : sameB q.n a.n q.N a.N = true := same_of QN.out (by rw [Qn.out, QN.out]) an.out
        have ES := gSame_E hE8 (x := q) (y := a) (by simp) (by simp)
        rw [hsm] at ES
        clear hE7 hE8 hsm
        go_wp2_with fail
        refine ES.mono ?_
        rintro e W9 ⟨rfl, hE9⟩
        go_wp2_with fail
        refine (wakes6_E S hE9).mono ?_
        rintro e W10 ⟨rfl, hE10⟩
        go_wp2
        go_ret
        exact ⟨rfl, hE10.1⟩

theorem dparts_any (w : World) (S : DigTold w) (x : Num) (n : Int) (hx : x.ok w w.heap.size) (_hn : -9223372036854775808 ≤ n ∧ n ≤ 9223372036854775807) :
    Calls Tryz.prog 7 #[.slice x.A x.n x.c, .int .i64 n] w fun e w' => e = .returned (.bool true) ∧ Below w.heap.size w w' := by
  by_cases hl : x.n ≤ 5 ∧ 0 ≤ n ∧ n ≤ 999
  · obtain ⟨N, rfl⟩ := Int.eq_ofNat_of_zero_le hl.2.1
    exact dparts_go w S x N hx hl.1 (by omega)
  · exact dparts_far w S x n hx hl
end Go.Proofs.YtaancfhbmjkoaaaGreatDoor
