/- GcdDivides, of numbers of which the first is not nought. -/
import Derived.Test.YtkijjcladecooaaDoorGcdDivides
namespace Go.Proofs.YtkijjcladecooaaDoor
open Go Go.ChangeShapes Go.WideShapes Go.ChangeAt Go.RowKit Go.Deep

set_option maxRecDepth 100000 in
set_option maxHeartbeats 4000000 in
theorem gdivides_szn (w : World) (S : GcdTold w) (x y z : Num) (hx : x.ok w w.heap.size) (hy : y.ok w w.heap.size) (hz : z.ok w w.heap.size) (bx : x.n ≤ 6) (by' : y.n ≤ 6) (bz : z.n ≤ 6) (h1 : x.N ≠ 0) (h3 : z.N = 0) (h4 : coprB x.N z.N = false) :
    Calls Tryd.prog 4 #[.slice x.A x.n x.c, .slice y.A y.n y.c, .slice z.A z.n z.c] w fun e w' => e = .returned (.bool true) ∧ Below w.heap.size w w' := by
  have hE0 : Env w [x, y, z] w := Env.start (by simp; exact ⟨hx, hy, hz⟩)
  have HGL := Lib.hid (gcd_len hx.1.1 hy.1.1 bx by')
  have HXZ := Lib.hid (mul_len hx.1.1 hz.1.1)
  have HYZ := Lib.hid (mul_len hy.1.1 hz.1.1)
  have HSL := Lib.hid (lenL_add (lt_pow_of hy.1.1 by') (lt_pow_of hx.1.1 bx))
  have HGZ := Lib.hid (zeroE_pos (gcd_ne (N := x.N) (M := y.N) (.inl h1)))
  have HR1 := Lib.hid (rest_left x.N y.N (gcd_ne (N := x.N) (M := y.N) (.inl h1)))
  have HR2 := Lib.hid (rest_right x.N y.N (gcd_ne (N := x.N) (M := y.N) (.inl h1)))
  have HCP := Lib.hid h4
  have HX := Lib.hid (lenL_pos h1)
  have HZ := Lib.hid h3
  clear hx hy hz h1 h3 h4
  go_enter Tryd.func4, Tryd.ntmps4
  go_wp2_with fail
  all_goals
    refine (S.gcd _ _ x y hE0 (by simp) (by simp) (by omega) (by omega)).mono ?_
    rintro e V1 ⟨g, rfl, gN, gn, hE1⟩
    have gb : g.n ≤ 6 := by rw [gn]; have h2 := HGL.out; omega
    replace gN := Lib.hid gN
    replace gn := Lib.hid gn
    go_wp2_with fail
    refine (rTrim_E (x := x) hE1 (by simp)).mono ?_
    rintro e V2 ⟨t, rfl, tN, tn, hE2, -⟩
    have t0 : 0 < t.n := by rw [tn]; exact HX.out
    have t1 : ((t.n : Int) == 0) = false := by rw [beq_eq_false_iff_ne]; omega
    replace tN := Lib.hid tN
    replace tn := Lib.hid tn
    go_wp2_with fail
    refine (rDiv_E (x := x) (y := g) hE2 (by simp) (by simp) (by omega) (by omega)).mono ?_
    rintro e V3 ⟨q, r, rfl, qN, qn, rN, rn, hE3⟩
    rw [gN.out, HGZ.out]
    rw [gN.out, HR1.out] at rN rn
    have r0 : r.n = 0 := rn
    replace qN := Lib.hid qN
    replace qn := Lib.hid qn
    replace rN := Lib.hid rN
    replace rn := Lib.hid rn
    go_wp2_with fail
    refine (rDiv_E (x := y) (y := g) hE3 (by simp) (by simp) (by omega) (by omega)).mono ?_
    rintro e V4 ⟨p, s, rfl, pN, pn, sN, sn, hE4⟩
    rw [gN.out, HGZ.out]
    rw [gN.out, HR2.out] at sN sn
    have s0 : s.n = 0 := sn
    replace pN := Lib.hid pN
    replace pn := Lib.hid pn
    replace sN := Lib.hid sN
    replace sn := Lib.hid sn
    go_wp2_with fail
    refine (S.gcd _ _ y x hE4 (by simp) (by simp) (by omega) (by omega)).mono ?_
    rintro e V5 ⟨k, rfl, kN, kn, hE5⟩
    rw [Nat.gcd_comm] at kN kn
    replace kN := Lib.hid kN
    replace kn := Lib.hid kn
    go_wp2_with fail
    refine (gSame_E (x := g) (y := k) hE5 (by simp) (by simp)).mono ?_
    rintro e V6 ⟨rfl, hE6⟩
    rw [same_of (show g.N = k.N by rw [gN.out, kN.out]) (by rw [gn.out, gN.out]) (by rw [kn.out, kN.out])]
    go_wp2_with fail
    refine (rTrim_E (x := z) hE6 (by simp)).mono ?_
    rintro e V7 ⟨v, rfl, vN, vn, hE7, -⟩
    rw [HZ.out] at vn
    have v0 : v.n = 0 := vn
    replace vN := Lib.hid vN
    replace vn := Lib.hid vn
    go_wp2_with fail
    refine (S.coprime _ _ x z hE7 (by simp) (by simp) (by omega) (by omega)).mono ?_
    rintro e V8 ⟨rfl, hE8⟩
    rw [HCP.out]
    go_wp2_with fail
    refine (rAdd2_E (x := y) (y := x) hE8 (by simp) (by simp) rfl (by omega) (by omega)).mono ?_
    rintro e V9 ⟨l, rfl, lN, ln, hE9, -⟩
    have lb : l.n ≤ 7 := by rw [ln]; have h2 := HSL.out; omega
    replace lN := Lib.hid lN
    replace ln := Lib.hid ln
    go_wp2_with fail
    refine (S.gcd _ _ x l hE9 (by simp) (by simp) (by omega) (by omega)).mono ?_
    rintro e V10 ⟨m, rfl, mN, mn, hE10⟩
    rw [lN.out, Nat.gcd_add_self_right] at mN mn
    replace mN := Lib.hid mN
    replace mn := Lib.hid mn
    go_wp2_with fail
    refine (gSame_E (x := m) (y := g) hE10 (by simp) (by simp)).mono ?_
    rintro e V11 ⟨rfl, hE11⟩
    rw [same_of (show m.N = g.N by rw [mN.out, gN.out]) (by rw [mn.out, mN.out]) (by rw [gn.out, gN.out])]
    go_wp2_with fail
    refine (gall2_E (x := x) (y := y) S hE11 (by simp) (by simp) rfl (by omega) (by omega)).mono ?_
    rintro e V12 ⟨n, rfl, nN, nn, hE12⟩
    replace nN := Lib.hid nN
    replace nn := Lib.hid nn
    go_wp2_with fail
    refine (gSame_E (x := n) (y := g) hE12 (by simp) (by simp)).mono ?_
    rintro e V13 ⟨rfl, hE13⟩
    rw [same_of (show n.N = g.N by rw [nN.out, gN.out]) (by rw [nn.out, nN.out]) (by rw [gn.out, gN.out])]
    go_wp2_with fail
    refine (gall3_E (x := x) (y := y) (z := z) S hE13 (by simp) (by simp) (by simp) rfl (by omega) (by omega) (by omega)).mono ?_
    rintro e V14 ⟨aa, rfl, aaN, aan, hE14⟩
    replace aaN := Lib.hid aaN
    replace aan := Lib.hid aan
    go_wp2_with fail
    refine (S.gcd _ _ g z hE14 (by simp) (by simp) (by omega) (by omega)).mono ?_
    rintro e V15 ⟨bb, rfl, bbN, bbn, hE15⟩
    rw [gN.out] at bbN bbn
    replace bbN := Lib.hid bbN
    replace bbn := Lib.hid bbn
    go_wp2_with fail
    refine (gSame_E (x := aa) (y := bb) hE15 (by simp) (by simp)).mono ?_
    rintro e V16 ⟨rfl, hE16⟩
    rw [same_of (show aa.N = bb.N by rw [aaN.out, bbN.out]) (by rw [aan.out, aaN.out]) (by rw [bbn.out, bbN.out])]
    go_wp2_with fail
    refine (wakes4_E S hE16).mono ?_
    rintro e Vw ⟨rfl, hEw⟩
    go_wp2
    go_ret
    refine ⟨?_, hEw.1⟩
    first
    | rfl
    | (refine ret_bool ?_; simp; done)

set_option maxRecDepth 100000 in
set_option maxHeartbeats 4000000 in
theorem gdivides_szc (w : World) (S : GcdTold w) (x y z : Num) (hx : x.ok w w.heap.size) (hy : y.ok w w.heap.size) (hz : z.ok w w.heap.size) (bx : x.n ≤ 6) (by' : y.n ≤ 6) (bz : z.n ≤ 6) (h1 : x.N ≠ 0) (h3 : z.N = 0) (h4 : coprB x.N z.N = true) :
    Calls Tryd.prog 4 #[.slice x.A x.n x.c, .slice y.A y.n y.c, .slice z.A z.n z.c] w fun e w' => e = .returned (.bool true) ∧ Below w.heap.size w w' := by
  have hE0 : Env w [x, y, z] w := Env.start (by simp; exact ⟨hx, hy, hz⟩)
  have HGL := Lib.hid (gcd_len hx.1.1 hy.1.1 bx by')
  have HXZ := Lib.hid (mul_len hx.1.1 hz.1.1)
  have HYZ := Lib.hid (mul_len hy.1.1 hz.1.1)
  have HSL := Lib.hid (lenL_add (lt_pow_of hy.1.1 by') (lt_pow_of hx.1.1 bx))
  have HGZ := Lib.hid (zeroE_pos (gcd_ne (N := x.N) (M := y.N) (.inl h1)))
  have HR1 := Lib.hid (rest_left x.N y.N (gcd_ne (N := x.N) (M := y.N) (.inl h1)))
  have HR2 := Lib.hid (rest_right x.N y.N (gcd_ne (N := x.N) (M := y.N) (.inl h1)))
  have HCP := Lib.hid h4
  have HX := Lib.hid (lenL_pos h1)
  have HZ := Lib.hid h3
  have HW := Lib.hid (gcd_without (M := y.N) h4)
  clear hx hy hz h1 h3 h4
  go_enter Tryd.func4, Tryd.ntmps4
  go_wp2_with fail
  all_goals
    refine (S.gcd _ _ x y hE0 (by simp) (by simp) (by omega) (by omega)).mono ?_
    rintro e V1 ⟨g, rfl, gN, gn, hE1⟩
    have gb : g.n ≤ 6 := by rw [gn]; have h2 := HGL.out; omega
    replace gN := Lib.hid gN
    replace gn := Lib.hid gn
    go_wp2_with fail
    refine (rTrim_E (x := x) hE1 (by simp)).mono ?_
    rintro e V2 ⟨t, rfl, tN, tn, hE2, -⟩
    have t0 : 0 < t.n := by rw [tn]; exact HX.out
    have t1 : ((t.n : Int) == 0) = false := by rw [beq_eq_false_iff_ne]; omega
    replace tN := Lib.hid tN
    replace tn := Lib.hid tn
    go_wp2_with fail
    refine (rDiv_E (x := x) (y := g) hE2 (by simp) (by simp) (by omega) (by omega)).mono ?_
    rintro e V3 ⟨q, r, rfl, qN, qn, rN, rn, hE3⟩
    rw [gN.out, HGZ.out]
    rw [gN.out, HR1.out] at rN rn
    have r0 : r.n = 0 := rn
    replace qN := Lib.hid qN
    replace qn := Lib.hid qn
    replace rN := Lib.hid rN
    replace rn := Lib.hid rn
    go_wp2_with fail
    refine (rDiv_E (x := y) (y := g) hE3 (by simp) (by simp) (by omega) (by omega)).mono ?_
    rintro e V4 ⟨p, s, rfl, pN, pn, sN, sn, hE4⟩
    rw [gN.out, HGZ.out]
    rw [gN.out, HR2.out] at sN sn
    have s0 : s.n = 0 := sn
    replace pN := Lib.hid pN
    replace pn := Lib.hid pn
    replace sN := Lib.hid sN
    replace sn := Lib.hid sn
    go_wp2_with fail
    refine (S.gcd _ _ y x hE4 (by simp) (by simp) (by omega) (by omega)).mono ?_
    rintro e V5 ⟨k, rfl, kN, kn, hE5⟩
    rw [Nat.gcd_comm] at kN kn
    replace kN := Lib.hid kN
    replace kn := Lib.hid kn
    go_wp2_with fail
    refine (gSame_E (x := g) (y := k) hE5 (by simp) (by simp)).mono ?_
    rintro e V6 ⟨rfl, hE6⟩
    rw [same_of (show g.N = k.N by rw [gN.out, kN.out]) (by rw [gn.out, gN.out]) (by rw [kn.out, kN.out])]
    go_wp2_with fail
    refine (rTrim_E (x := z) hE6 (by simp)).mono ?_
    rintro e V7 ⟨v, rfl, vN, vn, hE7, -⟩
    rw [HZ.out] at vn
    have v0 : v.n = 0 := vn
    replace vN := Lib.hid vN
    replace vn := Lib.hid vn
    go_wp2_with fail
    refine (S.coprime _ _ x z hE7 (by simp) (by simp) (by omega) (by omega)).mono ?_
    rintro e V8 ⟨rfl, hE8⟩
    rw [HCP.out]
    go_wp2_with fail
    refine (rMul_E (x := y) (y := z) hE8 (by simp) (by simp) (by omega) (by omega)).mono ?_
    rintro e V9 ⟨ii, rfl, iiN, iin, hE9, -⟩
    have iib : ii.n ≤ 12 := by rw [iin]; have h2 := HYZ.out; omega
    replace iiN := Lib.hid iiN
    replace iin := Lib.hid iin
    go_wp2_with fail
    refine (S.gcd _ _ x ii hE9 (by simp) (by simp) (by omega) (by omega)).mono ?_
    rintro e V10 ⟨j, rfl, jN, jn, hE10⟩
    rw [iiN.out, HW.out] at jN jn
    replace jN := Lib.hid jN
    replace jn := Lib.hid jn
    go_wp2_with fail
    refine (gSame_E (x := j) (y := g) hE10 (by simp) (by simp)).mono ?_
    rintro e V11 ⟨rfl, hE11⟩
    rw [same_of (show j.N = g.N by rw [jN.out, gN.out]) (by rw [jn.out, jN.out]) (by rw [gn.out, gN.out])]
    go_wp2_with fail
    refine (rAdd2_E (x := y) (y := x) hE11 (by simp) (by simp) rfl (by omega) (by omega)).mono ?_
    rintro e V12 ⟨l, rfl, lN, ln, hE12, -⟩
    have lb : l.n ≤ 7 := by rw [ln]; have h2 := HSL.out; omega
    replace lN := Lib.hid lN
    replace ln := Lib.hid ln
    go_wp2_with fail
    refine (S.gcd _ _ x l hE12 (by simp) (by simp) (by omega) (by omega)).mono ?_
    rintro e V13 ⟨m, rfl, mN, mn, hE13⟩
    rw [lN.out, Nat.gcd_add_self_right] at mN mn
    replace mN := Lib.hid mN
    replace mn := Lib.hid mn
    go_wp2_with fail
    refine (gSame_E (x := m) (y := g) hE13 (by simp) (by simp)).mono ?_
    rintro e V14 ⟨rfl, hE14⟩
    rw [same_of (show m.N = g.N by rw [mN.out, gN.out]) (by rw [mn.out, mN.out]) (by rw [gn.out, gN.out])]
    go_wp2_with fail
    refine (gall2_E (x := x) (y := y) S hE14 (by simp) (by simp) rfl (by omega) (by omega)).mono ?_
    rintro e V15 ⟨n, rfl, nN, nn, hE15⟩
    replace nN := Lib.hid nN
    replace nn := Lib.hid nn
    go_wp2_with fail
    refine (gSame_E (x := n) (y := g) hE15 (by simp) (by simp)).mono ?_
    rintro e V16 ⟨rfl, hE16⟩
    rw [same_of (show n.N = g.N by rw [nN.out, gN.out]) (by rw [nn.out, nN.out]) (by rw [gn.out, gN.out])]
    go_wp2_with fail
    refine (gall3_E (x := x) (y := y) (z := z) S hE16 (by simp) (by simp) (by simp) rfl (by omega) (by omega) (by omega)).mono ?_
    rintro e V17 ⟨aa, rfl, aaN, aan, hE17⟩
    replace aaN := Lib.hid aaN
    replace aan := Lib.hid aan
    go_wp2_with fail
    refine (S.gcd _ _ g z hE17 (by simp) (by simp) (by omega) (by omega)).mono ?_
    rintro e V18 ⟨bb, rfl, bbN, bbn, hE18⟩
    rw [gN.out] at bbN bbn
    replace bbN := Lib.hid bbN
    replace bbn := Lib.hid bbn
    go_wp2_with fail
    refine (gSame_E (x := aa) (y := bb) hE18 (by simp) (by simp)).mono ?_
    rintro e V19 ⟨rfl, hE19⟩
    rw [same_of (show aa.N = bb.N by rw [aaN.out, bbN.out]) (by rw [aan.out, aaN.out]) (by rw [bbn.out, bbN.out])]
    go_wp2_with fail
    refine (wakes4_E S hE19).mono ?_
    rintro e Vw ⟨rfl, hEw⟩
    go_wp2
    go_ret
    refine ⟨?_, hEw.1⟩
    first
    | rfl
    | (refine ret_bool ?_; simp; done)

set_option maxRecDepth 100000 in
set_option maxHeartbeats 4000000 in
theorem gdivides_spn (w : World) (S : GcdTold w) (x y z : Num) (hx : x.ok w w.heap.size) (hy : y.ok w w.heap.size) (hz : z.ok w w.heap.size) (bx : x.n ≤ 6) (by' : y.n ≤ 6) (bz : z.n ≤ 6) (h1 : x.N ≠ 0) (h3 : z.N ≠ 0) (h4 : coprB x.N z.N = false) :
    Calls Tryd.prog 4 #[.slice x.A x.n x.c, .slice y.A y.n y.c, .slice z.A z.n z.c] w fun e w' => e = .returned (.bool true) ∧ Below w.heap.size w w' := by
  have hE0 : Env w [x, y, z] w := Env.start (by simp; exact ⟨hx, hy, hz⟩)
  have HGL := Lib.hid (gcd_len hx.1.1 hy.1.1 bx by')
  have HXZ := Lib.hid (mul_len hx.1.1 hz.1.1)
  have HYZ := Lib.hid (mul_len hy.1.1 hz.1.1)
  have HSL := Lib.hid (lenL_add (lt_pow_of hy.1.1 by') (lt_pow_of hx.1.1 bx))
  have HGZ := Lib.hid (zeroE_pos (gcd_ne (N := x.N) (M := y.N) (.inl h1)))
  have HR1 := Lib.hid (rest_left x.N y.N (gcd_ne (N := x.N) (M := y.N) (.inl h1)))
  have HR2 := Lib.hid (rest_right x.N y.N (gcd_ne (N := x.N) (M := y.N) (.inl h1)))
  have HCP := Lib.hid h4
  have HX := Lib.hid (lenL_pos h1)
  have HZ := Lib.hid (lenL_pos h3)
  clear hx hy hz h1 h3 h4
  go_enter Tryd.func4, Tryd.ntmps4
  go_wp2_with fail
  all_goals
    refine (S.gcd _ _ x y hE0 (by simp) (by simp) (by omega) (by omega)).mono ?_
    rintro e V1 ⟨g, rfl, gN, gn, hE1⟩
    have gb : g.n ≤ 6 := by rw [gn]; have h2 := HGL.out; omega
    replace gN := Lib.hid gN
    replace gn := Lib.hid gn
    go_wp2_with fail
    refine (rTrim_E (x := x) hE1 (by simp)).mono ?_
    rintro e V2 ⟨t, rfl, tN, tn, hE2, -⟩
    have t0 : 0 < t.n := by rw [tn]; exact HX.out
    have t1 : ((t.n : Int) == 0) = false := by rw [beq_eq_false_iff_ne]; omega
    replace tN := Lib.hid tN
    replace tn := Lib.hid tn
    go_wp2_with fail
    refine (rDiv_E (x := x) (y := g) hE2 (by simp) (by simp) (by omega) (by omega)).mono ?_
    rintro e V3 ⟨q, r, rfl, qN, qn, rN, rn, hE3⟩
    rw [gN.out, HGZ.out]
    rw [gN.out, HR1.out] at rN rn
    have r0 : r.n = 0 := rn
    replace qN := Lib.hid qN
    replace qn := Lib.hid qn
    replace rN := Lib.hid rN
    replace rn := Lib.hid rn
    go_wp2_with fail
    refine (rDiv_E (x := y) (y := g) hE3 (by simp) (by simp) (by omega) (by omega)).mono ?_
    rintro e V4 ⟨p, s, rfl, pN, pn, sN, sn, hE4⟩
    rw [gN.out, HGZ.out]
    rw [gN.out, HR2.out] at sN sn
    have s0 : s.n = 0 := sn
    replace pN := Lib.hid pN
    replace pn := Lib.hid pn
    replace sN := Lib.hid sN
    replace sn := Lib.hid sn
    go_wp2_with fail
    refine (S.gcd _ _ y x hE4 (by simp) (by simp) (by omega) (by omega)).mono ?_
    rintro e V5 ⟨k, rfl, kN, kn, hE5⟩
    rw [Nat.gcd_comm] at kN kn
    replace kN := Lib.hid kN
    replace kn := Lib.hid kn
    go_wp2_with fail
    refine (gSame_E (x := g) (y := k) hE5 (by simp) (by simp)).mono ?_
    rintro e V6 ⟨rfl, hE6⟩
    rw [same_of (show g.N = k.N by rw [gN.out, kN.out]) (by rw [gn.out, gN.out]) (by rw [kn.out, kN.out])]
    go_wp2_with fail
    refine (rTrim_E (x := z) hE6 (by simp)).mono ?_
    rintro e V7 ⟨v, rfl, vN, vn, hE7, -⟩
    have v0 : 0 < v.n := by rw [vn]; exact HZ.out
    have v1 : ((v.n : Int) == 0) = false := by rw [beq_eq_false_iff_ne]; omega
    replace vN := Lib.hid vN
    replace vn := Lib.hid vn
    go_wp2_with fail
    refine (rMul_E (x := x) (y := z) hE7 (by simp) (by simp) (by omega) (by omega)).mono ?_
    rintro e V8 ⟨a, rfl, aN, an, hE8, -⟩
    have ab : a.n ≤ 12 := by rw [an]; have h2 := HXZ.out; omega
    replace aN := Lib.hid aN
    replace an := Lib.hid an
    go_wp2_with fail
    refine (rMul_E (x := y) (y := z) hE8 (by simp) (by simp) (by omega) (by omega)).mono ?_
    rintro e V9 ⟨b, rfl, bN, bn, hE9, -⟩
    have bb : b.n ≤ 12 := by rw [bn]; have h2 := HYZ.out; omega
    replace bN := Lib.hid bN
    replace bn := Lib.hid bn
    go_wp2_with fail
    refine (S.gcd _ _ a b hE9 (by simp) (by simp) (by omega) (by omega)).mono ?_
    rintro e V10 ⟨c, rfl, cN, cn, hE10⟩
    rw [aN.out, bN.out, Nat.gcd_mul_right] at cN cn
    replace cN := Lib.hid cN
    replace cn := Lib.hid cn
    go_wp2_with fail
    refine (rMul_E (x := g) (y := z) hE10 (by simp) (by simp) (by omega) (by omega)).mono ?_
    rintro e V11 ⟨d, rfl, dN, dn, hE11, -⟩
    rw [gN.out] at dN dn
    replace dN := Lib.hid dN
    replace dn := Lib.hid dn
    go_wp2_with fail
    refine (gSame_E (x := c) (y := d) hE11 (by simp) (by simp)).mono ?_
    rintro e V12 ⟨rfl, hE12⟩
    rw [same_of (show c.N = d.N by rw [cN.out, dN.out]) (by rw [cn.out, cN.out]) (by rw [dn.out, dN.out])]
    go_wp2_with fail
    refine (S.coprime _ _ x z hE12 (by simp) (by simp) (by omega) (by omega)).mono ?_
    rintro e V13 ⟨rfl, hE13⟩
    rw [HCP.out]
    go_wp2_with fail
    refine (rAdd2_E (x := y) (y := x) hE13 (by simp) (by simp) rfl (by omega) (by omega)).mono ?_
    rintro e V14 ⟨l, rfl, lN, ln, hE14, -⟩
    have lb : l.n ≤ 7 := by rw [ln]; have h2 := HSL.out; omega
    replace lN := Lib.hid lN
    replace ln := Lib.hid ln
    go_wp2_with fail
    refine (S.gcd _ _ x l hE14 (by simp) (by simp) (by omega) (by omega)).mono ?_
    rintro e V15 ⟨m, rfl, mN, mn, hE15⟩
    rw [lN.out, Nat.gcd_add_self_right] at mN mn
    replace mN := Lib.hid mN
    replace mn := Lib.hid mn
    go_wp2_with fail
    refine (gSame_E (x := m) (y := g) hE15 (by simp) (by simp)).mono ?_
    rintro e V16 ⟨rfl, hE16⟩
    rw [same_of (show m.N = g.N by rw [mN.out, gN.out]) (by rw [mn.out, mN.out]) (by rw [gn.out, gN.out])]
    go_wp2_with fail
    refine (gall2_E (x := x) (y := y) S hE16 (by simp) (by simp) rfl (by omega) (by omega)).mono ?_
    rintro e V17 ⟨n, rfl, nN, nn, hE17⟩
    replace nN := Lib.hid nN
    replace nn := Lib.hid nn
    go_wp2_with fail
    refine (gSame_E (x := n) (y := g) hE17 (by simp) (by simp)).mono ?_
    rintro e V18 ⟨rfl, hE18⟩
    rw [same_of (show n.N = g.N by rw [nN.out, gN.out]) (by rw [nn.out, nN.out]) (by rw [gn.out, gN.out])]
    go_wp2_with fail
    refine (gall3_E (x := x) (y := y) (z := z) S hE18 (by simp) (by simp) (by simp) rfl (by omega) (by omega) (by omega)).mono ?_
    rintro e V19 ⟨aa, rfl, aaN, aan, hE19⟩
    replace aaN := Lib.hid aaN
    replace aan := Lib.hid aan
    go_wp2_with fail
    refine (S.gcd _ _ g z hE19 (by simp) (by simp) (by omega) (by omega)).mono ?_
    rintro e V20 ⟨bb, rfl, bbN, bbn, hE20⟩
    rw [gN.out] at bbN bbn
    replace bbN := Lib.hid bbN
    replace bbn := Lib.hid bbn
    go_wp2_with fail
    refine (gSame_E (x := aa) (y := bb) hE20 (by simp) (by simp)).mono ?_
    rintro e V21 ⟨rfl, hE21⟩
    rw [same_of (show aa.N = bb.N by rw [aaN.out, bbN.out]) (by rw [aan.out, aaN.out]) (by rw [bbn.out, bbN.out])]
    go_wp2_with fail
    refine (wakes4_E S hE21).mono ?_
    rintro e Vw ⟨rfl, hEw⟩
    go_wp2
    go_ret
    refine ⟨?_, hEw.1⟩
    first
    | rfl
    | (refine ret_bool ?_; simp; done)

set_option maxRecDepth 100000 in
set_option maxHeartbeats 4000000 in
theorem gdivides_spc (w : World) (S : GcdTold w) (x y z : Num) (hx : x.ok w w.heap.size) (hy : y.ok w w.heap.size) (hz : z.ok w w.heap.size) (bx : x.n ≤ 6) (by' : y.n ≤ 6) (bz : z.n ≤ 6) (h1 : x.N ≠ 0) (h3 : z.N ≠ 0) (h4 : coprB x.N z.N = true) :
    Calls Tryd.prog 4 #[.slice x.A x.n x.c, .slice y.A y.n y.c, .slice z.A z.n z.c] w fun e w' => e = .returned (.bool true) ∧ Below w.heap.size w w' := by
  have hE0 : Env w [x, y, z] w := Env.start (by simp; exact ⟨hx, hy, hz⟩)
  have HGL := Lib.hid (gcd_len hx.1.1 hy.1.1 bx by')
  have HXZ := Lib.hid (mul_len hx.1.1 hz.1.1)
  have HYZ := Lib.hid (mul_len hy.1.1 hz.1.1)
  have HSL := Lib.hid (lenL_add (lt_pow_of hy.1.1 by') (lt_pow_of hx.1.1 bx))
  have HGZ := Lib.hid (zeroE_pos (gcd_ne (N := x.N) (M := y.N) (.inl h1)))
  have HR1 := Lib.hid (rest_left x.N y.N (gcd_ne (N := x.N) (M := y.N) (.inl h1)))
  have HR2 := Lib.hid (rest_right x.N y.N (gcd_ne (N := x.N) (M := y.N) (.inl h1)))
  have HCP := Lib.hid h4
  have HX := Lib.hid (lenL_pos h1)
  have HZ := Lib.hid (lenL_pos h3)
  have HW := Lib.hid (gcd_without (M := y.N) h4)
  clear hx hy hz h1 h3 h4
  go_enter Tryd.func4, Tryd.ntmps4
  go_wp2_with fail
  all_goals
    refine (S.gcd _ _ x y hE0 (by simp) (by simp) (by omega) (by omega)).mono ?_
    rintro e V1 ⟨g, rfl, gN, gn, hE1⟩
    have gb : g.n ≤ 6 := by rw [gn]; have h2 := HGL.out; omega
    replace gN := Lib.hid gN
    replace gn := Lib.hid gn
    go_wp2_with fail
    refine (rTrim_E (x := x) hE1 (by simp)).mono ?_
    rintro e V2 ⟨t, rfl, tN, tn, hE2, -⟩
    have t0 : 0 < t.n := by rw [tn]; exact HX.out
    have t1 : ((t.n : Int) == 0) = false := by rw [beq_eq_false_iff_ne]; omega
    replace tN := Lib.hid tN
    replace tn := Lib.hid tn
    go_wp2_with fail
    refine (rDiv_E (x := x) (y := g) hE2 (by simp) (by simp) (by omega) (by omega)).mono ?_
    rintro e V3 ⟨q, r, rfl, qN, qn, rN, rn, hE3⟩
    rw [gN.out, HGZ.out]
    rw [gN.out, HR1.out] at rN rn
    have r0 : r.n = 0 := rn
    replace qN := Lib.hid qN
    replace qn := Lib.hid qn
    replace rN := Lib.hid rN
    replace rn := Lib.hid rn
    go_wp2_with fail
    refine (rDiv_E (x := y) (y := g) hE3 (by simp) (by simp) (by omega) (by omega)).mono ?_
    rintro e V4 ⟨p, s, rfl, pN, pn, sN, sn, hE4⟩
    rw [gN.out, HGZ.out]
    rw [gN.out, HR2.out] at sN sn
    have s0 : s.n = 0 := sn
    replace pN := Lib.hid pN
    replace pn := Lib.hid pn
    replace sN := Lib.hid sN
    replace sn := Lib.hid sn
    go_wp2_with fail
    refine (S.gcd _ _ y x hE4 (by simp) (by simp) (by omega) (by omega)).mono ?_
    rintro e V5 ⟨k, rfl, kN, kn, hE5⟩
    rw [Nat.gcd_comm] at kN kn
    replace kN := Lib.hid kN
    replace kn := Lib.hid kn
    go_wp2_with fail
    refine (gSame_E (x := g) (y := k) hE5 (by simp) (by simp)).mono ?_
    rintro e V6 ⟨rfl, hE6⟩
    rw [same_of (show g.N = k.N by rw [gN.out, kN.out]) (by rw [gn.out, gN.out]) (by rw [kn.out, kN.out])]
    go_wp2_with fail
    refine (rTrim_E (x := z) hE6 (by simp)).mono ?_
    rintro e V7 ⟨v, rfl, vN, vn, hE7, -⟩
    have v0 : 0 < v.n := by rw [vn]; exact HZ.out
    have v1 : ((v.n : Int) == 0) = false := by rw [beq_eq_false_iff_ne]; omega
    replace vN := Lib.hid vN
    replace vn := Lib.hid vn
    go_wp2_with fail
    refine (rMul_E (x := x) (y := z) hE7 (by simp) (by simp) (by omega) (by omega)).mono ?_
    rintro e V8 ⟨a, rfl, aN, an, hE8, -⟩
    have ab : a.n ≤ 12 := by rw [an]; have h2 := HXZ.out; omega
    replace aN := Lib.hid aN
    replace an := Lib.hid an
    go_wp2_with fail
    refine (rMul_E (x := y) (y := z) hE8 (by simp) (by simp) (by omega) (by omega)).mono ?_
    rintro e V9 ⟨b, rfl, bN, bn, hE9, -⟩
    have bb : b.n ≤ 12 := by rw [bn]; have h2 := HYZ.out; omega
    replace bN := Lib.hid bN
    replace bn := Lib.hid bn
    go_wp2_with fail
    refine (S.gcd _ _ a b hE9 (by simp) (by simp) (by omega) (by omega)).mono ?_
    rintro e V10 ⟨c, rfl, cN, cn, hE10⟩
    rw [aN.out, bN.out, Nat.gcd_mul_right] at cN cn
    replace cN := Lib.hid cN
    replace cn := Lib.hid cn
    go_wp2_with fail
    refine (rMul_E (x := g) (y := z) hE10 (by simp) (by simp) (by omega) (by omega)).mono ?_
    rintro e V11 ⟨d, rfl, dN, dn, hE11, -⟩
    rw [gN.out] at dN dn
    replace dN := Lib.hid dN
    replace dn := Lib.hid dn
    go_wp2_with fail
    refine (gSame_E (x := c) (y := d) hE11 (by simp) (by simp)).mono ?_
    rintro e V12 ⟨rfl, hE12⟩
    rw [same_of (show c.N = d.N by rw [cN.out, dN.out]) (by rw [cn.out, cN.out]) (by rw [dn.out, dN.out])]
    go_wp2_with fail
    refine (S.coprime _ _ x z hE12 (by simp) (by simp) (by omega) (by omega)).mono ?_
    rintro e V13 ⟨rfl, hE13⟩
    rw [HCP.out]
    go_wp2_with fail
    refine (rMul_E (x := y) (y := z) hE13 (by simp) (by simp) (by omega) (by omega)).mono ?_
    rintro e V14 ⟨ii, rfl, iiN, iin, hE14, -⟩
    have iib : ii.n ≤ 12 := by rw [iin]; have h2 := HYZ.out; omega
    replace iiN := Lib.hid iiN
    replace iin := Lib.hid iin
    go_wp2_with fail
    refine (S.gcd _ _ x ii hE14 (by simp) (by simp) (by omega) (by omega)).mono ?_
    rintro e V15 ⟨j, rfl, jN, jn, hE15⟩
    rw [iiN.out, HW.out] at jN jn
    replace jN := Lib.hid jN
    replace jn := Lib.hid jn
    go_wp2_with fail
    refine (gSame_E (x := j) (y := g) hE15 (by simp) (by simp)).mono ?_
    rintro e V16 ⟨rfl, hE16⟩
    rw [same_of (show j.N = g.N by rw [jN.out, gN.out]) (by rw [jn.out, jN.out]) (by rw [gn.out, gN.out])]
    go_wp2_with fail
    refine (rAdd2_E (x := y) (y := x) hE16 (by simp) (by simp) rfl (by omega) (by omega)).mono ?_
    rintro e V17 ⟨l, rfl, lN, ln, hE17, -⟩
    have lb : l.n ≤ 7 := by rw [ln]; have h2 := HSL.out; omega
    replace lN := Lib.hid lN
    replace ln := Lib.hid ln
    go_wp2_with fail
    refine (S.gcd _ _ x l hE17 (by simp) (by simp) (by omega) (by omega)).mono ?_
    rintro e V18 ⟨m, rfl, mN, mn, hE18⟩
    rw [lN.out, Nat.gcd_add_self_right] at mN mn
    replace mN := Lib.hid mN
    replace mn := Lib.hid mn
    go_wp2_with fail
    refine (gSame_E (x := m) (y := g) hE18 (by simp) (by simp)).mono ?_
    rintro e V19 ⟨rfl, hE19⟩
    rw [same_of (show m.N = g.N by rw [mN.out, gN.out]) (by rw [mn.out, mN.out]) (by rw [gn.out, gN.out])]
    go_wp2_with fail
    refine (gall2_E (x := x) (y := y) S hE19 (by simp) (by simp) rfl (by omega) (by omega)).mono ?_
    rintro e V20 ⟨n, rfl, nN, nn, hE20⟩
    replace nN := Lib.hid nN
    replace nn := Lib.hid nn
    go_wp2_with fail
    refine (gSame_E (x := n) (y := g) hE20 (by simp) (by simp)).mono ?_
    rintro e V21 ⟨rfl, hE21⟩
    rw [same_of (show n.N = g.N by rw [nN.out, gN.out]) (by rw [nn.out, nN.out]) (by rw [gn.out, gN.out])]
    go_wp2_with fail
    refine (gall3_E (x := x) (y := y) (z := z) S hE21 (by simp) (by simp) (by simp) rfl (by omega) (by omega) (by omega)).mono ?_
    rintro e V22 ⟨aa, rfl, aaN, aan, hE22⟩
    replace aaN := Lib.hid aaN
    replace aan := Lib.hid aan
    go_wp2_with fail
    refine (S.gcd _ _ g z hE22 (by simp) (by simp) (by omega) (by omega)).mono ?_
    rintro e V23 ⟨bb, rfl, bbN, bbn, hE23⟩
    rw [gN.out] at bbN bbn
    replace bbN := Lib.hid bbN
    replace bbn := Lib.hid bbn
    go_wp2_with fail
    refine (gSame_E (x := aa) (y := bb) hE23 (by simp) (by simp)).mono ?_
    rintro e V24 ⟨rfl, hE24⟩
    rw [same_of (show aa.N = bb.N by rw [aaN.out, bbN.out]) (by rw [aan.out, aaN.out]) (by rw [bbn.out, bbN.out])]
    go_wp2_with fail
    refine (wakes4_E S hE24).mono ?_
    rintro e Vw ⟨rfl, hEw⟩
    go_wp2
    go_ret
    refine ⟨?_, hEw.1⟩
    first
    | rfl
    | (refine ret_bool ?_; simp; done)

end Go.Proofs.YtkijjcladecooaaDoor
