/- GcdDivides, over what the program's functions answer: it is a divisor of both; with a common factor more it is as often greater. -/
import Derived.Test.YtkijjcladecooaaDoorGcdReduces
namespace Go.Proofs.YtkijjcladecooaaDoor
open Go Go.ChangeShapes Go.WideShapes Go.ChangeAt Go.RowKit Go.Deep

theorem rest_left (N M : Nat) (h : Nat.gcd N M ≠ 0) : restN N (Nat.gcd N M) = 0 := by rw [restN_pos h, Nat.mod_eq_zero_of_dvd (Nat.gcd_dvd_left N M)]
theorem rest_right (N M : Nat) (h : Nat.gcd N M ≠ 0) : restN M (Nat.gcd N M) = 0 := by rw [restN_pos h, Nat.mod_eq_zero_of_dvd (Nat.gcd_dvd_right N M)]
theorem gcd_without {N M K : Nat} (h : coprB N K = true) : Nat.gcd N (M * K) = Nat.gcd N M := Nat.Coprime.gcd_mul_right_cancel_right M (Nat.Coprime.symm (coprB_iff.1 h))
section
variable {w W : World} {e : List Num} {x y z : Num}
theorem gall2_E {g : Nat} (S : GcdTold w) (h : Env w e W) (hx : x ∈ e) (hy : y ∈ e) (hg : W.heap.size = g) (bx : x.n ≤ 10000) (by' : y.n ≤ 10000) :
    Calls Tryd.prog 15 #[.slice (some ⟨g, 0, none⟩) 2 2] (W.alloc (.cells #[.slice x.A x.n x.c, .slice y.A y.n y.c] 23)) (TellsN w e (Nat.gcd x.N y.N)) := by
  subst hg
  have h1 := S.all _ e (some ⟨W.heap.size, 0, none⟩) 2 [x, y] (h.alloc _) (Rds.two (t := 23) (h.2 x hx) (h.2 y hy)) (by simp) (by simp [maxLen]) (by simp) (by simp; exact ⟨bx, by'⟩)
  have e : gcdN [x, y] = Nat.gcd x.N y.N := by simp [gcdN]
  rw [e] at h1
  exact h1
theorem gall3_E {g : Nat} (S : GcdTold w) (h : Env w e W) (hx : x ∈ e) (hy : y ∈ e) (hz : z ∈ e) (hg : W.heap.size = g) (bx : x.n ≤ 10000) (by' : y.n ≤ 10000) (bz : z.n ≤ 10000) :
    Calls Tryd.prog 15 #[.slice (some ⟨g, 0, none⟩) 3 3] (W.alloc (.cells #[.slice x.A x.n x.c, .slice y.A y.n y.c, .slice z.A z.n z.c] 23)) (TellsN w e (Nat.gcd (Nat.gcd x.N y.N) z.N)) := by
  subst hg
  have hR := row3 h hx hy hz
  have h1 := S.all _ e (some ⟨W.heap.size, 0, none⟩) 3 [x, y, z] (h.alloc (.cells #[.slice x.A x.n x.c, .slice y.A y.n y.c, .slice z.A z.n z.c] 23)) (by rw [World.size_alloc]; exact hR) (by simp) (by simp [maxLen]) (by simp) (by simp; exact ⟨bx, by', bz⟩)
  have e : gcdN [x, y, z] = Nat.gcd (Nat.gcd x.N y.N) z.N := by simp [gcdN]
  rw [e] at h1
  exact h1
end

set_option maxRecDepth 100000 in
set_option maxHeartbeats 4000000 in
theorem gdivides_long (w : World) (S : GcdTold w) (x y z : Num) (hx : x.ok w w.heap.size) (hy : y.ok w w.heap.size) (hz : z.ok w w.heap.size) (hl : ¬ (x.n ≤ 6 ∧ y.n ≤ 6 ∧ z.n ≤ 6)) :
    Calls Tryd.prog 4 #[.slice x.A x.n x.c, .slice y.A y.n y.c, .slice z.A z.n z.c] w fun e w' => e = .returned (.bool true) ∧ Below w.heap.size w w' := by
  have hE0 : Env w [x, y, z] w := Env.start (by simp; exact ⟨hx, hy, hz⟩)
  clear hx hy hz
  go_enter Tryd.func4, Tryd.ntmps4
  go_wp2_with fail
  all_goals
    refine (wakes4_E S hE0).mono ?_
    rintro e Vw ⟨rfl, hEw⟩
    go_wp2
    go_ret
    refine ⟨?_, hEw.1⟩
    first
    | rfl
    | (refine ret_bool ?_; simp; done)

set_option maxRecDepth 100000 in
set_option maxHeartbeats 4000000 in
theorem gdivides_nought (w : World) (S : GcdTold w) (x y z : Num) (hx : x.ok w w.heap.size) (hy : y.ok w w.heap.size) (hz : z.ok w w.heap.size) (bx : x.n ≤ 6) (by' : y.n ≤ 6) (bz : z.n ≤ 6) (h1 : x.N = 0) (h2 : y.N = 0) :
    Calls Tryd.prog 4 #[.slice x.A x.n x.c, .slice y.A y.n y.c, .slice z.A z.n z.c] w fun e w' => e = .returned (.bool true) ∧ Below w.heap.size w w' := by
  have hE0 : Env w [x, y, z] w := Env.start (by simp; exact ⟨hx, hy, hz⟩)
  have HGL := Lib.hid (gcd_len hx.1.1 hy.1.1 bx by')
  have HX := Lib.hid h1
  have HY := Lib.hid h2
  have HG0 := Lib.hid (show lenL (Nat.gcd x.N y.N) = 0 by rw [h1, h2]; rfl)
  clear hx hy hz h1 h2
  go_enter Tryd.func4, Tryd.ntmps4
  go_wp2_with fail
  all_goals
    refine (S.gcd _ _ x y hE0 (by simp) (by simp) (by omega) (by omega)).mono ?_
    rintro e V1 ⟨g, rfl, gN, gn, hE1⟩
    have g0 : g.n = 0 := by rw [gn]; exact HG0.out
    replace gN := Lib.hid gN
    replace gn := Lib.hid gn
    go_wp2_with fail
    refine (rTrim_E (x := x) hE1 (by simp)).mono ?_
    rintro e V2 ⟨t, rfl, tN, tn, hE2, -⟩
    rw [HX.out] at tn
    have t0 : t.n = 0 := tn
    replace tN := Lib.hid tN
    replace tn := Lib.hid tn
    go_wp2_with fail
    refine (rTrim_E (x := y) hE2 (by simp)).mono ?_
    rintro e V3 ⟨u, rfl, uN, un, hE3, -⟩
    rw [HY.out] at un
    have u0 : u.n = 0 := un
    replace uN := Lib.hid uN
    replace un := Lib.hid un
    go_wp2_with fail
    refine (wakes4_E S hE3).mono ?_
    rintro e Vw ⟨rfl, hEw⟩
    go_wp2
    go_ret
    refine ⟨?_, hEw.1⟩
    first
    | rfl
    | (refine ret_bool ?_; simp; done)

set_option maxRecDepth 100000 in
set_option maxHeartbeats 4000000 in
theorem gdivides_fzn (w : World) (S : GcdTold w) (x y z : Num) (hx : x.ok w w.heap.size) (hy : y.ok w w.heap.size) (hz : z.ok w w.heap.size) (bx : x.n ≤ 6) (by' : y.n ≤ 6) (bz : z.n ≤ 6) (h1 : x.N = 0) (h2 : y.N ≠ 0) (h3 : z.N = 0) (h4 : coprB x.N z.N = false) :
    Calls Tryd.prog 4 #[.slice x.A x.n x.c, .slice y.A y.n y.c, .slice z.A z.n z.c] w fun e w' => e = .returned (.bool true) ∧ Below w.heap.size w w' := by
  have hE0 : Env w [x, y, z] w := Env.start (by simp; exact ⟨hx, hy, hz⟩)
  have HGL := Lib.hid (gcd_len hx.1.1 hy.1.1 bx by')
  have HXZ := Lib.hid (mul_len hx.1.1 hz.1.1)
  have HYZ := Lib.hid (mul_len hy.1.1 hz.1.1)
  have HSL := Lib.hid (lenL_add (lt_pow_of hy.1.1 by') (lt_pow_of hx.1.1 bx))
  have HGZ := Lib.hid (zeroE_pos (gcd_ne (N := x.N) (M := y.N) (.inr h2)))
  have HR1 := Lib.hid (rest_left x.N y.N (gcd_ne (N := x.N) (M := y.N) (.inr h2)))
  have HR2 := Lib.hid (rest_right x.N y.N (gcd_ne (N := x.N) (M := y.N) (.inr h2)))
  have HCP := Lib.hid h4
  have HX := Lib.hid h1
  have HY := Lib.hid (lenL_pos h2)
  have HZ := Lib.hid h3
  clear hx hy hz h1 h2 h3 h4
  go_enter Tryd.func4, Tryd.ntmps4
  go_wp2_with fail
  all_goals
    refine (S.gcd _ _ x y hE0 (by simp) (by simp) (by omega) (by omega)).mono ?_
    rintro e V1 ⟨g, rfl, gN, gn, hE1⟩
    have gb : g.n ≤ 6 := by rw [gn]; have h2 := HGL.out; omega
    replace gN := Lib.hid gN
    replace gn := Lib.hid gn
    go_wp2_with fail
    refine (rTrim_E (x := x) hE1 (by simp)).mono ?_
    rintro e V2 ⟨t, rfl, tN, tn, hE2, -⟩
    rw [HX.out] at tn
    have t0 : t.n = 0 := tn
    replace tN := Lib.hid tN
    replace tn := Lib.hid tn
    go_wp2_with fail
    refine (rTrim_E (x := y) hE2 (by simp)).mono ?_
    rintro e V3 ⟨u, rfl, uN, un, hE3, -⟩
    have u0 : 0 < u.n := by rw [un]; exact HY.out
    have u1 : ((u.n : Int) == 0) = false := by rw [beq_eq_false_iff_ne]; omega
    replace uN := Lib.hid uN
    replace un := Lib.hid un
    go_wp2_with fail
    refine (rDiv_E (x := x) (y := g) hE3 (by simp) (by simp) (by omega) (by omega)).mono ?_
    rintro e V4 ⟨q, r, rfl, qN, qn, rN, rn, hE4⟩
    rw [gN.out, HGZ.out]
    rw [gN.out, HR1.out] at rN rn
    have r0 : r.n = 0 := rn
    replace qN := Lib.hid qN
    replace qn := Lib.hid qn
    replace rN := Lib.hid rN
    replace rn := Lib.hid rn
    go_wp2_with fail
    refine (rDiv_E (x := y) (y := g) hE4 (by simp) (by simp) (by omega) (by omega)).mono ?_
    rintro e V5 ⟨p, s, rfl, pN, pn, sN, sn, hE5⟩
    rw [gN.out, HGZ.out]
    rw [gN.out, HR2.out] at sN sn
    have s0 : s.n = 0 := sn
    replace pN := Lib.hid pN
    replace pn := Lib.hid pn
    replace sN := Lib.hid sN
    replace sn := Lib.hid sn
    go_wp2_with fail
    refine (S.gcd _ _ y x hE5 (by simp) (by simp) (by omega) (by omega)).mono ?_
    rintro e V6 ⟨k, rfl, kN, kn, hE6⟩
    rw [Nat.gcd_comm] at kN kn
    replace kN := Lib.hid kN
    replace kn := Lib.hid kn
    go_wp2_with fail
    refine (gSame_E (x := g) (y := k) hE6 (by simp) (by simp)).mono ?_
    rintro e V7 ⟨rfl, hE7⟩
    rw [same_of (show g.N = k.N by rw [gN.out, kN.out]) (by rw [gn.out, gN.out]) (by rw [kn.out, kN.out])]
    go_wp2_with fail
    refine (rTrim_E (x := z) hE7 (by simp)).mono ?_
    rintro e V8 ⟨v, rfl, vN, vn, hE8, -⟩
    rw [HZ.out] at vn
    have v0 : v.n = 0 := vn
    replace vN := Lib.hid vN
    replace vn := Lib.hid vn
    go_wp2_with fail
    refine (S.coprime _ _ x z hE8 (by simp) (by simp) (by omega) (by omega)).mono ?_
    rintro e V9 ⟨rfl, hE9⟩
    rw [HCP.out]
    go_wp2_with fail
    refine (rAdd2_E (x := y) (y := x) hE9 (by simp) (by simp) rfl (by omega) (by omega)).mono ?_
    rintro e V10 ⟨l, rfl, lN, ln, hE10, -⟩
    have lb : l.n ≤ 7 := by rw [ln]; have h2 := HSL.out; omega
    replace lN := Lib.hid lN
    replace ln := Lib.hid ln
    go_wp2_with fail
    refine (S.gcd _ _ x l hE10 (by simp) (by simp) (by omega) (by omega)).mono ?_
    rintro e V11 ⟨m, rfl, mN, mn, hE11⟩
    rw [lN.out, Nat.gcd_add_self_right] at mN mn
    replace mN := Lib.hid mN
    replace mn := Lib.hid mn
    go_wp2_with fail
    refine (gSame_E (x := m) (y := g) hE11 (by simp) (by simp)).mono ?_
    rintro e V12 ⟨rfl, hE12⟩
    rw [same_of (show m.N = g.N by rw [mN.out, gN.out]) (by rw [mn.out, mN.out]) (by rw [gn.out, gN.out])]
    go_wp2_with fail
    refine (gall2_E (x := x) (y := y) S hE12 (by simp) (by simp) rfl (by omega) (by omega)).mono ?_
    rintro e V13 ⟨n, rfl, nN, nn, hE13⟩
    replace nN := Lib.hid nN
    replace nn := Lib.hid nn
    go_wp2_with fail
    refine (gSame_E (x := n) (y := g) hE13 (by simp) (by simp)).mono ?_
    rintro e V14 ⟨rfl, hE14⟩
    rw [same_of (show n.N = g.N by rw [nN.out, gN.out]) (by rw [nn.out, nN.out]) (by rw [gn.out, gN.out])]
    go_wp2_with fail
    refine (gall3_E (x := x) (y := y) (z := z) S hE14 (by simp) (by simp) (by simp) rfl (by omega) (by omega) (by omega)).mono ?_
    rintro e V15 ⟨aa, rfl, aaN, aan, hE15⟩
    replace aaN := Lib.hid aaN
    replace aan := Lib.hid aan
    go_wp2_with fail
    refine (S.gcd _ _ g z hE15 (by simp) (by simp) (by omega) (by omega)).mono ?_
    rintro e V16 ⟨bb, rfl, bbN, bbn, hE16⟩
    rw [gN.out] at bbN bbn
    replace bbN := Lib.hid bbN
    replace bbn := Lib.hid bbn
    go_wp2_with fail
    refine (gSame_E (x := aa) (y := bb) hE16 (by simp) (by simp)).mono ?_
    rintro e V17 ⟨rfl, hE17⟩
    rw [same_of (show aa.N = bb.N by rw [aaN.out, bbN.out]) (by rw [aan.out, aaN.out]) (by rw [bbn.out, bbN.out])]
    go_wp2_with fail
    refine (wakes4_E S hE17).mono ?_
    rintro e Vw ⟨rfl, hEw⟩
    go_wp2
    go_ret
    refine ⟨?_, hEw.1⟩
    first
    | rfl
    | (refine ret_bool ?_; simp; done)

set_option maxRecDepth 100000 in
set_option maxHeartbeats 4000000 in
theorem gdivides_fzc (w : World) (S : GcdTold w) (x y z : Num) (hx : x.ok w w.heap.size) (hy : y.ok w w.heap.size) (hz : z.ok w w.heap.size) (bx : x.n ≤ 6) (by' : y.n ≤ 6) (bz : z.n ≤ 6) (h1 : x.N = 0) (h2 : y.N ≠ 0) (h3 : z.N = 0) (h4 : coprB x.N z.N = true) :
    Calls Tryd.prog 4 #[.slice x.A x.n x.c, .slice y.A y.n y.c, .slice z.A z.n z.c] w fun e w' => e = .returned (.bool true) ∧ Below w.heap.size w w' := by
  have hE0 : Env w [x, y, z] w := Env.start (by simp; exact ⟨hx, hy, hz⟩)
  have HGL := Lib.hid (gcd_len hx.1.1 hy.1.1 bx by')
  have HXZ := Lib.hid (mul_len hx.1.1 hz.1.1)
  have HYZ := Lib.hid (mul_len hy.1.1 hz.1.1)
  have HSL := Lib.hid (lenL_add (lt_pow_of hy.1.1 by') (lt_pow_of hx.1.1 bx))
  have HGZ := Lib.hid (zeroE_pos (gcd_ne (N := x.N) (M := y.N) (.inr h2)))
  have HR1 := Lib.hid (rest_left x.N y.N (gcd_ne (N := x.N) (M := y.N) (.inr h2)))
  have HR2 := Lib.hid (rest_right x.N y.N (gcd_ne (N := x.N) (M := y.N) (.inr h2)))
  have HCP := Lib.hid h4
  have HX := Lib.hid h1
  have HY := Lib.hid (lenL_pos h2)
  have HZ := Lib.hid h3
  have HW := Lib.hid (gcd_without (M := y.N) h4)
  clear hx hy hz h1 h2 h3 h4
  go_enter Tryd.func4, Tryd.ntmps4
  go_wp2_with fail
  all_goals
    refine (S.gcd _ _ x y hE0 (by simp) (by simp) (by omega) (by omega)).mono ?_
    rintro e V1 ⟨g, rfl, gN, gn, hE1⟩
    have gb : g.n ≤ 6 := by rw [gn]; have h2 := HGL.out; omega
    replace gN := Lib.hid gN
    replace gn := Lib.hid gn
    go_wp2_with fail
    refine (rTrim_E (x := x) hE1 (by simp)).mono ?_
    rintro e V2 ⟨t, rfl, tN, tn, hE2, -⟩
    rw [HX.out] at tn
    have t0 : t.n = 0 := tn
    replace tN := Lib.hid tN
    replace tn := Lib.hid tn
    go_wp2_with fail
    refine (rTrim_E (x := y) hE2 (by simp)).mono ?_
    rintro e V3 ⟨u, rfl, uN, un, hE3, -⟩
    have u0 : 0 < u.n := by rw [un]; exact HY.out
    have u1 : ((u.n : Int) == 0) = false := by rw [beq_eq_false_iff_ne]; omega
    replace uN := Lib.hid uN
    replace un := Lib.hid un
    go_wp2_with fail
    refine (rDiv_E (x := x) (y := g) hE3 (by simp) (by simp) (by omega) (by omega)).mono ?_
    rintro e V4 ⟨q, r, rfl, qN, qn, rN, rn, hE4⟩
    rw [gN.out, HGZ.out]
    rw [gN.out, HR1.out] at rN rn
    have r0 : r.n = 0 := rn
    replace qN := Lib.hid qN
    replace qn := Lib.hid qn
    replace rN := Lib.hid rN
    replace rn := Lib.hid rn
    go_wp2_with fail
    refine (rDiv_E (x := y) (y := g) hE4 (by simp) (by simp) (by omega) (by omega)).mono ?_
    rintro e V5 ⟨p, s, rfl, pN, pn, sN, sn, hE5⟩
    rw [gN.out, HGZ.out]
    rw [gN.out, HR2.out] at sN sn
    have s0 : s.n = 0 := sn
    replace pN := Lib.hid pN
    replace pn := Lib.hid pn
    replace sN := Lib.hid sN
    replace sn := Lib.hid sn
    go_wp2_with fail
    refine (S.gcd _ _ y x hE5 (by simp) (by simp) (by omega) (by omega)).mono ?_
    rintro e V6 ⟨k, rfl, kN, kn, hE6⟩
    rw [Nat.gcd_comm] at kN kn
    replace kN := Lib.hid kN
    replace kn := Lib.hid kn
    go_wp2_with fail
    refine (gSame_E (x := g) (y := k) hE6 (by simp) (by simp)).mono ?_
    rintro e V7 ⟨rfl, hE7⟩
    rw [same_of (show g.N = k.N by rw [gN.out, kN.out]) (by rw [gn.out, gN.out]) (by rw [kn.out, kN.out])]
    go_wp2_with fail
    refine (rTrim_E (x := z) hE7 (by simp)).mono ?_
    rintro e V8 ⟨v, rfl, vN, vn, hE8, -⟩
    rw [HZ.out] at vn
    have v0 : v.n = 0 := vn
    replace vN := Lib.hid vN
    replace vn := Lib.hid vn
    go_wp2_with fail
    refine (S.coprime _ _ x z hE8 (by simp) (by simp) (by omega) (by omega)).mono ?_
    rintro e V9 ⟨rfl, hE9⟩
    rw [HCP.out]
    go_wp2_with fail
    refine (rMul_E (x := y) (y := z) hE9 (by simp) (by simp) (by omega) (by omega)).mono ?_
    rintro e V10 ⟨ii, rfl, iiN, iin, hE10, -⟩
    have iib : ii.n ≤ 12 := by rw [iin]; have h2 := HYZ.out; omega
    replace iiN := Lib.hid iiN
    replace iin := Lib.hid iin
    go_wp2_with fail
    refine (S.gcd _ _ x ii hE10 (by simp) (by simp) (by omega) (by omega)).mono ?_
    rintro e V11 ⟨j, rfl, jN, jn, hE11⟩
    rw [iiN.out, HW.out] at jN jn
    replace jN := Lib.hid jN
    replace jn := Lib.hid jn
    go_wp2_with fail
    refine (gSame_E (x := j) (y := g) hE11 (by simp) (by simp)).mono ?_
    rintro e V12 ⟨rfl, hE12⟩
    rw [same_of (show j.N = g.N by rw [jN.out, gN.out]) (by rw [jn.out, jN.out]) (by rw [gn.out, gN.out])]
    go_wp2_with fail
    refine (rAdd2_E (x := y) (y := x) hE12 (by simp) (by simp) rfl (by omega) (by omega)).mono ?_
    rintro e V13 ⟨l, rfl, lN, ln, hE13, -⟩
    have lb : l.n ≤ 7 := by rw [ln]; have h2 := HSL.out; omega
    replace lN := Lib.hid lN
    replace ln := Lib.hid ln
    go_wp2_with fail
    refine (S.gcd _ _ x l hE13 (by simp) (by simp) (by omega) (by omega)).mono ?_
    rintro e V14 ⟨m, rfl, mN, mn, hE14⟩
    rw [lN.out, Nat.gcd_add_self_right] at mN mn
    replace mN := Lib.hid mN
    replace mn := Lib.hid mn
    go_wp2_with fail
    refine (gSame_E (x := m) (y := g) hE14 (by simp) (by simp)).mono ?_
    rintro e V15 ⟨rfl, hE15⟩
    rw [same_of (show m.N = g.N by rw [mN.out, gN.out]) (by rw [mn.out, mN.out]) (by rw [gn.out, gN.out])]
    go_wp2_with fail
    refine (gall2_E (x := x) (y := y) S hE15 (by simp) (by simp) rfl (by omega) (by omega)).mono ?_
    rintro e V16 ⟨n, rfl, nN, nn, hE16⟩
    replace nN := Lib.hid nN
    replace nn := Lib.hid nn
    go_wp2_with fail
    refine (gSame_E (x := n) (y := g) hE16 (by simp) (by simp)).mono ?_
    rintro e V17 ⟨rfl, hE17⟩
    rw [same_of (show n.N = g.N by rw [nN.out, gN.out]) (by rw [nn.out, nN.out]) (by rw [gn.out, gN.out])]
    go_wp2_with fail
    refine (gall3_E (x := x) (y := y) (z := z) S hE17 (by simp) (by simp) (by simp) rfl (by omega) (by omega) (by omega)).mono ?_
    rintro e V18 ⟨aa, rfl, aaN, aan, hE18⟩
    replace aaN := Lib.hid aaN
    replace aan := Lib.hid aan
    go_wp2_with fail
    refine (S.gcd _ _ g z hE18 (by simp) (by simp) (by omega) (by omega)).mono ?_
    rintro e V19 ⟨bb, rfl, bbN, bbn, hE19⟩
    rw [gN.out] at bbN bbn
    replace bbN := Lib.hid bbN
    replace bbn := Lib.hid bbn
    go_wp2_with fail
    refine (gSame_E (x := aa) (y := bb) hE19 (by simp) (by simp)).mono ?_
    rintro e V20 ⟨rfl, hE20⟩
    rw [same_of (show aa.N = bb.N by rw [aaN.out, bbN.out]) (by rw [aan.out, aaN.out]) (by rw [bbn.out, bbN.out])]
    go_wp2_with fail
    refine (wakes4_E S hE20).mono ?_
    rintro e Vw ⟨rfl, hEw⟩
    go_wp2
    go_ret
    refine ⟨?_, hEw.1⟩
    first
    | rfl
    | (refine ret_bool ?_; simp; done)

set_option maxRecDepth 100000 in
set_option maxHeartbeats 4000000 in
theorem gdivides_fpn (w : World) (S : GcdTold w) (x y z : Num) (hx : x.ok w w.heap.size) (hy : y.ok w w.heap.size) (hz : z.ok w w.heap.size) (bx : x.n ≤ 6) (by' : y.n ≤ 6) (bz : z.n ≤ 6) (h1 : x.N = 0) (h2 : y.N ≠ 0) (h3 : z.N ≠ 0) (h4 : coprB x.N z.N = false) :
    Calls Tryd.prog 4 #[.slice x.A x.n x.c, .slice y.A y.n y.c, .slice z.A z.n z.c] w fun e w' => e = .returned (.bool true) ∧ Below w.heap.size w w' := by
  have hE0 : Env w [x, y, z] w := Env.start (by simp; exact ⟨hx, hy, hz⟩)
  have HGL := Lib.hid (gcd_len hx.1.1 hy.1.1 bx by')
  have HXZ := Lib.hid (mul_len hx.1.1 hz.1.1)
  have HYZ := Lib.hid (mul_len hy.1.1 hz.1.1)
  have HSL := Lib.hid (lenL_add (lt_pow_of hy.1.1 by') (lt_pow_of hx.1.1 bx))
  have HGZ := Lib.hid (zeroE_pos (gcd_ne (N := x.N) (M := y.N) (.inr h2)))
  have HR1 := Lib.hid (rest_left x.N y.N (gcd_ne (N := x.N) (M := y.N) (.inr h2)))
  have HR2 := Lib.hid (rest_right x.N y.N (gcd_ne (N := x.N) (M := y.N) (.inr h2)))
  have HCP := Lib.hid h4
  have HX := Lib.hid h1
  have HY := Lib.hid (lenL_pos h2)
  have HZ := Lib.hid (lenL_pos h3)
  clear hx hy hz h1 h2 h3 h4
  go_enter Tryd.func4, Tryd.ntmps4
  go_wp2_with fail
  all_goals
    refine (S.gcd _ _ x y hE0 (by simp) (by simp) (by omega) (by omega)).mono ?_
    rintro e V1 ⟨g, rfl, gN, gn, hE1⟩
    have gb : g.n ≤ 6 := by rw [gn]; have h2 := HGL.out; omega
    replace gN := Lib.hid gN
    replace gn := Lib.hid gn
    go_wp2_with fail
    refine (rTrim_E (x := x) hE1 (by simp)).mono ?_
    rintro e V2 ⟨t, rfl, tN, tn, hE2, -⟩
    rw [HX.out] at tn
    have t0 : t.n = 0 := tn
    replace tN := Lib.hid tN
    replace tn := Lib.hid tn
    go_wp2_with fail
    refine (rTrim_E (x := y) hE2 (by simp)).mono ?_
    rintro e V3 ⟨u, rfl, uN, un, hE3, -⟩
    have u0 : 0 < u.n := by rw [un]; exact HY.out
    have u1 : ((u.n : Int) == 0) = false := by rw [beq_eq_false_iff_ne]; omega
    replace uN := Lib.hid uN
    replace un := Lib.hid un
    go_wp2_with fail
    refine (rDiv_E (x := x) (y := g) hE3 (by simp) (by simp) (by omega) (by omega)).mono ?_
    rintro e V4 ⟨q, r, rfl, qN, qn, rN, rn, hE4⟩
    rw [gN.out, HGZ.out]
    rw [gN.out, HR1.out] at rN rn
    have r0 : r.n = 0 := rn
    replace qN := Lib.hid qN
    replace qn := Lib.hid qn
    replace rN := Lib.hid rN
    replace rn := Lib.hid rn
    go_wp2_with fail
    refine (rDiv_E (x := y) (y := g) hE4 (by simp) (by simp) (by omega) (by omega)).mono ?_
    rintro e V5 ⟨p, s, rfl, pN, pn, sN, sn, hE5⟩
    rw [gN.out, HGZ.out]
    rw [gN.out, HR2.out] at sN sn
    have s0 : s.n = 0 := sn
    replace pN := Lib.hid pN
    replace pn := Lib.hid pn
    replace sN := Lib.hid sN
    replace sn := Lib.hid sn
    go_wp2_with fail
    refine (S.gcd _ _ y x hE5 (by simp) (by simp) (by omega) (by omega)).mono ?_
    rintro e V6 ⟨k, rfl, kN, kn, hE6⟩
    rw [Nat.gcd_comm] at kN kn
    replace kN := Lib.hid kN
    replace kn := Lib.hid kn
    go_wp2_with fail
    refine (gSame_E (x := g) (y := k) hE6 (by simp) (by simp)).mono ?_
    rintro e V7 ⟨rfl, hE7⟩
    rw [same_of (show g.N = k.N by rw [gN.out, kN.out]) (by rw [gn.out, gN.out]) (by rw [kn.out, kN.out])]
    go_wp2_with fail
    refine (rTrim_E (x := z) hE7 (by simp)).mono ?_
    rintro e V8 ⟨v, rfl, vN, vn, hE8, -⟩
    have v0 : 0 < v.n := by rw [vn]; exact HZ.out
    have v1 : ((v.n : Int) == 0) = false := by rw [beq_eq_false_iff_ne]; omega
    replace vN := Lib.hid vN
    replace vn := Lib.hid vn
    go_wp2_with fail
    refine (rMul_E (x := x) (y := z) hE8 (by simp) (by simp) (by omega) (by omega)).mono ?_
    rintro e V9 ⟨a, rfl, aN, an, hE9, -⟩
    have ab : a.n ≤ 12 := by rw [an]; have h2 := HXZ.out; omega
    replace aN := Lib.hid aN
    replace an := Lib.hid an
    go_wp2_with fail
    refine (rMul_E (x := y) (y := z) hE9 (by simp) (by simp) (by omega) (by omega)).mono ?_
    rintro e V10 ⟨b, rfl, bN, bn, hE10, -⟩
    have bb : b.n ≤ 12 := by rw [bn]; have h2 := HYZ.out; omega
    replace bN := Lib.hid bN
    replace bn := Lib.hid bn
    go_wp2_with fail
    refine (S.gcd _ _ a b hE10 (by simp) (by simp) (by omega) (by omega)).mono ?_
    rintro e V11 ⟨c, rfl, cN, cn, hE11⟩
    rw [aN.out, bN.out, Nat.gcd_mul_right] at cN cn
    replace cN := Lib.hid cN
    replace cn := Lib.hid cn
    go_wp2_with fail
    refine (rMul_E (x := g) (y := z) hE11 (by simp) (by simp) (by omega) (by omega)).mono ?_
    rintro e V12 ⟨d, rfl, dN, dn, hE12, -⟩
    rw [gN.out] at dN dn
    replace dN := Lib.hid dN
    replace dn := Lib.hid dn
    go_wp2_with fail
    refine (gSame_E (x := c) (y := d) hE12 (by simp) (by simp)).mono ?_
    rintro e V13 ⟨rfl, hE13⟩
    rw [same_of (show c.N = d.N by rw [cN.out, dN.out]) (by rw [cn.out, cN.out]) (by rw [dn.out, dN.out])]
    go_wp2_with fail
    refine (S.coprime _ _ x z hE13 (by simp) (by simp) (by omega) (by omega)).mono ?_
    rintro e V14 ⟨rfl, hE14⟩
    rw [HCP.out]
    go_wp2_with fail
    refine (rAdd2_E (x := y) (y := x) hE14 (by simp) (by simp) rfl (by omega) (by omega)).mono ?_
    rintro e V15 ⟨l, rfl, lN, ln, hE15, -⟩
    have lb : l.n ≤ 7 := by rw [ln]; have h2 := HSL.out; omega
    replace lN := Lib.hid lN
    replace ln := Lib.hid ln
    go_wp2_with fail
    refine (S.gcd _ _ x l hE15 (by simp) (by simp) (by omega) (by omega)).mono ?_
    rintro e V16 ⟨m, rfl, mN, mn, hE16⟩
    rw [lN.out, Nat.gcd_add_self_right] at mN mn
    replace mN := Lib.hid mN
    replace mn := Lib.hid mn
    go_wp2_with fail
    refine (gSame_E (x := m) (y := g) hE16 (by simp) (by simp)).mono ?_
    rintro e V17 ⟨rfl, hE17⟩
    rw [same_of (show m.N = g.N by rw [mN.out, gN.out]) (by rw [mn.out, mN.out]) (by rw [gn.out, gN.out])]
    go_wp2_with fail
    refine (gall2_E (x := x) (y := y) S hE17 (by simp) (by simp) rfl (by omega) (by omega)).mono ?_
    rintro e V18 ⟨n, rfl, nN, nn, hE18⟩
    replace nN := Lib.hid nN
    replace nn := Lib.hid nn
    go_wp2_with fail
    refine (gSame_E (x := n) (y := g) hE18 (by simp) (by simp)).mono ?_
    rintro e V19 ⟨rfl, hE19⟩
    rw [same_of (show n.N = g.N by rw [nN.out, gN.out]) (by rw [nn.out, nN.out]) (by rw [gn.out, gN.out])]
    go_wp2_with fail
    refine (gall3_E (x := x) (y := y) (z := z) S hE19 (by simp) (by simp) (by simp) rfl (by omega) (by omega) (by omega)).mono ?_
    rintro e V20 ⟨aa, rfl, aaN, aan, hE20⟩
    replace aaN := Lib.hid aaN
    replace aan := Lib.hid aan
    go_wp2_with fail
    refine (S.gcd _ _ g z hE20 (by simp) (by simp) (by omega) (by omega)).mono ?_
    rintro e V21 ⟨bb, rfl, bbN, bbn, hE21⟩
    rw [gN.out] at bbN bbn
    replace bbN := Lib.hid bbN
    replace bbn := Lib.hid bbn
    go_wp2_with fail
    refine (gSame_E (x := aa) (y := bb) hE21 (by simp) (by simp)).mono ?_
    rintro e V22 ⟨rfl, hE22⟩
    rw [same_of (show aa.N = bb.N by rw [aaN.out, bbN.out]) (by rw [aan.out, aaN.out]) (by rw [bbn.out, bbN.out])]
    go_wp2_with fail
    refine (wakes4_E S hE22).mono ?_
    rintro e Vw ⟨rfl, hEw⟩
    go_wp2
    go_ret
    refine ⟨?_, hEw.1⟩
    first
    | rfl
    | (refine ret_bool ?_; simp; done)

set_option maxRecDepth 100000 in
set_option maxHeartbeats 4000000 in
theorem gdivides_fpc (w : World) (S : GcdTold w) (x y z : Num) (hx : x.ok w w.heap.size) (hy : y.ok w w.heap.size) (hz : z.ok w w.heap.size) (bx : x.n ≤ 6) (by' : y.n ≤ 6) (bz : z.n ≤ 6) (h1 : x.N = 0) (h2 : y.N ≠ 0) (h3 : z.N ≠ 0) (h4 : coprB x.N z.N = true) :
    Calls Tryd.prog 4 #[.slice x.A x.n x.c, .slice y.A y.n y.c, .slice z.A z.n z.c] w fun e w' => e = .returned (.bool true) ∧ Below w.heap.size w w' := by
  have hE0 : Env w [x, y, z] w := Env.start (by simp; exact ⟨hx, hy, hz⟩)
  have HGL := Lib.hid (gcd_len hx.1.1 hy.1.1 bx by')
  have HXZ := Lib.hid (mul_len hx.1.1 hz.1.1)
  have HYZ := Lib.hid (mul_len hy.1.1 hz.1.1)
  have HSL := Lib.hid (lenL_add (lt_pow_of hy.1.1 by') (lt_pow_of hx.1.1 bx))
  have HGZ := Lib.hid (zeroE_pos (gcd_ne (N := x.N) (M := y.N) (.inr h2)))
  have HR1 := Lib.hid (rest_left x.N y.N (gcd_ne (N := x.N) (M := y.N) (.inr h2)))
  have HR2 := Lib.hid (rest_right x.N y.N (gcd_ne (N := x.N) (M := y.N) (.inr h2)))
  have HCP := Lib.hid h4
  have HX := Lib.hid h1
  have HY := Lib.hid (lenL_pos h2)
  have HZ := Lib.hid (lenL_pos h3)
  have HW := Lib.hid (gcd_without (M := y.N) h4)
  clear hx hy hz h1 h2 h3 h4
  go_enter Tryd.func4, Tryd.ntmps4
  go_wp2_with fail
  all_goals
    refine (S.gcd _ _ x y hE0 (by simp) (by simp) (by omega) (by omega)).mono ?_
    rintro e V1 ⟨g, rfl, gN, gn, hE1⟩
    have gb : g.n ≤ 6 := by rw [gn]; have h2 := HGL.out; omega
    replace gN := Lib.hid gN
    replace gn := Lib.hid gn
    go_wp2_with fail
    refine (rTrim_E (x := x) hE1 (by simp)).mono ?_
    rintro e V2 ⟨t, rfl, tN, tn, hE2, -⟩
    rw [HX.out] at tn
    have t0 : t.n = 0 := tn
    replace tN := Lib.hid tN
    replace tn := Lib.hid tn
    go_wp2_with fail
    refine (rTrim_E (x := y) hE2 (by simp)).mono ?_
    rintro e V3 ⟨u, rfl, uN, un, hE3, -⟩
    have u0 : 0 < u.n := by rw [un]; exact HY.out
    have u1 : ((u.n : Int) == 0) = false := by rw [beq_eq_false_iff_ne]; omega
    replace uN := Lib.hid uN
    replace un := Lib.hid un
    go_wp2_with fail
    refine (rDiv_E (x := x) (y := g) hE3 (by simp) (by simp) (by omega) (by omega)).mono ?_
    rintro e V4 ⟨q, r, rfl, qN, qn, rN, rn, hE4⟩
    rw [gN.out, HGZ.out]
    rw [gN.out, HR1.out] at rN rn
    have r0 : r.n = 0 := rn
    replace qN := Lib.hid qN
    replace qn := Lib.hid qn
    replace rN := Lib.hid rN
    replace rn := Lib.hid rn
    go_wp2_with fail
    refine (rDiv_E (x := y) (y := g) hE4 (by simp) (by simp) (by omega) (by omega)).mono ?_
    rintro e V5 ⟨p, s, rfl, pN, pn, sN, sn, hE5⟩
    rw [gN.out, HGZ.out]
    rw [gN.out, HR2.out] at sN sn
    have s0 : s.n = 0 := sn
    replace pN := Lib.hid pN
    replace pn := Lib.hid pn
    replace sN := Lib.hid sN
    replace sn := Lib.hid sn
    go_wp2_with fail
    refine (S.gcd _ _ y x hE5 (by simp) (by simp) (by omega) (by omega)).mono ?_
    rintro e V6 ⟨k, rfl, kN, kn, hE6⟩
    rw [Nat.gcd_comm] at kN kn
    replace kN := Lib.hid kN
    replace kn := Lib.hid kn
    go_wp2_with fail
    refine (gSame_E (x := g) (y := k) hE6 (by simp) (by simp)).mono ?_
    rintro e V7 ⟨rfl, hE7⟩
    rw [same_of (show g.N = k.N by rw [gN.out, kN.out]) (by rw [gn.out, gN.out]) (by rw [kn.out, kN.out])]
    go_wp2_with fail
    refine (rTrim_E (x := z) hE7 (by simp)).mono ?_
    rintro e V8 ⟨v, rfl, vN, vn, hE8, -⟩
    have v0 : 0 < v.n := by rw [vn]; exact HZ.out
    have v1 : ((v.n : Int) == 0) = false := by rw [beq_eq_false_iff_ne]; omega
    replace vN := Lib.hid vN
    replace vn := Lib.hid vn
    go_wp2_with fail
    refine (rMul_E (x := x) (y := z) hE8 (by simp) (by simp) (by omega) (by omega)).mono ?_
    rintro e V9 ⟨a, rfl, aN, an, hE9, -⟩
    have ab : a.n ≤ 12 := by rw [an]; have h2 := HXZ.out; omega
    replace aN := Lib.hid aN
    replace an := Lib.hid an
    go_wp2_with fail
    refine (rMul_E (x := y) (y := z) hE9 (by simp) (by simp) (by omega) (by omega)).mono ?_
    rintro e V10 ⟨b, rfl, bN, bn, hE10, -⟩
    have bb : b.n ≤ 12 := by rw [bn]; have h2 := HYZ.out; omega
    replace bN := Lib.hid bN
    replace bn := Lib.hid bn
    go_wp2_with fail
    refine (S.gcd _ _ a b hE10 (by simp) (by simp) (by omega) (by omega)).mono ?_
    rintro e V11 ⟨c, rfl, cN, cn, hE11⟩
    rw [aN.out, bN.out, Nat.gcd_mul_right] at cN cn
    replace cN := Lib.hid cN
    replace cn := Lib.hid cn
    go_wp2_with fail
    refine (rMul_E (x := g) (y := z) hE11 (by simp) (by simp) (by omega) (by omega)).mono ?_
    rintro e V12 ⟨d, rfl, dN, dn, hE12, -⟩
    rw [gN.out] at dN dn
    replace dN := Lib.hid dN
    replace dn := Lib.hid dn
    go_wp2_with fail
    refine (gSame_E (x := c) (y := d) hE12 (by simp) (by simp)).mono ?_
    rintro e V13 ⟨rfl, hE13⟩
    rw [same_of (show c.N = d.N by rw [cN.out, dN.out]) (by rw [cn.out, cN.out]) (by rw [dn.out, dN.out])]
    go_wp2_with fail
    refine (S.coprime _ _ x z hE13 (by simp) (by simp) (by omega) (by omega)).mono ?_
    rintro e V14 ⟨rfl, hE14⟩
    rw [HCP.out]
    go_wp2_with fail
    refine (rMul_E (x := y) (y := z) hE14 (by simp) (by simp) (by omega) (by omega)).mono ?_
    rintro e V15 ⟨ii, rfl, iiN, iin, hE15, -⟩
    have iib : ii.n ≤ 12 := by rw [iin]; have h2 := HYZ.out; omega
    replace iiN := Lib.hid iiN
    replace iin := Lib.hid iin
    go_wp2_with fail
    refine (S.gcd _ _ x ii hE15 (by simp) (by simp) (by omega) (by omega)).mono ?_
    rintro e V16 ⟨j, rfl, jN, jn, hE16⟩
    rw [iiN.out, HW.out] at jN jn
    replace jN := Lib.hid jN
    replace jn := Lib.hid jn
    go_wp2_with fail
    refine (gSame_E (x := j) (y := g) hE16 (by simp) (by simp)).mono ?_
    rintro e V17 ⟨rfl, hE17⟩
    rw [same_of (show j.N = g.N by rw [jN.out, gN.out]) (by rw [jn.out, jN.out]) (by rw [gn.out, gN.out])]
    go_wp2_with fail
    refine (rAdd2_E (x := y) (y := x) hE17 (by simp) (by simp) rfl (by omega) (by omega)).mono ?_
    rintro e V18 ⟨l, rfl, lN, ln, hE18, -⟩
    have lb : l.n ≤ 7 := by rw [ln]; have h2 := HSL.out; omega
    replace lN := Lib.hid lN
    replace ln := Lib.hid ln
    go_wp2_with fail
    refine (S.gcd _ _ x l hE18 (by simp) (by simp) (by omega) (by omega)).mono ?_
    rintro e V19 ⟨m, rfl, mN, mn, hE19⟩
    rw [lN.out, Nat.gcd_add_self_right] at mN mn
    replace mN := Lib.hid mN
    replace mn := Lib.hid mn
    go_wp2_with fail
    refine (gSame_E (x := m) (y := g) hE19 (by simp) (by simp)).mono ?_
    rintro e V20 ⟨rfl, hE20⟩
    rw [same_of (show m.N = g.N by rw [mN.out, gN.out]) (by rw [mn.out, mN.out]) (by rw [gn.out, gN.out])]
    go_wp2_with fail
    refine (gall2_E (x := x) (y := y) S hE20 (by simp) (by simp) rfl (by omega) (by omega)).mono ?_
    rintro e V21 ⟨n, rfl, nN, nn, hE21⟩
    replace nN := Lib.hid nN
    replace nn := Lib.hid nn
    go_wp2_with fail
    refine (gSame_E (x := n) (y := g) hE21 (by simp) (by simp)).mono ?_
    rintro e V22 ⟨rfl, hE22⟩
    rw [same_of (show n.N = g.N by rw [nN.out, gN.out]) (by rw [nn.out, nN.out]) (by rw [gn.out, gN.out])]
    go_wp2_with fail
    refine (gall3_E (x := x) (y := y) (z := z) S hE22 (by simp) (by simp) (by simp) rfl (by omega) (by omega) (by omega)).mono ?_
    rintro e V23 ⟨aa, rfl, aaN, aan, hE23⟩
    replace aaN := Lib.hid aaN
    replace aan := Lib.hid aan
    go_wp2_with fail
    refine (S.gcd _ _ g z hE23 (by simp) (by simp) (by omega) (by omega)).mono ?_
    rintro e V24 ⟨bb, rfl, bbN, bbn, hE24⟩
    rw [gN.out] at bbN bbn
    replace bbN := Lib.hid bbN
    replace bbn := Lib.hid bbn
    go_wp2_with fail
    refine (gSame_E (x := aa) (y := bb) hE24 (by simp) (by simp)).mono ?_
    rintro e V25 ⟨rfl, hE25⟩
    rw [same_of (show aa.N = bb.N by rw [aaN.out, bbN.out]) (by rw [aan.out, aaN.out]) (by rw [bbn.out, bbN.out])]
    go_wp2_with fail
    refine (wakes4_E S hE25).mono ?_
    rintro e Vw ⟨rfl, hEw⟩
    go_wp2
    go_ret
    refine ⟨?_, hEw.1⟩
    first
    | rfl
    | (refine ret_bool ?_; simp; done)

end Go.Proofs.YtkijjcladecooaaDoor
