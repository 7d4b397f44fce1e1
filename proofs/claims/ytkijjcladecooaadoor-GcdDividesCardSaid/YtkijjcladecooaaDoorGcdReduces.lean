/- GcdReduces, over what the program's functions answer: what is reduced has nothing in common, and is to one another as before. -/
import Derived.Test.YtkijjcladecooaaDoorGcdRest
namespace Go.Proofs.YtkijjcladecooaaDoor
open Go Go.ChangeShapes Go.WideShapes Go.ChangeAt Go.RowKit Go.Deep

theorem red_cross (N M : Nat) : N / Nat.gcd N M * M = M / Nat.gcd N M * N := by
  obtain ⟨a, ha⟩ := Nat.gcd_dvd_left N M
  obtain ⟨b, hb⟩ := Nat.gcd_dvd_right N M
  obtain ⟨g, hg⟩ : ∃ g, Nat.gcd N M = g := ⟨_, rfl⟩
  rw [hg] at ha hb ⊢
  rcases Nat.eq_zero_or_pos g with h0 | h0
  · subst h0; rw [Nat.div_zero, Nat.div_zero, Nat.zero_mul, Nat.zero_mul]
  · rw [ha, hb, Nat.mul_div_cancel_left _ h0, Nat.mul_div_cancel_left _ h0]; ac_rfl
theorem red_back (N M : Nat) : N / Nat.gcd N M * Nat.gcd N M = N := Nat.div_mul_cancel (Nat.gcd_dvd_left N M)
theorem red_back' (N M : Nat) : M / Nat.gcd N M * Nat.gcd N M = M := Nat.div_mul_cancel (Nat.gcd_dvd_right N M)
theorem lcm_back (N M : Nat) : N / Nat.gcd N M * M * Nat.gcd N M = N * M := by rw [Nat.mul_right_comm, red_back]
theorem red_coprime {N M : Nat} (h : Nat.gcd N M ≠ 0) : coprB (N / Nat.gcd N M) (M / Nat.gcd N M) = true := by
  rw [coprB_iff]
  have h1 : Nat.gcd N M * Nat.gcd (N / Nat.gcd N M) (M / Nat.gcd N M) = Nat.gcd N M := by
    rw [← Nat.gcd_mul_left, Nat.mul_comm, red_back, Nat.mul_comm, red_back']
  exact Nat.eq_of_mul_eq_mul_left (by omega : 0 < Nat.gcd N M) (by rw [h1, Nat.mul_one])
theorem gcd_ne {N M : Nat} (h : N ≠ 0 ∨ M ≠ 0) : Nat.gcd N M ≠ 0 := fun e => by
  have h1 := Nat.eq_zero_of_gcd_eq_zero_left e
  have h2 := Nat.eq_zero_of_gcd_eq_zero_right e
  omega

set_option maxRecDepth 100000 in
set_option maxHeartbeats 4000000 in
theorem greduces_long (w : World) (S : GcdTold w) (x y : Num) (hx : x.ok w w.heap.size) (hy : y.ok w w.heap.size) (hl : ¬ (x.n ≤ 8 ∧ y.n ≤ 8)) :
    Calls Tryd.prog 5 #[.slice x.A x.n x.c, .slice y.A y.n y.c] w fun e w' => e = .returned (.bool true) ∧ Below w.heap.size w w' := by
  have hE0 : Env w [x, y] w := Env.start (by simp; exact ⟨hx, hy⟩)
  clear hx hy
  go_enter Tryd.func5, Tryd.ntmps5
  go_wp2_with fail
  all_goals
    refine (wakes4_E S hE0).mono ?_
    rintro e Vw ⟨rfl, hEw⟩
    go_wp2
    go_ret
    refine ⟨?_, hEw.1⟩
    first
    | rfl
    | (refine ret_bool ?_; simp; done)

set_option maxRecDepth 100000 in
set_option maxHeartbeats 4000000 in
theorem greduces_nought (w : World) (S : GcdTold w) (x y : Num) (hx : x.ok w w.heap.size) (hy : y.ok w w.heap.size) (bx : x.n ≤ 8) (by' : y.n ≤ 8) (hz : x.N = 0) (hz2 : y.N = 0) :
    Calls Tryd.prog 5 #[.slice x.A x.n x.c, .slice y.A y.n y.c] w fun e w' => e = .returned (.bool true) ∧ Below w.heap.size w w' := by
  have hE0 : Env w [x, y] w := Env.start (by simp; exact ⟨hx, hy⟩)
  have HPL := Lib.hid (Nat.le_trans (lenL_mono (Nat.div_le_self x.N (Nat.gcd x.N y.N))) (lenL_le.2 hx.1.1))
  have HQL := Lib.hid (Nat.le_trans (lenL_mono (Nat.div_le_self y.N (Nat.gcd x.N y.N))) (lenL_le.2 hy.1.1))
  have HGL := Lib.hid (gcd_len hx.1.1 hy.1.1 bx by')
  have HLL := Lib.hid (Nat.le_trans (lenL_mono (Nat.mul_le_mul_right y.N (Nat.div_le_self x.N (Nat.gcd x.N y.N)))) (mul_len hx.1.1 hy.1.1))
  have HPZ := Lib.hid (show lenL (x.N / Nat.gcd x.N y.N) = 0 by rw [hz, Nat.zero_div]; rfl)
  have HQZ := Lib.hid (show lenL (y.N / Nat.gcd x.N y.N) = 0 by rw [hz2, Nat.zero_div]; rfl)
  have HCZ := Lib.hid (show coprB x.N y.N = false by rw [hz, hz2]; decide)
  have HX := Lib.hid hz
  have HY := Lib.hid hz2
  clear hx hy hz hz2
  go_enter Tryd.func5, Tryd.ntmps5
  go_wp2_with fail
  all_goals
    refine (S.reduce _ _ x y hE0 (by simp) (by simp) (by omega) (by omega)).mono ?_
    rintro e V1 ⟨p, q, rfl, pN, pn, qN, qn, hE1⟩
    have pb : p.n ≤ 8 := by rw [pn]; have h2 := HPL.out; omega
    have qb : q.n ≤ 8 := by rw [qn]; have h2 := HQL.out; omega
    have P0 := Lib.hid (show p.n = 0 by rw [pn]; exact HPZ.out)
    have Q0 := Lib.hid (show q.n = 0 by rw [qn]; exact HQZ.out)
    replace pN := Lib.hid pN
    replace pn := Lib.hid pn
    replace qN := Lib.hid qN
    replace qn := Lib.hid qn
    go_wp2_with fail
    refine (rMul_E (x := p) (y := y) hE1 (by simp) (by simp) (by omega) (by omega)).mono ?_
    rintro e V2 ⟨m, rfl, mN, mn, hE2, -⟩
    rw [pN.out] at mN mn
    replace mN := Lib.hid mN
    replace mn := Lib.hid mn
    go_wp2_with fail
    refine (rMul_E (x := q) (y := x) hE2 (by simp) (by simp) (by omega) (by omega)).mono ?_
    rintro e V3 ⟨k, rfl, kN, kn, hE3, -⟩
    rw [qN.out, ← red_cross] at kN kn
    replace kN := Lib.hid kN
    replace kn := Lib.hid kn
    go_wp2_with fail
    refine (gSame_E (x := m) (y := k) hE3 (by simp) (by simp)).mono ?_
    rintro e V4 ⟨rfl, hE4⟩
    rw [same_of (show m.N = k.N by rw [mN.out, kN.out]) (by rw [mn.out, mN.out]) (by rw [kn.out, kN.out])]
    go_wp2_with fail
    refine (rTrim_E (x := x) hE4 (by simp)).mono ?_
    rintro e V5 ⟨t, rfl, tN, tn, hE5, -⟩
    rw [HX.out] at tn
    have t0 : t.n = 0 := tn
    replace tN := Lib.hid tN
    replace tn := Lib.hid tn
    go_wp2_with fail
    refine (rTrim_E (x := y) hE5 (by simp)).mono ?_
    rintro e V6 ⟨u, rfl, uN, un, hE6, -⟩
    rw [HY.out] at un
    have u0 : u.n = 0 := un
    replace uN := Lib.hid uN
    replace un := Lib.hid un
    have p0 := P0.out
    have q0 := Q0.out
    go_wp2_with fail
    refine (S.coprime _ _ x y hE6 (by simp) (by simp) (by omega) (by omega)).mono ?_
    rintro e V7 ⟨rfl, hE7⟩
    rw [HCZ.out]
    go_wp2_with fail
    refine (wakes4_E S hE7).mono ?_
    rintro e Vw ⟨rfl, hEw⟩
    go_wp2
    go_ret
    refine ⟨?_, hEw.1⟩
    first
    | rfl
    | (refine ret_bool ?_; simp; done)

set_option maxRecDepth 100000 in
set_option maxHeartbeats 4000000 in
theorem greduces_first (w : World) (S : GcdTold w) (x y : Num) (hx : x.ok w w.heap.size) (hy : y.ok w w.heap.size) (bx : x.n ≤ 8) (by' : y.n ≤ 8) (hz : x.N = 0) (hz2 : y.N ≠ 0) :
    Calls Tryd.prog 5 #[.slice x.A x.n x.c, .slice y.A y.n y.c] w fun e w' => e = .returned (.bool true) ∧ Below w.heap.size w w' := by
  have hE0 : Env w [x, y] w := Env.start (by simp; exact ⟨hx, hy⟩)
  have HPL := Lib.hid (Nat.le_trans (lenL_mono (Nat.div_le_self x.N (Nat.gcd x.N y.N))) (lenL_le.2 hx.1.1))
  have HQL := Lib.hid (Nat.le_trans (lenL_mono (Nat.div_le_self y.N (Nat.gcd x.N y.N))) (lenL_le.2 hy.1.1))
  have HGL := Lib.hid (gcd_len hx.1.1 hy.1.1 bx by')
  have HLL := Lib.hid (Nat.le_trans (lenL_mono (Nat.mul_le_mul_right y.N (Nat.div_le_self x.N (Nat.gcd x.N y.N)))) (mul_len hx.1.1 hy.1.1))
  have HRC := Lib.hid (red_coprime (N := x.N) (M := y.N) (gcd_ne (.inr hz2)))
  have HX := Lib.hid hz
  have HY := Lib.hid (lenL_pos hz2)
  clear hx hy hz hz2
  go_enter Tryd.func5, Tryd.ntmps5
  go_wp2_with fail
  all_goals
    refine (S.reduce _ _ x y hE0 (by simp) (by simp) (by omega) (by omega)).mono ?_
    rintro e V1 ⟨p, q, rfl, pN, pn, qN, qn, hE1⟩
    have pb : p.n ≤ 8 := by rw [pn]; have h2 := HPL.out; omega
    have qb : q.n ≤ 8 := by rw [qn]; have h2 := HQL.out; omega
    replace pN := Lib.hid pN
    replace pn := Lib.hid pn
    replace qN := Lib.hid qN
    replace qn := Lib.hid qn
    go_wp2_with fail
    refine (rMul_E (x := p) (y := y) hE1 (by simp) (by simp) (by omega) (by omega)).mono ?_
    rintro e V2 ⟨m, rfl, mN, mn, hE2, -⟩
    rw [pN.out] at mN mn
    replace mN := Lib.hid mN
    replace mn := Lib.hid mn
    go_wp2_with fail
    refine (rMul_E (x := q) (y := x) hE2 (by simp) (by simp) (by omega) (by omega)).mono ?_
    rintro e V3 ⟨k, rfl, kN, kn, hE3, -⟩
    rw [qN.out, ← red_cross] at kN kn
    replace kN := Lib.hid kN
    replace kn := Lib.hid kn
    go_wp2_with fail
    refine (gSame_E (x := m) (y := k) hE3 (by simp) (by simp)).mono ?_
    rintro e V4 ⟨rfl, hE4⟩
    rw [same_of (show m.N = k.N by rw [mN.out, kN.out]) (by rw [mn.out, mN.out]) (by rw [kn.out, kN.out])]
    go_wp2_with fail
    refine (rTrim_E (x := x) hE4 (by simp)).mono ?_
    rintro e V5 ⟨t, rfl, tN, tn, hE5, -⟩
    rw [HX.out] at tn
    have t0 : t.n = 0 := tn
    replace tN := Lib.hid tN
    replace tn := Lib.hid tn
    go_wp2_with fail
    refine (rTrim_E (x := y) hE5 (by simp)).mono ?_
    rintro e V6 ⟨u, rfl, uN, un, hE6, -⟩
    have u0 : 0 < u.n := by rw [un]; exact HY.out
    have u1 : ((u.n : Int) == 0) = false := by rw [beq_eq_false_iff_ne]; omega
    replace uN := Lib.hid uN
    replace un := Lib.hid un
    go_wp2_with fail
    refine (S.gcd _ _ x y hE6 (by simp) (by simp) (by omega) (by omega)).mono ?_
    rintro e V7 ⟨g, rfl, gN, gn, hE7⟩
    have gb : g.n ≤ 8 := by rw [gn]; have h2 := HGL.out; omega
    replace gN := Lib.hid gN
    replace gn := Lib.hid gn
    go_wp2_with fail
    refine (S.lcm _ _ x y hE7 (by simp) (by simp) (by omega) (by omega)).mono ?_
    rintro e V8 ⟨l, rfl, lN, ln, hE8⟩
    have lb : l.n ≤ 16 := by rw [ln]; have h2 := HLL.out; omega
    replace lN := Lib.hid lN
    replace ln := Lib.hid ln
    go_wp2_with fail
    refine (S.coprime _ _ p q hE8 (by simp) (by simp) (by omega) (by omega)).mono ?_
    rintro e V9 ⟨rfl, hE9⟩
    rw [pN.out, qN.out, HRC.out]
    go_wp2_with fail
    refine (rMul_E (x := p) (y := g) hE9 (by simp) (by simp) (by omega) (by omega)).mono ?_
    rintro e V10 ⟨a, rfl, aN, an, hE10, -⟩
    rw [pN.out, gN.out, red_back] at aN an
    replace aN := Lib.hid aN
    replace an := Lib.hid an
    go_wp2_with fail
    refine (rTrim_E (x := x) hE10 (by simp)).mono ?_
    rintro e V11 ⟨ta, rfl, taN, tan, hE11, -⟩
    replace taN := Lib.hid taN
    replace tan := Lib.hid tan
    go_wp2_with fail
    refine (gSame_E (x := a) (y := ta) hE11 (by simp) (by simp)).mono ?_
    rintro e V12 ⟨rfl, hE12⟩
    rw [same_of (show a.N = ta.N by rw [aN.out, taN.out]) (by rw [an.out, aN.out]) (by rw [tan.out, taN.out])]
    go_wp2_with fail
    refine (rMul_E (x := q) (y := g) hE12 (by simp) (by simp) (by omega) (by omega)).mono ?_
    rintro e V13 ⟨b, rfl, bN, bn, hE13, -⟩
    rw [qN.out, gN.out, red_back'] at bN bn
    replace bN := Lib.hid bN
    replace bn := Lib.hid bn
    go_wp2_with fail
    refine (rTrim_E (x := y) hE13 (by simp)).mono ?_
    rintro e V14 ⟨tb, rfl, tbN, tbn, hE14, -⟩
    replace tbN := Lib.hid tbN
    replace tbn := Lib.hid tbn
    go_wp2_with fail
    refine (gSame_E (x := b) (y := tb) hE14 (by simp) (by simp)).mono ?_
    rintro e V15 ⟨rfl, hE15⟩
    rw [same_of (show b.N = tb.N by rw [bN.out, tbN.out]) (by rw [bn.out, bN.out]) (by rw [tbn.out, tbN.out])]
    go_wp2_with fail
    refine (rMul_E (x := l) (y := g) hE15 (by simp) (by simp) (by omega) (by omega)).mono ?_
    rintro e V16 ⟨c, rfl, cN, cn, hE16, -⟩
    rw [lN.out, gN.out, lcm_back] at cN cn
    replace cN := Lib.hid cN
    replace cn := Lib.hid cn
    go_wp2_with fail
    refine (rMul_E (x := x) (y := y) hE16 (by simp) (by simp) (by omega) (by omega)).mono ?_
    rintro e V17 ⟨d, rfl, dN, dn, hE17, -⟩
    replace dN := Lib.hid dN
    replace dn := Lib.hid dn
    go_wp2_with fail
    refine (gSame_E (x := c) (y := d) hE17 (by simp) (by simp)).mono ?_
    rintro e V18 ⟨rfl, hE18⟩
    rw [same_of (show c.N = d.N by rw [cN.out, dN.out]) (by rw [cn.out, cN.out]) (by rw [dn.out, dN.out])]
    go_wp2_with fail
    refine (wakes4_E S hE18).mono ?_
    rintro e Vw ⟨rfl, hEw⟩
    go_wp2
    go_ret
    refine ⟨?_, hEw.1⟩
    first
    | rfl
    | (refine ret_bool ?_; simp; done)

set_option maxRecDepth 100000 in
set_option maxHeartbeats 4000000 in
theorem greduces_go (w : World) (S : GcdTold w) (x y : Num) (hx : x.ok w w.heap.size) (hy : y.ok w w.heap.size) (bx : x.n ≤ 8) (by' : y.n ≤ 8) (hz : x.N ≠ 0) :
    Calls Tryd.prog 5 #[.slice x.A x.n x.c, .slice y.A y.n y.c] w fun e w' => e = .returned (.bool true) ∧ Below w.heap.size w w' := by
  have hE0 : Env w [x, y] w := Env.start (by simp; exact ⟨hx, hy⟩)
  have HPL := Lib.hid (Nat.le_trans (lenL_mono (Nat.div_le_self x.N (Nat.gcd x.N y.N))) (lenL_le.2 hx.1.1))
  have HQL := Lib.hid (Nat.le_trans (lenL_mono (Nat.div_le_self y.N (Nat.gcd x.N y.N))) (lenL_le.2 hy.1.1))
  have HGL := Lib.hid (gcd_len hx.1.1 hy.1.1 bx by')
  have HLL := Lib.hid (Nat.le_trans (lenL_mono (Nat.mul_le_mul_right y.N (Nat.div_le_self x.N (Nat.gcd x.N y.N)))) (mul_len hx.1.1 hy.1.1))
  have HRC := Lib.hid (red_coprime (N := x.N) (M := y.N) (gcd_ne (.inl hz)))
  have HX := Lib.hid (lenL_pos hz)
  clear hx hy hz
  go_enter Tryd.func5, Tryd.ntmps5
  go_wp2_with fail
  all_goals
    refine (S.reduce _ _ x y hE0 (by simp) (by simp) (by omega) (by omega)).mono ?_
    rintro e V1 ⟨p, q, rfl, pN, pn, qN, qn, hE1⟩
    have pb : p.n ≤ 8 := by rw [pn]; have h2 := HPL.out; omega
    have qb : q.n ≤ 8 := by rw [qn]; have h2 := HQL.out; omega
    replace pN := Lib.hid pN
    replace pn := Lib.hid pn
    replace qN := Lib.hid qN
    replace qn := Lib.hid qn
    go_wp2_with fail
    refine (rMul_E (x := p) (y := y) hE1 (by simp) (by simp) (by omega) (by omega)).mono ?_
    rintro e V2 ⟨m, rfl, mN, mn, hE2, -⟩
    rw [pN.out] at mN mn
    replace mN := Lib.hid mN
    replace mn := Lib.hid mn
    go_wp2_with fail
    refine (rMul_E (x := q) (y := x) hE2 (by simp) (by simp) (by omega) (by omega)).mono ?_
    rintro e V3 ⟨k, rfl, kN, kn, hE3, -⟩
    rw [qN.out, ← red_cross] at kN kn
    replace kN := Lib.hid kN
    replace kn := Lib.hid kn
    go_wp2_with fail
    refine (gSame_E (x := m) (y := k) hE3 (by simp) (by simp)).mono ?_
    rintro e V4 ⟨rfl, hE4⟩
    rw [same_of (show m.N = k.N by rw [mN.out, kN.out]) (by rw [mn.out, mN.out]) (by rw [kn.out, kN.out])]
    go_wp2_with fail
    refine (rTrim_E (x := x) hE4 (by simp)).mono ?_
    rintro e V5 ⟨t, rfl, tN, tn, hE5, -⟩
    have t0 : 0 < t.n := by rw [tn]; exact HX.out
    have t1 : ((t.n : Int) == 0) = false := by rw [beq_eq_false_iff_ne]; omega
    replace tN := Lib.hid tN
    replace tn := Lib.hid tn
    go_wp2_with fail
    refine (S.gcd _ _ x y hE5 (by simp) (by simp) (by omega) (by omega)).mono ?_
    rintro e V6 ⟨g, rfl, gN, gn, hE6⟩
    have gb : g.n ≤ 8 := by rw [gn]; have h2 := HGL.out; omega
    replace gN := Lib.hid gN
    replace gn := Lib.hid gn
    go_wp2_with fail
    refine (S.lcm _ _ x y hE6 (by simp) (by simp) (by omega) (by omega)).mono ?_
    rintro e V7 ⟨l, rfl, lN, ln, hE7⟩
    have lb : l.n ≤ 16 := by rw [ln]; have h2 := HLL.out; omega
    replace lN := Lib.hid lN
    replace ln := Lib.hid ln
    go_wp2_with fail
    refine (S.coprime _ _ p q hE7 (by simp) (by simp) (by omega) (by omega)).mono ?_
    rintro e V8 ⟨rfl, hE8⟩
    rw [pN.out, qN.out, HRC.out]
    go_wp2_with fail
    refine (rMul_E (x := p) (y := g) hE8 (by simp) (by simp) (by omega) (by omega)).mono ?_
    rintro e V9 ⟨a, rfl, aN, an, hE9, -⟩
    rw [pN.out, gN.out, red_back] at aN an
    replace aN := Lib.hid aN
    replace an := Lib.hid an
    go_wp2_with fail
    refine (rTrim_E (x := x) hE9 (by simp)).mono ?_
    rintro e V10 ⟨ta, rfl, taN, tan, hE10, -⟩
    replace taN := Lib.hid taN
    replace tan := Lib.hid tan
    go_wp2_with fail
    refine (gSame_E (x := a) (y := ta) hE10 (by simp) (by simp)).mono ?_
    rintro e V11 ⟨rfl, hE11⟩
    rw [same_of (show a.N = ta.N by rw [aN.out, taN.out]) (by rw [an.out, aN.out]) (by rw [tan.out, taN.out])]
    go_wp2_with fail
    refine (rMul_E (x := q) (y := g) hE11 (by simp) (by simp) (by omega) (by omega)).mono ?_
    rintro e V12 ⟨b, rfl, bN, bn, hE12, -⟩
    rw [qN.out, gN.out, red_back'] at bN bn
    replace bN := Lib.hid bN
    replace bn := Lib.hid bn
    go_wp2_with fail
    refine (rTrim_E (x := y) hE12 (by simp)).mono ?_
    rintro e V13 ⟨tb, rfl, tbN, tbn, hE13, -⟩
    replace tbN := Lib.hid tbN
    replace tbn := Lib.hid tbn
    go_wp2_with fail
    refine (gSame_E (x := b) (y := tb) hE13 (by simp) (by simp)).mono ?_
    rintro e V14 ⟨rfl, hE14⟩
    rw [same_of (show b.N = tb.N by rw [bN.out, tbN.out]) (by rw [bn.out, bN.out]) (by rw [tbn.out, tbN.out])]
    go_wp2_with fail
    refine (rMul_E (x := l) (y := g) hE14 (by simp) (by simp) (by omega) (by omega)).mono ?_
    rintro e V15 ⟨c, rfl, cN, cn, hE15, -⟩
    rw [lN.out, gN.out, lcm_back] at cN cn
    replace cN := Lib.hid cN
    replace cn := Lib.hid cn
    go_wp2_with fail
    refine (rMul_E (x := x) (y := y) hE15 (by simp) (by simp) (by omega) (by omega)).mono ?_
    rintro e V16 ⟨d, rfl, dN, dn, hE16, -⟩
    replace dN := Lib.hid dN
    replace dn := Lib.hid dn
    go_wp2_with fail
    refine (gSame_E (x := c) (y := d) hE16 (by simp) (by simp)).mono ?_
    rintro e V17 ⟨rfl, hE17⟩
    rw [same_of (show c.N = d.N by rw [cN.out, dN.out]) (by rw [cn.out, cN.out]) (by rw [dn.out, dN.out])]
    go_wp2_with fail
    refine (wakes4_E S hE17).mono ?_
    rintro e Vw ⟨rfl, hEw⟩
    go_wp2
    go_ret
    refine ⟨?_, hEw.1⟩
    first
    | rfl
    | (refine ret_bool ?_; simp; done)

end Go.Proofs.YtkijjcladecooaaDoor
