/- GcdRest, over what the program's functions answer: it is that of the one and of what is left when the other is divided by it. -/
import Derived.Test.YtkijjcladecooaaDoorWakes4
import Derived.Test.YtkijjcladecooaaDoorSame4
import Derived.Test.YtkijjcladecooaaDoorRDiv
import Derived.Test.YtkijjcladecooaaDoorGRefB
import Derived.Test.YtkijjcladecooaaDoorGRefA
import Derived.Test.YtkijjcladecooaaDoorLaw
namespace Go.Proofs.YtkijjcladecooaaDoor
open Go Go.ChangeShapes Go.WideShapes Go.ChangeAt Go.RowKit Go.Deep

theorem gcd_rest {N M : Nat} (h : M ≠ 0) : Nat.gcd M (restN N M) = Nat.gcd N M := by rw [restN_pos h, Nat.gcd_comm M, ← Nat.gcd_rec, Nat.gcd_comm]
theorem gcd_le_sum (N M : Nat) : cmpN (Nat.gcd N M) (N + M) ≤ 0 := by
  have h : Nat.gcd N M ≤ N + M := by
    rcases Nat.eq_zero_or_pos N with h0 | h0
    · subst h0; rw [Nat.gcd_zero_left]; omega
    · have := Nat.gcd_le_left M h0; omega
  unfold cmpN
  split
  · decide
  · rw [if_neg (by omega)]; decide
theorem lcm_self (N : Nat) : N / Nat.gcd N N * N = N := by
  rw [Nat.gcd_self]
  rcases Nat.eq_zero_or_pos N with h0 | h0
  · subst h0; rfl
  · rw [Nat.div_self h0, Nat.one_mul]
theorem gcd_prod (N M : Nat) : Nat.gcd (N * M) N = N := by rw [Nat.gcd_comm]; exact Nat.gcd_eq_left (Nat.dvd_mul_right N M)

set_option maxRecDepth 100000 in
set_option maxHeartbeats 4000000 in
theorem grest_long (w : World) (S : GcdTold w) (x y : Num) (hx : x.ok w w.heap.size) (hy : y.ok w w.heap.size) (hl : ¬ (x.n ≤ 8 ∧ y.n ≤ 8)) :
    Calls Tryd.prog 7 #[.slice x.A x.n x.c, .slice y.A y.n y.c] w fun e w' => e = .returned (.bool true) ∧ Below w.heap.size w w' := by
  have hE0 : Env w [x, y] w := Env.start (by simp; exact ⟨hx, hy⟩)
  clear hx hy
  go_enter Tryd.func7, Tryd.ntmps7
  go_wp2_with fail
  all_goals
    refine (wakes4_E S hE0).mono ?_
    rintro e Vw ⟨rfl, hEw⟩
    go_wp2
    go_ret
    refine ⟨?_, hEw.1⟩
    first
    | rfl
    | (refine ret_bool ?_; simp; done)

set_option maxRecDepth 100000 in
set_option maxHeartbeats 4000000 in
theorem grest_nought (w : World) (S : GcdTold w) (x y : Num) (hx : x.ok w w.heap.size) (hy : y.ok w w.heap.size) (bx : x.n ≤ 8) (by' : y.n ≤ 8) (hz : y.N = 0) :
    Calls Tryd.prog 7 #[.slice x.A x.n x.c, .slice y.A y.n y.c] w fun e w' => e = .returned (.bool true) ∧ Below w.heap.size w w' := by
  have hE0 : Env w [x, y] w := Env.start (by simp; exact ⟨hx, hy⟩)
  have HXL := Lib.hid (lenL_le.2 hx.1.1)
  have HGL := Lib.hid (gcd_len hx.1.1 hy.1.1 bx by')
  have HRL := Lib.hid (Nat.le_trans (lenL_mono (restN_le x.N y.N)) (lenL_le.2 hx.1.1))
  have HML := Lib.hid (mul_len hx.1.1 hy.1.1)
  have HC := gcd_le_sum x.N y.N
  have HZ := Lib.hid (show zeroE y.N = 30 by rw [hz]; rfl)
  clear hx hy hz
  go_enter Tryd.func7, Tryd.ntmps7
  go_wp2_with fail
  all_goals
    refine (S.gcd _ _ x y hE0 (by simp) (by simp) (by omega) (by omega)).mono ?_
    rintro e V1 ⟨g, rfl, gN, gn, hE1⟩
    have gb : g.n ≤ 8 := by rw [gn]; have h2 := HGL.out; omega
    replace gN := Lib.hid gN
    replace gn := Lib.hid gn
    go_wp2_with fail
    refine (rDiv_E (x := x) (y := y) hE1 (by simp) (by simp) (by omega) (by omega)).mono ?_
    rintro e V2 ⟨q, r, rfl, qN, qn, rN, rn, hE2⟩
    rw [HZ.out]
    have rb : r.n ≤ 8 := by rw [rn]; have h2 := HRL.out; omega
    replace qN := Lib.hid qN
    replace qn := Lib.hid qn
    replace rN := Lib.hid rN
    replace rn := Lib.hid rn
    go_wp2_with fail
    refine (S.gcd _ _ x x hE2 (by simp) (by simp) (by omega) (by omega)).mono ?_
    rintro e V3 ⟨a, rfl, aN, an, hE3⟩
    rw [Nat.gcd_self] at aN an
    replace aN := Lib.hid aN
    replace an := Lib.hid an
    go_wp2_with fail
    refine (rTrim_E (x := x) hE3 (by simp)).mono ?_
    rintro e V4 ⟨ta, rfl, taN, tan, hE4, -⟩
    replace taN := Lib.hid taN
    replace tan := Lib.hid tan
    go_wp2_with fail
    refine (gSame_E (x := a) (y := ta) hE4 (by simp) (by simp)).mono ?_
    rintro e V5 ⟨rfl, hE5⟩
    rw [same_of (show a.N = ta.N by rw [aN.out, taN.out]) (by rw [an.out, aN.out]) (by rw [tan.out, taN.out])]
    go_wp2_with fail
    refine (S.gcd _ _ x ⟨none, 0, 0, 0⟩ hE5.nought (by simp) (by simp) (by omega) (by simp)).mono ?_
    rintro e V6 ⟨b, rfl, bN, bn, hE6⟩
    rw [show Nat.gcd x.N (Num.mk none 0 0 0).N = x.N from Nat.gcd_zero_right x.N] at bN bn
    replace bN := Lib.hid bN
    replace bn := Lib.hid bn
    go_wp2_with fail
    refine (rTrim_E (x := x) hE6 (by simp)).mono ?_
    rintro e V7 ⟨tb, rfl, tbN, tbn, hE7, -⟩
    replace tbN := Lib.hid tbN
    replace tbn := Lib.hid tbn
    go_wp2_with fail
    refine (gSame_E (x := b) (y := tb) hE7 (by simp) (by simp)).mono ?_
    rintro e V8 ⟨rfl, hE8⟩
    rw [same_of (show b.N = tb.N by rw [bN.out, tbN.out]) (by rw [bn.out, bN.out]) (by rw [tbn.out, tbN.out])]
    go_wp2_with fail
    refine (rMul_E (x := x) (y := y) hE8 (by simp) (by simp) (by omega) (by omega)).mono ?_
    rintro e V9 ⟨m, rfl, mN, mn, hE9, -⟩
    have mb : m.n ≤ 16 := by rw [mn]; have h2 := HML.out; omega
    replace mN := Lib.hid mN
    replace mn := Lib.hid mn
    go_wp2_with fail
    refine (S.gcd _ _ m x hE9 (by simp) (by simp) (by omega) (by omega)).mono ?_
    rintro e V10 ⟨c, rfl, cN, cn, hE10⟩
    rw [mN.out, gcd_prod] at cN cn
    replace cN := Lib.hid cN
    replace cn := Lib.hid cn
    go_wp2_with fail
    refine (rTrim_E (x := x) hE10 (by simp)).mono ?_
    rintro e V11 ⟨tc, rfl, tcN, tcn, hE11, -⟩
    replace tcN := Lib.hid tcN
    replace tcn := Lib.hid tcn
    go_wp2_with fail
    refine (gSame_E (x := c) (y := tc) hE11 (by simp) (by simp)).mono ?_
    rintro e V12 ⟨rfl, hE12⟩
    rw [same_of (show c.N = tc.N by rw [cN.out, tcN.out]) (by rw [cn.out, cN.out]) (by rw [tcn.out, tcN.out])]
    go_wp2_with fail
    refine (rAdd2_E (x := x) (y := y) hE12 (by simp) (by simp) rfl (by omega) (by omega)).mono ?_
    rintro e V13 ⟨s, rfl, sN, sn, hE13, -⟩
    replace sN := Lib.hid sN
    replace sn := Lib.hid sn
    go_wp2_with fail
    refine (rCmp_E (x := g) (y := s) hE13 (by simp) (by simp)).mono ?_
    rintro e V14 ⟨rfl, hE14⟩
    rw [gN.out, sN.out]
    go_wp2_with fail
    refine (S.lcm _ _ x x hE14 (by simp) (by simp) (by omega) (by omega)).mono ?_
    rintro e V15 ⟨d, rfl, dN, dn, hE15⟩
    rw [lcm_self] at dN dn
    replace dN := Lib.hid dN
    replace dn := Lib.hid dn
    go_wp2_with fail
    refine (rTrim_E (x := x) hE15 (by simp)).mono ?_
    rintro e V16 ⟨td, rfl, tdN, tdn, hE16, -⟩
    replace tdN := Lib.hid tdN
    replace tdn := Lib.hid tdn
    go_wp2_with fail
    refine (gSame_E (x := d) (y := td) hE16 (by simp) (by simp)).mono ?_
    rintro e V17 ⟨rfl, hE17⟩
    rw [same_of (show d.N = td.N by rw [dN.out, tdN.out]) (by rw [dn.out, dN.out]) (by rw [tdn.out, tdN.out])]
    go_wp2_with fail
    refine (wakes4_E S hE17).mono ?_
    rintro e Vw ⟨rfl, hEw⟩
    go_wp2
    go_ret
    refine ⟨?_, hEw.1⟩
    first
    | rfl
    | (refine ret_bool ?_; simp; done)

set_option maxRecDepth 100000 in
set_option maxHeartbeats 4000000 in
theorem grest_go (w : World) (S : GcdTold w) (x y : Num) (hx : x.ok w w.heap.size) (hy : y.ok w w.heap.size) (bx : x.n ≤ 8) (by' : y.n ≤ 8) (hz : y.N ≠ 0) :
    Calls Tryd.prog 7 #[.slice x.A x.n x.c, .slice y.A y.n y.c] w fun e w' => e = .returned (.bool true) ∧ Below w.heap.size w w' := by
  have hE0 : Env w [x, y] w := Env.start (by simp; exact ⟨hx, hy⟩)
  have HXL := Lib.hid (lenL_le.2 hx.1.1)
  have HGL := Lib.hid (gcd_len hx.1.1 hy.1.1 bx by')
  have HRL := Lib.hid (Nat.le_trans (lenL_mono (restN_le x.N y.N)) (lenL_le.2 hx.1.1))
  have HML := Lib.hid (mul_len hx.1.1 hy.1.1)
  have HC := gcd_le_sum x.N y.N
  have HZ := Lib.hid (zeroE_pos hz)
  have HGR := Lib.hid (gcd_rest (N := x.N) hz)
  clear hx hy hz
  go_enter Tryd.func7, Tryd.ntmps7
  go_wp2_with fail
  all_goals
    refine (S.gcd _ _ x y hE0 (by simp) (by simp) (by omega) (by omega)).mono ?_
    rintro e V1 ⟨g, rfl, gN, gn, hE1⟩
    have gb : g.n ≤ 8 := by rw [gn]; have h2 := HGL.out; omega
    replace gN := Lib.hid gN
    replace gn := Lib.hid gn
    go_wp2_with fail
    refine (rDiv_E (x := x) (y := y) hE1 (by simp) (by simp) (by omega) (by omega)).mono ?_
    rintro e V2 ⟨q, r, rfl, qN, qn, rN, rn, hE2⟩
    rw [HZ.out]
    have rb : r.n ≤ 8 := by rw [rn]; have h2 := HRL.out; omega
    replace qN := Lib.hid qN
    replace qn := Lib.hid qn
    replace rN := Lib.hid rN
    replace rn := Lib.hid rn
    go_wp2_with fail
    refine (S.gcd _ _ y r hE2 (by simp) (by simp) (by omega) (by omega)).mono ?_
    rintro e V3 ⟨k, rfl, kN, kn, hE3⟩
    rw [rN.out, HGR.out] at kN kn
    replace kN := Lib.hid kN
    replace kn := Lib.hid kn
    go_wp2_with fail
    refine (gSame_E (x := k) (y := g) hE3 (by simp) (by simp)).mono ?_
    rintro e V4 ⟨rfl, hE4⟩
    rw [same_of (show k.N = g.N by rw [kN.out, gN.out]) (by rw [kn.out, kN.out]) (by rw [gn.out, gN.out])]
    go_wp2_with fail
    refine (S.gcd _ _ x x hE4 (by simp) (by simp) (by omega) (by omega)).mono ?_
    rintro e V5 ⟨a, rfl, aN, an, hE5⟩
    rw [Nat.gcd_self] at aN an
    replace aN := Lib.hid aN
    replace an := Lib.hid an
    go_wp2_with fail
    refine (rTrim_E (x := x) hE5 (by simp)).mono ?_
    rintro e V6 ⟨ta, rfl, taN, tan, hE6, -⟩
    replace taN := Lib.hid taN
    replace tan := Lib.hid tan
    go_wp2_with fail
    refine (gSame_E (x := a) (y := ta) hE6 (by simp) (by simp)).mono ?_
    rintro e V7 ⟨rfl, hE7⟩
    rw [same_of (show a.N = ta.N by rw [aN.out, taN.out]) (by rw [an.out, aN.out]) (by rw [tan.out, taN.out])]
    go_wp2_with fail
    refine (S.gcd _ _ x ⟨none, 0, 0, 0⟩ hE7.nought (by simp) (by simp) (by omega) (by simp)).mono ?_
    rintro e V8 ⟨b, rfl, bN, bn, hE8⟩
    rw [show Nat.gcd x.N (Num.mk none 0 0 0).N = x.N from Nat.gcd_zero_right x.N] at bN bn
    replace bN := Lib.hid bN
    replace bn := Lib.hid bn
    go_wp2_with fail
    refine (rTrim_E (x := x) hE8 (by simp)).mono ?_
    rintro e V9 ⟨tb, rfl, tbN, tbn, hE9, -⟩
    replace tbN := Lib.hid tbN
    replace tbn := Lib.hid tbn
    go_wp2_with fail
    refine (gSame_E (x := b) (y := tb) hE9 (by simp) (by simp)).mono ?_
    rintro e V10 ⟨rfl, hE10⟩
    rw [same_of (show b.N = tb.N by rw [bN.out, tbN.out]) (by rw [bn.out, bN.out]) (by rw [tbn.out, tbN.out])]
    go_wp2_with fail
    refine (rMul_E (x := x) (y := y) hE10 (by simp) (by simp) (by omega) (by omega)).mono ?_
    rintro e V11 ⟨m, rfl, mN, mn, hE11, -⟩
    have mb : m.n ≤ 16 := by rw [mn]; have h2 := HML.out; omega
    replace mN := Lib.hid mN
    replace mn := Lib.hid mn
    go_wp2_with fail
    refine (S.gcd _ _ m x hE11 (by simp) (by simp) (by omega) (by omega)).mono ?_
    rintro e V12 ⟨c, rfl, cN, cn, hE12⟩
    rw [mN.out, gcd_prod] at cN cn
    replace cN := Lib.hid cN
    replace cn := Lib.hid cn
    go_wp2_with fail
    refine (rTrim_E (x := x) hE12 (by simp)).mono ?_
    rintro e V13 ⟨tc, rfl, tcN, tcn, hE13, -⟩
    replace tcN := Lib.hid tcN
    replace tcn := Lib.hid tcn
    go_wp2_with fail
    refine (gSame_E (x := c) (y := tc) hE13 (by simp) (by simp)).mono ?_
    rintro e V14 ⟨rfl, hE14⟩
    rw [same_of (show c.N = tc.N by rw [cN.out, tcN.out]) (by rw [cn.out, cN.out]) (by rw [tcn.out, tcN.out])]
    go_wp2_with fail
    refine (rAdd2_E (x := x) (y := y) hE14 (by simp) (by simp) rfl (by omega) (by omega)).mono ?_
    rintro e V15 ⟨s, rfl, sN, sn, hE15, -⟩
    replace sN := Lib.hid sN
    replace sn := Lib.hid sn
    go_wp2_with fail
    refine (rCmp_E (x := g) (y := s) hE15 (by simp) (by simp)).mono ?_
    rintro e V16 ⟨rfl, hE16⟩
    rw [gN.out, sN.out]
    go_wp2_with fail
    refine (S.lcm _ _ x x hE16 (by simp) (by simp) (by omega) (by omega)).mono ?_
    rintro e V17 ⟨d, rfl, dN, dn, hE17⟩
    rw [lcm_self] at dN dn
    replace dN := Lib.hid dN
    replace dn := Lib.hid dn
    go_wp2_with fail
    refine (rTrim_E (x := x) hE17 (by simp)).mono ?_
    rintro e V18 ⟨td, rfl, tdN, tdn, hE18, -⟩
    replace tdN := Lib.hid tdN
    replace tdn := Lib.hid tdn
    go_wp2_with fail
    refine (gSame_E (x := d) (y := td) hE18 (by simp) (by simp)).mono ?_
    rintro e V19 ⟨rfl, hE19⟩
    rw [same_of (show d.N = td.N by rw [dN.out, tdN.out]) (by rw [dn.out, dN.out]) (by rw [tdn.out, tdN.out])]
    go_wp2_with fail
    refine (wakes4_E S hE19).mono ?_
    rintro e Vw ⟨rfl, hEw⟩
    go_wp2
    go_ret
    refine ⟨?_, hEw.1⟩
    first
    | rfl
    | (refine ret_bool ?_; simp; done)

end Go.Proofs.YtkijjcladecooaaDoor
