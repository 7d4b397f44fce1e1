/- QuotTwice, over what the program's functions answer: what is divided by two numbers one behind the other is divided by their product. -/
import Derived.Test.YtfijbocblmhdbaaQuotBack
namespace Go.Proofs.Ytfijbocblmhdbaa
open Go Go.ChangeShapes Go.WideShapes Go.ChangeAt Go.RowKit Go.Deep

set_option maxRecDepth 100000 in
set_option maxHeartbeats 4000000 in
theorem qtwice_great (S : QuotTold) (w : World) (x y z : Num) (hx : x.ok w w.heap.size) (hy : y.ok w w.heap.size) (hz : z.ok w w.heap.size) (hg : great2 [x, y, z] = true) :
    Calls Try.prog 5 #[.slice x.A x.n x.c, .slice y.A y.n y.c, .slice z.A z.n z.c] w fun e w' => e = .returned (.bool true) ∧ Below w.heap.size w w' := by
  have hE0 : Env w [x, y, z] w := Env.start (by simp; exact ⟨hx, hy, hz⟩)
  have HG := Lib.hid hg
  clear hg hx hy hz
  go_enter Try.func5, Try.ntmps5
  go_wp2_with fail
  refine (great2_E3 (x := x) (y := y) (z := z) hE0 (by simp) (by simp) (by simp) rfl).mono ?_
  rintro e V1 ⟨rfl, hE1⟩
  rw [HG.out]
  go_wp2_with fail
  refine (wakes3_E S hE1).mono ?_
  rintro e Vw ⟨rfl, hEw⟩
  go_wp2
  go_ret
  refine ⟨?_, hEw.1⟩
  first
  | rfl
  | (refine ret_bool ?_; simp; done)

set_option maxRecDepth 100000 in
set_option maxHeartbeats 4000000 in
theorem qtwice_long (S : QuotTold) (w : World) (x y z : Num) (hx : x.ok w w.heap.size) (hy : y.ok w w.heap.size) (hz : z.ok w w.heap.size) (hg : great2 [x, y, z] = false) (hl : 60 < x.n + y.n + z.n) :
    Calls Try.prog 5 #[.slice x.A x.n x.c, .slice y.A y.n y.c, .slice z.A z.n z.c] w fun e w' => e = .returned (.bool true) ∧ Below w.heap.size w w' := by
  have hE0 : Env w [x, y, z] w := Env.start (by simp; exact ⟨hx, hy, hz⟩)
  have HG := Lib.hid hg
  have bx := size2_3 hg
  clear hg hx hy hz
  go_enter Try.func5, Try.ntmps5
  go_wp2_with fail
  refine (great2_E3 (x := x) (y := y) (z := z) hE0 (by simp) (by simp) (by simp) rfl).mono ?_
  rintro e V1 ⟨rfl, hE1⟩
  rw [HG.out]
  go_wp2_with fail
  refine (wakes3_E S hE1).mono ?_
  rintro e Vw ⟨rfl, hEw⟩
  go_wp2
  go_ret
  refine ⟨?_, hEw.1⟩
  first
  | rfl
  | (refine ret_bool ?_; simp; done)

set_option maxRecDepth 100000 in
set_option maxHeartbeats 4000000 in
theorem qtwice_first (S : QuotTold) (w : World) (x y z : Num) (hx : x.ok w w.heap.size) (hy : y.ok w w.heap.size) (hz : z.ok w w.heap.size) (hg : great2 [x, y, z] = false) (hl : x.n + y.n + z.n ≤ 60) (h0 : y.N = 0) :
    Calls Try.prog 5 #[.slice x.A x.n x.c, .slice y.A y.n y.c, .slice z.A z.n z.c] w fun e w' => e = .returned (.bool true) ∧ Below w.heap.size w w' := by
  have hE0 : Env w [x, y, z] w := Env.start (by simp; exact ⟨hx, hy, hz⟩)
  have HG := Lib.hid hg
  have H0 := Lib.hid h0
  clear hg hx hy hz h0
  go_enter Try.func5, Try.ntmps5
  go_wp2_with fail
  refine (great2_E3 (x := x) (y := y) (z := z) hE0 (by simp) (by simp) (by simp) rfl).mono ?_
  rintro e V1 ⟨rfl, hE1⟩
  rw [HG.out]
  go_wp2_with fail
  refine (rTrim_E (x := y) hE1 (by simp)).mono ?_
  rintro e V2 ⟨t, rfl, tN, tn, hE2, -⟩
  rw [H0.out] at tn
  have t0 : t.n = 0 := tn
  replace tN := Lib.hid tN
  replace tn := Lib.hid tn
  go_wp2_with fail
  refine (wakes3_E S hE2).mono ?_
  rintro e Vw ⟨rfl, hEw⟩
  go_wp2
  go_ret
  refine ⟨?_, hEw.1⟩
  first
  | rfl
  | (refine ret_bool ?_; simp; done)

set_option maxRecDepth 100000 in
set_option maxHeartbeats 4000000 in
theorem qtwice_second (S : QuotTold) (w : World) (x y z : Num) (hx : x.ok w w.heap.size) (hy : y.ok w w.heap.size) (hz : z.ok w w.heap.size) (hg : great2 [x, y, z] = false) (hl : x.n + y.n + z.n ≤ 60) (h1 : y.N ≠ 0) (h0 : z.N = 0) :
    Calls Try.prog 5 #[.slice x.A x.n x.c, .slice y.A y.n y.c, .slice z.A z.n z.c] w fun e w' => e = .returned (.bool true) ∧ Below w.heap.size w w' := by
  have hE0 : Env w [x, y, z] w := Env.start (by simp; exact ⟨hx, hy, hz⟩)
  have HG := Lib.hid hg
  have H0 := Lib.hid h0
  have HY := Lib.hid (lenL_pos h1)
  clear hg hx hy hz h0 h1
  go_enter Try.func5, Try.ntmps5
  go_wp2_with fail
  refine (great2_E3 (x := x) (y := y) (z := z) hE0 (by simp) (by simp) (by simp) rfl).mono ?_
  rintro e V1 ⟨rfl, hE1⟩
  rw [HG.out]
  go_wp2_with fail
  refine (rTrim_E (x := y) hE1 (by simp)).mono ?_
  rintro e V2 ⟨t, rfl, tN, tn, hE2, -⟩
  have t0 : 0 < t.n := by rw [tn]; exact HY.out
  have t1 : ((t.n : Int) == 0) = false := by rw [beq_eq_false_iff_ne]; omega
  replace tN := Lib.hid tN
  replace tn := Lib.hid tn
  go_wp2_with fail
  refine (rTrim_E (x := z) hE2 (by simp)).mono ?_
  rintro e V3 ⟨u, rfl, uN, un, hE3, -⟩
  rw [H0.out] at un
  have u0 : u.n = 0 := un
  replace uN := Lib.hid uN
  replace un := Lib.hid un
  go_wp2_with fail
  refine (wakes3_E S hE3).mono ?_
  rintro e Vw ⟨rfl, hEw⟩
  go_wp2
  go_ret
  refine ⟨?_, hEw.1⟩
  first
  | rfl
  | (refine ret_bool ?_; simp; done)

set_option maxRecDepth 100000 in
set_option maxHeartbeats 4000000 in
theorem qtwice_go (S : QuotTold) (w : World) (x y z : Num) (hx : x.ok w w.heap.size) (hy : y.ok w w.heap.size) (hz : z.ok w w.heap.size) (hg : great2 [x, y, z] = false) (hl : x.n + y.n + z.n ≤ 60) (h1 : y.N ≠ 0) (h2 : z.N ≠ 0) :
    Calls Try.prog 5 #[.slice x.A x.n x.c, .slice y.A y.n y.c, .slice z.A z.n z.c] w fun e w' => e = .returned (.bool true) ∧ Below w.heap.size w w' := by
  have hE0 : Env w [x, y, z] w := Env.start (by simp; exact ⟨hx, hy, hz⟩)
  have HG := Lib.hid hg
  have HY := Lib.hid (lenL_pos h1)
  have HZ := Lib.hid (lenL_pos h2)
  have HY0 := Lib.hid (zeroE_pos h1)
  have HZ0 := Lib.hid (zeroE_pos h2)
  have HP0 := Lib.hid (zeroE_pos (Nat.mul_ne_zero h1 h2))
  have HXL := Lib.hid (len_of hx.1.1 (Nat.div_le_self x.N y.N))
  have HML := Lib.hid (mul_len hy.1.1 hz.1.1)
  clear hg hx hy hz h1 h2
  go_enter Try.func5, Try.ntmps5
  go_wp2_with fail
  refine (great2_E3 (x := x) (y := y) (z := z) hE0 (by simp) (by simp) (by simp) rfl).mono ?_
  rintro e V1 ⟨rfl, hE1⟩
  rw [HG.out]
  go_wp2_with fail
  refine (rTrim_E (x := y) hE1 (by simp)).mono ?_
  rintro e V2 ⟨t, rfl, tN, tn, hE2, -⟩
  have t0 : 0 < t.n := by rw [tn]; exact HY.out
  have t1 : ((t.n : Int) == 0) = false := by rw [beq_eq_false_iff_ne]; omega
  replace tN := Lib.hid tN
  replace tn := Lib.hid tn
  go_wp2_with fail
  refine (rTrim_E (x := z) hE2 (by simp)).mono ?_
  rintro e V3 ⟨u, rfl, uN, un, hE3, -⟩
  have u0 : 0 < u.n := by rw [un]; exact HZ.out
  have u1 : ((u.n : Int) == 0) = false := by rw [beq_eq_false_iff_ne]; omega
  replace uN := Lib.hid uN
  replace un := Lib.hid un
  go_wp2_with fail
  refine (S.div _ _ _ x y hE3 (by simp) (by simp) (by omega) (by omega)).mono ?_
  rintro e V4 ⟨a, ar, rfl, aN, an, arN, arn, hE4⟩
  rw [HY0.out]
  have ab : a.n ≤ 60 := by rw [an]; have h2 := HXL.out; omega
  replace aN := Lib.hid aN
  replace an := Lib.hid an
  replace arN := Lib.hid arN
  replace arn := Lib.hid arn
  go_wp2_with fail
  refine (S.div _ _ _ a z hE4 (by simp) (by simp) (by omega) (by omega)).mono ?_
  rintro e V5 ⟨b, br, rfl, bN, bn, brN, brn, hE5⟩
  rw [HZ0.out]
  rw [aN.out] at bN bn
  replace bN := Lib.hid bN
  replace bn := Lib.hid bn
  replace brN := Lib.hid brN
  replace brn := Lib.hid brn
  go_wp2_with fail
  refine (rMul_E (x := y) (y := z) hE5 (by simp) (by simp) (by omega) (by omega)).mono ?_
  rintro e V6 ⟨m, rfl, mN, mn, hE6, -⟩
  have mb : m.n ≤ 60 := by rw [mn]; have h2 := HML.out; omega
  replace mN := Lib.hid mN
  replace mn := Lib.hid mn
  go_wp2_with fail
  refine (S.div _ _ _ x m hE6 (by simp) (by simp) (by omega) (by omega)).mono ?_
  rintro e V7 ⟨d, dr, rfl, dN, dn, drN, drn, hE7⟩
  rw [mN.out, HP0.out]
  rw [mN.out] at dN dn
  replace dN := Lib.hid dN
  replace dn := Lib.hid dn
  replace drN := Lib.hid drN
  replace drn := Lib.hid drn
  go_wp2_with fail
  refine (same3_E (x := b) (y := d) hE7 (by simp) (by simp)).mono ?_
  rintro e V8 ⟨rfl, hE8⟩
  rw [same_of (show b.N = d.N by rw [bN.out, dN.out, Nat.div_div_eq_div_mul]) (by rw [bn.out, bN.out]) (by rw [dn.out, dN.out])]
  go_wp2_with fail
  refine (wakes3_E S hE8).mono ?_
  rintro e Vw ⟨rfl, hEw⟩
  go_wp2
  go_ret
  refine ⟨?_, hEw.1⟩
  first
  | rfl
  | (refine ret_bool ?_; simp; done)

end Go.Proofs.Ytfijbocblmhdbaa
