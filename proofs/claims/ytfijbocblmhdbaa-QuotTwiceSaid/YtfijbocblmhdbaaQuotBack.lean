/- QuotBack, over what the program's functions answer: quotient times divisor and rest are the number. -/
import Derived.Test.YtfijbocblmhdbaaWakes3
import Derived.Test.YtfijbocblmhdbaaGreat2
import Derived.Test.YtfijbocblmhdbaaGRefB
import Derived.Test.YtfijbocblmhdbaaGRefA
import Derived.Test.YtfijbocblmhdbaaSame3
import Derived.Test.YtfijbocblmhdbaaLaw
namespace Go.Proofs.Ytfijbocblmhdbaa
open Go Go.ChangeShapes Go.WideShapes Go.ChangeAt Go.RowKit Go.Deep

theorem len_of {N n : Nat} (h : N < Bw ^ n) {M : Nat} (hM : M ≤ N) : lenL M ≤ n := Nat.le_trans (lenL_mono hM) (lenL_le.2 h)

set_option maxRecDepth 100000 in
set_option maxHeartbeats 4000000 in
theorem qback_great (S : QuotTold) (w : World) (x y : Num) (M : Nat) (hx : x.ok w w.heap.size) (hy : y.ok w w.heap.size) (hg : great2 [x, y] = true) :
    Calls Try.prog 3 #[.slice x.A x.n x.c, .slice y.A y.n y.c, .int .u32 M] w fun e w' => e = .returned (.bool true) ∧ Below w.heap.size w w' := by
  have hE0 : Env w [x, y] w := Env.start (by simp; exact ⟨hx, hy⟩)
  have HG := Lib.hid hg
  clear hg hx hy
  go_enter Try.func3, Try.ntmps3
  go_wp2_with fail
  refine (great2_E2 (x := x) (y := y) hE0 (by simp) (by simp) rfl).mono ?_
  rintro e V1 ⟨rfl, hE1⟩
  rw [HG.out]
  go_wp2_with fail
  refine (wakes3_E S hE1).mono ?_
  rintro e Vw ⟨rfl, hEw⟩
  go_wp2
  go_ret
  refine ⟨?_, hEw.1⟩
  first
  | rfl
  | (refine ret_bool ?_; simp; done)

set_option maxRecDepth 100000 in
set_option maxHeartbeats 4000000 in
theorem qback_nought (S : QuotTold) (w : World) (x y : Num) (M : Nat) (hx : x.ok w w.heap.size) (hy : y.ok w w.heap.size) (hg : great2 [x, y] = false) (hz : y.N = 0) :
    Calls Try.prog 3 #[.slice x.A x.n x.c, .slice y.A y.n y.c, .int .u32 M] w fun e w' => e = .returned (.bool true) ∧ Below w.heap.size w w' := by
  have hE0 : Env w [x, y] w := Env.start (by simp; exact ⟨hx, hy⟩)
  have bx := size2_2 hg
  have HG := Lib.hid hg
  have HZ := Lib.hid hz
  clear hg hx hy hz
  go_enter Try.func3, Try.ntmps3
  go_wp2_with fail
  refine (great2_E2 (x := x) (y := y) hE0 (by simp) (by simp) rfl).mono ?_
  rintro e V1 ⟨rfl, hE1⟩
  rw [HG.out]
  go_wp2_with fail
  refine (S.div _ _ _ x y hE1 (by simp) (by simp) (by omega) (by omega)).mono ?_
  rintro e V2 ⟨q, r, rfl, qN, qn, rN, rn, hE2⟩
  rw [HZ.out, Nat.div_zero] at qN qn
  rw [HZ.out, restN_zero] at rN rn
  rw [HZ.out, zeroE_zero]
  have q0 : q.n = 0 := qn
  have r0 : r.n = 0 := rn
  replace qN := Lib.hid qN
  replace qn := Lib.hid qn
  replace rN := Lib.hid rN
  replace rn := Lib.hid rn
  go_wp2_with fail
  refine (rTrim_E (x := y) hE2 (by simp)).mono ?_
  rintro e V3 ⟨t, rfl, tN, tn, hE3, -⟩
  rw [HZ.out] at tn
  have t0 : t.n = 0 := tn
  replace tN := Lib.hid tN
  replace tn := Lib.hid tn
  go_wp2_with fail
  refine (wakes3_E S hE3).mono ?_
  rintro e Vw ⟨rfl, hEw⟩
  go_wp2
  go_ret
  refine ⟨?_, hEw.1⟩
  first
  | rfl
  | (refine ret_bool ?_; simp; done)

set_option maxRecDepth 100000 in
set_option maxHeartbeats 4000000 in
theorem qback_limb (S : QuotTold) (w : World) (x y : Num) (M : Nat) (hx : x.ok w w.heap.size) (hy : y.ok w w.heap.size) (hM : M < 4294967296) (hg : great2 [x, y] = false) (hz : y.N ≠ 0) (hm : M = 0) :
    Calls Try.prog 3 #[.slice x.A x.n x.c, .slice y.A y.n y.c, .int .u32 M] w fun e w' => e = .returned (.bool true) ∧ Below w.heap.size w w' := by
  have hE0 : Env w [x, y] w := Env.start (by simp; exact ⟨hx, hy⟩)
  have bx := size2_2 hg
  have HG := Lib.hid hg
  have HXL := Lib.hid (len_of hx.1.1 (Nat.div_le_self x.N y.N))
  have HRL := Lib.hid (len_of hx.1.1 (restN_le x.N y.N))
  have HQM := Lib.hid (len_of hx.1.1 (Nat.le_of_add_right_le (Nat.le_of_eq (back_of_quot x.N hz))))
  have HB := Lib.hid (back_of_quot x.N hz)
  have HC := Lib.hid (cmpN_lt (restN_lt (N := x.N) hz))
  have HZE := Lib.hid (zeroE_pos hz)
  have HY := Lib.hid (lenL_pos hz)
  have HM := Lib.hid hm
  have HML := Lib.hid hM
  clear hg hx hy hz hm hM
  go_enter Try.func3, Try.ntmps3
  go_wp2_with fail
  refine (great2_E2 (x := x) (y := y) hE0 (by simp) (by simp) rfl).mono ?_
  rintro e V1 ⟨rfl, hE1⟩
  rw [HG.out]
  go_wp2_with fail
  refine (S.div _ _ _ x y hE1 (by simp) (by simp) (by omega) (by omega)).mono ?_
  rintro e V2 ⟨q, r, rfl, qN, qn, rN, rn, hE2⟩
  rw [HZE.out]
  have qb : q.n ≤ 120 := by rw [qn]; have h2 := HXL.out; omega
  have rb : r.n ≤ 120 := by rw [rn]; have h2 := HRL.out; omega
  replace qN := Lib.hid qN
  replace qn := Lib.hid qn
  replace rN := Lib.hid rN
  replace rn := Lib.hid rn
  go_wp2_with fail
  refine (rTrim_E (x := y) hE2 (by simp)).mono ?_
  rintro e V3 ⟨t, rfl, tN, tn, hE3, -⟩
  have t0 : 0 < t.n := by rw [tn]; exact HY.out
  have t1 : ((t.n : Int) == 0) = false := by rw [beq_eq_false_iff_ne]; omega
  replace tN := Lib.hid tN
  replace tn := Lib.hid tn
  go_wp2_with fail
  refine (rCmp_E (x := r) (y := y) hE3 (by simp) (by simp)).mono ?_
  rintro e V4 ⟨rfl, hE4⟩
  rw [rN.out, HC.out]
  go_wp2_with fail
  refine (rMul_E (x := q) (y := y) hE4 (by simp) (by simp) (by omega) (by omega)).mono ?_
  rintro e V5 ⟨m, rfl, mN, mn, hE5, -⟩
  rw [qN.out] at mN mn
  have mb : m.n ≤ 120 := by rw [mn]; have h2 := HQM.out; omega
  replace mN := Lib.hid mN
  replace mn := Lib.hid mn
  go_wp2_with fail
  refine (rAdd2_E (x := m) (y := r) hE5 (by simp) (by simp) rfl (by omega) (by omega)).mono ?_
  rintro e V6 ⟨a, rfl, aN, an, hE6, -⟩
  rw [mN.out, rN.out, HB.out] at aN an
  replace aN := Lib.hid aN
  replace an := Lib.hid an
  go_wp2_with fail
  refine (rTrim_E (x := x) hE6 (by simp)).mono ?_
  rintro e V7 ⟨b, rfl, bN, bn, hE7, -⟩
  replace bN := Lib.hid bN
  replace bn := Lib.hid bn
  go_wp2_with fail
  refine (same3_E (x := a) (y := b) hE7 (by simp) (by simp)).mono ?_
  rintro e V8 ⟨rfl, hE8⟩
  rw [same_of (show a.N = b.N by rw [aN.out, bN.out]) (by rw [an.out, aN.out]) (by rw [bn.out, bN.out])]
  go_wp2_with fail
  refine (S.short _ _ _ x M hE8 (by simp) (by omega) HML.out).mono ?_
  rintro e V9 ⟨s, rfl, sN, sn, hE9⟩
  obtain rfl : M = 0 := HM.out
  rw [zeroE_zero]
  replace sN := Lib.hid sN
  replace sn := Lib.hid sn
  go_wp2_with fail
  refine (wakes3_E S hE9).mono ?_
  rintro e Vw ⟨rfl, hEw⟩
  go_wp2
  go_ret
  refine ⟨?_, hEw.1⟩
  first
  | rfl
  | (refine ret_bool ?_; simp; done)

set_option maxRecDepth 100000 in
set_option maxHeartbeats 4000000 in
theorem qback_go (S : QuotTold) (w : World) (x y : Num) (M : Nat) (hx : x.ok w w.heap.size) (hy : y.ok w w.heap.size) (hM : M < 4294967296) (hg : great2 [x, y] = false) (hz : y.N ≠ 0) (hm : M ≠ 0) :
    Calls Try.prog 3 #[.slice x.A x.n x.c, .slice y.A y.n y.c, .int .u32 M] w fun e w' => e = .returned (.bool true) ∧ Below w.heap.size w w' := by
  have hE0 : Env w [x, y] w := Env.start (by simp; exact ⟨hx, hy⟩)
  have bx := size2_2 hg
  have HG := Lib.hid hg
  have HXL := Lib.hid (len_of hx.1.1 (Nat.div_le_self x.N y.N))
  have HRL := Lib.hid (len_of hx.1.1 (restN_le x.N y.N))
  have HQM := Lib.hid (len_of hx.1.1 (Nat.le_of_add_right_le (Nat.le_of_eq (back_of_quot x.N hz))))
  have HB := Lib.hid (back_of_quot x.N hz)
  have HC := Lib.hid (cmpN_lt (restN_lt (N := x.N) hz))
  have HZE := Lib.hid (zeroE_pos hz)
  have HY := Lib.hid (lenL_pos hz)
  have HMZ := Lib.hid (zeroE_pos hm)
  have hlt : restN x.N M < M := restN_lt hm
  have hlt' : restN x.N M < 4294967296 := by omega
  have HLT := Lib.hid hlt'
  have HML := Lib.hid hM
  clear hg hx hy hz hlt' hm hM
  go_enter Try.func3, Try.ntmps3
  go_wp2_with fail
  refine (great2_E2 (x := x) (y := y) hE0 (by simp) (by simp) rfl).mono ?_
  rintro e V1 ⟨rfl, hE1⟩
  rw [HG.out]
  go_wp2_with fail
  refine (S.div _ _ _ x y hE1 (by simp) (by simp) (by omega) (by omega)).mono ?_
  rintro e V2 ⟨q, r, rfl, qN, qn, rN, rn, hE2⟩
  rw [HZE.out]
  have qb : q.n ≤ 120 := by rw [qn]; have h2 := HXL.out; omega
  have rb : r.n ≤ 120 := by rw [rn]; have h2 := HRL.out; omega
  replace qN := Lib.hid qN
  replace qn := Lib.hid qn
  replace rN := Lib.hid rN
  replace rn := Lib.hid rn
  go_wp2_with fail
  refine (rTrim_E (x := y) hE2 (by simp)).mono ?_
  rintro e V3 ⟨t, rfl, tN, tn, hE3, -⟩
  have t0 : 0 < t.n := by rw [tn]; exact HY.out
  have t1 : ((t.n : Int) == 0) = false := by rw [beq_eq_false_iff_ne]; omega
  replace tN := Lib.hid tN
  replace tn := Lib.hid tn
  go_wp2_with fail
  refine (rCmp_E (x := r) (y := y) hE3 (by simp) (by simp)).mono ?_
  rintro e V4 ⟨rfl, hE4⟩
  rw [rN.out, HC.out]
  go_wp2_with fail
  refine (rMul_E (x := q) (y := y) hE4 (by simp) (by simp) (by omega) (by omega)).mono ?_
  rintro e V5 ⟨m, rfl, mN, mn, hE5, -⟩
  rw [qN.out] at mN mn
  have mb : m.n ≤ 120 := by rw [mn]; have h2 := HQM.out; omega
  replace mN := Lib.hid mN
  replace mn := Lib.hid mn
  go_wp2_with fail
  refine (rAdd2_E (x := m) (y := r) hE5 (by simp) (by simp) rfl (by omega) (by omega)).mono ?_
  rintro e V6 ⟨a, rfl, aN, an, hE6, -⟩
  rw [mN.out, rN.out, HB.out] at aN an
  replace aN := Lib.hid aN
  replace an := Lib.hid an
  go_wp2_with fail
  refine (rTrim_E (x := x) hE6 (by simp)).mono ?_
  rintro e V7 ⟨b, rfl, bN, bn, hE7, -⟩
  replace bN := Lib.hid bN
  replace bn := Lib.hid bn
  go_wp2_with fail
  refine (same3_E (x := a) (y := b) hE7 (by simp) (by simp)).mono ?_
  rintro e V8 ⟨rfl, hE8⟩
  rw [same_of (show a.N = b.N by rw [aN.out, bN.out]) (by rw [an.out, aN.out]) (by rw [bn.out, bN.out])]
  go_wp2_with fail
  refine (S.short _ _ _ x M hE8 (by simp) (by omega) HML.out).mono ?_
  rintro e V9 ⟨s, rfl, sN, sn, hE9⟩
  rw [HMZ.out]
  replace sN := Lib.hid sN
  replace sn := Lib.hid sn
  go_wp2_with fail
  have hEl := hE9.lit (N := M) (v := (M : Int)) rfl rfl HML.out
  refine (S.div _ _ _ x ⟨some ⟨V9.heap.size, 0, none⟩, 1, 1, M⟩ hEl (by simp) (by simp) (by omega) (by simp)).mono ?_
  rintro e V10 ⟨p, u, rfl, pN, pn, uN, un, hE10⟩
  rw [show zeroE (Num.mk (some ⟨V9.heap.size, 0, none⟩) 1 1 M).N = 0 from HMZ.out]
  replace pN := Lib.hid pN
  replace pn := Lib.hid pn
  replace uN := Lib.hid uN
  replace un := Lib.hid un
  go_wp2_with fail
  refine (same3_E (x := s) (y := p) hE10 (by simp) (by simp)).mono ?_
  rintro e V11 ⟨rfl, hE11⟩
  rw [same_of (show s.N = p.N by rw [sN.out, pN.out]) (by rw [sn.out, sN.out]) (by rw [pn.out, pN.out])]
  go_wp2_with fail
  have hEm := hE11.lit (N := restN x.N M) (v := (restN x.N M : Nat)) rfl rfl HLT.out
  refine (rTrim_E (x := ⟨some ⟨V11.heap.size, 0, none⟩, 1, 1, restN x.N M⟩) hEm (by simp)).mono ?_
  rintro e V12 ⟨d, rfl, dN, dn, hE12, -⟩
  replace dN := Lib.hid dN
  replace dn := Lib.hid dn
  go_wp2_with fail
  refine (same3_E (x := d) (y := u) hE12 (by simp) (by simp)).mono ?_
  rintro e V13 ⟨rfl, hE13⟩
  rw [same_of (show d.N = u.N by rw [dN.out, uN.out]) (by rw [dn.out, dN.out]) (by rw [un.out, uN.out])]
  go_wp2_with fail
  refine (wakes3_E S hE13).mono ?_
  rintro e Vw ⟨rfl, hEw⟩
  go_wp2
  go_ret
  refine ⟨?_, hEw.1⟩
  first
  | rfl
  | (refine ret_bool ?_; simp; done)

end Go.Proofs.Ytfijbocblmhdbaa
