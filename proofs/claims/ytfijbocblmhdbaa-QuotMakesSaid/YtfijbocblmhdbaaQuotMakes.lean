/- QuotMakes, over what the program's functions answer: a product and less more than it, divided, are what they were made of. -/
import Derived.Test.YtfijbocblmhdbaaQuotBack
namespace Go.Proofs.Ytfijbocblmhdbaa
open Go Go.ChangeShapes Go.WideShapes Go.ChangeAt Go.RowKit Go.Deep

theorem made_div {Q B R : Nat} (h : R < B) : (Q * B + R) / B = Q := by rw [Nat.mul_comm, Nat.mul_add_div (by omega), Nat.div_eq_of_lt h, Nat.add_zero]
theorem made_rest {Q B R : Nat} (h : R < B) : restN (Q * B + R) B = R := by rw [restN_pos (by omega), Nat.mul_comm, Nat.mul_add_mod, Nat.mod_eq_of_lt h]
theorem divides1_E {w W : World} {e : List Num} {x y : Num} {g : Nat} (S : QuotTold) (h : Env w e W) (hx : x ∈ e) (hy : y ∈ e) (hg : W.heap.size = g) (bx : x.n ≤ 100000) (by' : y.n ≤ 100000) :
    Calls Try.prog 15 #[.slice x.A x.n x.c, .slice (some ⟨g, 0, none⟩) 1 1] (W.alloc (.cells #[.slice y.A y.n y.c] 23)) fun e' W' => e' = .returned (.bool (decide (x.N ∣ y.N))) ∧ Env w e W' := by
  subst hg
  have h1 := S.divides w _ e x (some ⟨W.heap.size, 0, none⟩) 1 [y] (h.alloc _) hx bx (Rds.one (t := 23) (h.2 y hy)) (by simp) (by simp [maxLen]) (by simp) (by simp; exact by')
  simpa using h1
theorem cmpN_not {N M : Nat} (h : ¬ N < M) : 0 ≤ cmpN N M := cmpN_ge (by omega)

set_option maxRecDepth 100000 in
set_option maxHeartbeats 4000000 in
theorem qmakes_great (S : QuotTold) (w : World) (x y z : Num) (hx : x.ok w w.heap.size) (hy : y.ok w w.heap.size) (hz : z.ok w w.heap.size) (hg : great2 [x, y, z] = true) :
    Calls Try.prog 4 #[.slice x.A x.n x.c, .slice y.A y.n y.c, .slice z.A z.n z.c] w fun e w' => e = .returned (.bool true) ∧ Below w.heap.size w w' := by
  have hE0 : Env w [x, y, z] w := Env.start (by simp; exact ⟨hx, hy, hz⟩)
  have HG := Lib.hid hg
  clear hg hx hy hz
  go_enter Try.func4, Try.ntmps4
  go_wp2_with fail
  refine (great2_E3 (x := x) (y := y) (z := z) hE0 (by simp) (by simp) (by simp) rfl).mono ?_
  rintro e V1 ⟨rfl, hE1⟩
  rw [HG.out]
  go_wp2_with fail
  refine (wakes3_E S hE1).mono ?_
  rintro e Vw ⟨rfl, hEw⟩
  go_wp2
  go_ret
  refine ⟨?_, hEw.1⟩
  first
  | rfl
  | (refine ret_bool ?_; simp; done)

set_option maxRecDepth 100000 in
set_option maxHeartbeats 4000000 in
theorem qmakes_long (S : QuotTold) (w : World) (x y z : Num) (hx : x.ok w w.heap.size) (hy : y.ok w w.heap.size) (hz : z.ok w w.heap.size) (hg : great2 [x, y, z] = false) (hl : 60 < x.n + y.n + z.n) :
    Calls Try.prog 4 #[.slice x.A x.n x.c, .slice y.A y.n y.c, .slice z.A z.n z.c] w fun e w' => e = .returned (.bool true) ∧ Below w.heap.size w w' := by
  have hE0 : Env w [x, y, z] w := Env.start (by simp; exact ⟨hx, hy, hz⟩)
  have HG := Lib.hid hg
  have bx := size2_3 hg
  clear hg hx hy hz
  go_enter Try.func4, Try.ntmps4
  go_wp2_with fail
  refine (great2_E3 (x := x) (y := y) (z := z) hE0 (by simp) (by simp) (by simp) rfl).mono ?_
  rintro e V1 ⟨rfl, hE1⟩
  rw [HG.out]
  go_wp2_with fail
  refine (wakes3_E S hE1).mono ?_
  rintro e Vw ⟨rfl, hEw⟩
  go_wp2
  go_ret
  refine ⟨?_, hEw.1⟩
  first
  | rfl
  | (refine ret_bool ?_; simp; done)

set_option maxRecDepth 100000 in
set_option maxHeartbeats 4000000 in
theorem qmakes_more (S : QuotTold) (w : World) (x y z : Num) (hx : x.ok w w.heap.size) (hy : y.ok w w.heap.size) (hz : z.ok w w.heap.size) (hg : great2 [x, y, z] = false) (hl : x.n + y.n + z.n ≤ 60) (hc : ¬ z.N < y.N) :
    Calls Try.prog 4 #[.slice x.A x.n x.c, .slice y.A y.n y.c, .slice z.A z.n z.c] w fun e w' => e = .returned (.bool true) ∧ Below w.heap.size w w' := by
  have hE0 : Env w [x, y, z] w := Env.start (by simp; exact ⟨hx, hy, hz⟩)
  have HG := Lib.hid hg
  have HC : 0 ≤ cmpN z.N y.N := cmpN_not hc
  clear hg hx hy hz hc
  go_enter Try.func4, Try.ntmps4
  go_wp2_with fail
  refine (great2_E3 (x := x) (y := y) (z := z) hE0 (by simp) (by simp) (by simp) rfl).mono ?_
  rintro e V1 ⟨rfl, hE1⟩
  rw [HG.out]
  go_wp2_with fail
  refine (rCmp_E (x := z) (y := y) hE1 (by simp) (by simp)).mono ?_
  rintro e V2 ⟨rfl, hE2⟩
  go_wp2_with fail
  refine (wakes3_E S hE2).mono ?_
  rintro e Vw ⟨rfl, hEw⟩
  go_wp2
  go_ret
  refine ⟨?_, hEw.1⟩
  first
  | rfl
  | (refine ret_bool ?_; simp; done)

set_option maxRecDepth 100000 in
set_option maxHeartbeats 4000000 in
theorem qmakes_go (S : QuotTold) (w : World) (x y z : Num) (hx : x.ok w w.heap.size) (hy : y.ok w w.heap.size) (hz : z.ok w w.heap.size) (hg : great2 [x, y, z] = false) (hl : x.n + y.n + z.n ≤ 60) (hc : z.N < y.N) :
    Calls Try.prog 4 #[.slice x.A x.n x.c, .slice y.A y.n y.c, .slice z.A z.n z.c] w fun e w' => e = .returned (.bool true) ∧ Below w.heap.size w w' := by
  have hE0 : Env w [x, y, z] w := Env.start (by simp; exact ⟨hx, hy, hz⟩)
  have HG := Lib.hid hg
  have HC := Lib.hid (cmpN_lt hc)
  have HML := Lib.hid (mul_len hx.1.1 hy.1.1)
  have HAL := Lib.hid (lenL_add (Nat.lt_of_lt_of_le (prod_lt hx.1.1 hy.1.1) (Nat.pow_le_pow_right Bw_pos (Nat.le_add_right (x.n + y.n) z.n))) (Nat.lt_of_lt_of_le hz.1.1 (Nat.pow_le_pow_right Bw_pos (Nat.le_add_left z.n (x.n + y.n)))))
  have HZE := Lib.hid (zeroE_pos (show y.N ≠ 0 by omega))
  have HD := Lib.hid (made_div (Q := x.N) hc)
  have HR := Lib.hid (made_rest (Q := x.N) hc)
  clear hg hx hy hz hc
  go_enter Try.func4, Try.ntmps4
  go_wp2_with fail
  refine (great2_E3 (x := x) (y := y) (z := z) hE0 (by simp) (by simp) (by simp) rfl).mono ?_
  rintro e V1 ⟨rfl, hE1⟩
  rw [HG.out]
  go_wp2_with fail
  refine (rCmp_E (x := z) (y := y) hE1 (by simp) (by simp)).mono ?_
  rintro e V2 ⟨rfl, hE2⟩
  rw [HC.out]
  go_wp2_with fail
  refine (rMul_E (x := x) (y := y) hE2 (by simp) (by simp) (by omega) (by omega)).mono ?_
  rintro e V3 ⟨m, rfl, mN, mn, hE3, -⟩
  have mb : m.n ≤ 100 := by rw [mn]; have h2 := HML.out; omega
  replace mN := Lib.hid mN
  replace mn := Lib.hid mn
  go_wp2_with fail
  refine (rAdd2_E (x := m) (y := z) hE3 (by simp) (by simp) rfl (by omega) (by omega)).mono ?_
  rintro e V4 ⟨a, rfl, aN, an, hE4, -⟩
  rw [mN.out] at aN an
  have ab : a.n ≤ 100 := by rw [an]; have h2 := HAL.out; omega
  replace aN := Lib.hid aN
  replace an := Lib.hid an
  go_wp2_with fail
  refine (S.div _ _ _ a y hE4 (by simp) (by simp) (by omega) (by omega)).mono ?_
  rintro e V5 ⟨q, r, rfl, qN, qn, rN, rn, hE5⟩
  rw [HZE.out]
  rw [aN.out, HD.out] at qN qn
  rw [aN.out, HR.out] at rN rn
  replace qN := Lib.hid qN
  replace qn := Lib.hid qn
  replace rN := Lib.hid rN
  replace rn := Lib.hid rn
  go_wp2_with fail
  refine (rTrim_E (x := x) hE5 (by simp)).mono ?_
  rintro e V6 ⟨b, rfl, bN, bn, hE6, -⟩
  replace bN := Lib.hid bN
  replace bn := Lib.hid bn
  go_wp2_with fail
  refine (same3_E (x := q) (y := b) hE6 (by simp) (by simp)).mono ?_
  rintro e V7 ⟨rfl, hE7⟩
  rw [same_of (show q.N = b.N by rw [qN.out, bN.out]) (by rw [qn.out, qN.out]) (by rw [bn.out, bN.out])]
  go_wp2_with fail
  refine (rTrim_E (x := z) hE7 (by simp)).mono ?_
  rintro e V8 ⟨d, rfl, dN, dn, hE8, -⟩
  replace dN := Lib.hid dN
  replace dn := Lib.hid dn
  go_wp2_with fail
  refine (same3_E (x := r) (y := d) hE8 (by simp) (by simp)).mono ?_
  rintro e V9 ⟨rfl, hE9⟩
  rw [same_of (show r.N = d.N by rw [rN.out, dN.out]) (by rw [rn.out, rN.out]) (by rw [dn.out, dN.out])]
  go_wp2_with fail
  refine (rMul_E (x := x) (y := y) hE9 (by simp) (by simp) (by omega) (by omega)).mono ?_
  rintro e V10 ⟨v, rfl, vN, vn, hE10, -⟩
  have vb : v.n ≤ 100 := by rw [vn]; have h2 := HML.out; omega
  replace vN := Lib.hid vN
  replace vn := Lib.hid vn
  go_wp2_with fail
  refine (divides1_E (x := y) (y := v) S hE10 (by simp) (by simp) rfl (by omega) (by omega)).mono ?_
  rintro e V11 ⟨rfl, hE11⟩
  rw [decide_eq_true (show y.N ∣ v.N by rw [vN.out]; exact Nat.dvd_mul_left _ _)]
  go_wp2_with fail
  refine (wakes3_E S hE11).mono ?_
  rintro e Vw ⟨rfl, hEw⟩
  go_wp2
  go_ret
  refine ⟨?_, hEw.1⟩
  first
  | rfl
  | (refine ret_bool ?_; simp; done)

end Go.Proofs.Ytfijbocblmhdbaa
