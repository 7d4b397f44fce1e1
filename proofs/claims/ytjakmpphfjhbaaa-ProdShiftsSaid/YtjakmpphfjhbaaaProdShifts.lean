/- ProdShifts, over what the program's functions answer: down of up is the number, shifts are added, what down drops is less than the power of two. -/
import Derived.Test.YtjakmpphfjhbaaaProdBits
import Derived.Test.YtjakmpphfjhbaaaRSub
namespace Go.Proofs.Ytjakmpphfjhbaaa
open Go Go.ChangeShapes Go.WideShapes Go.ChangeAt Go.RowKit Go.Deep

theorem rSub_E {w W : World} {e : List Num} {x y : Num} (h : Env w e W) (hx : x ∈ e) (hy : y ∈ e) (bx : x.n ≤ 100000) (by' : y.n ≤ 100000) (hle : y.N ≤ x.N) :
    Calls Try.prog 27 #[.slice x.A x.n x.c, .slice y.A y.n y.c] W (Back w e W.heap.size (x.N - y.N) (fun r => .tuple #[.slice r.A r.n r.c, .int .i64 0])) := by
  have hlen := Nat.le_trans (lenL_mono (Nat.sub_le x.N y.N)) (lenL_le.2 (h.2 x hx).1.1)
  refine (rSub_yes W _ _ _ _ _ _ _ _ (h.2 x hx).1 (h.2 y hy).1 bx by' hle).mono fun e W' hg => ?_
  obtain ⟨A, c, he, hc, hm, hF, hb⟩ := hg
  exact ⟨⟨A, lenL (x.N - y.N), c, x.N - y.N⟩, he, rfl, rfl, (h.step hb).add (hF.ok hc hm (by omega)), hF⟩
theorem bits_two (K : Nat) : bitsN (2 ^ K) = K + 1 := bitsN_eq (Nat.le_refl _) (Nat.pow_lt_pow_right (by omega) (by omega))
theorem two_len {K : Nat} (h : K ≤ 256) : lenL (2 ^ K) ≤ 257 := by
  have := pow_len (N := 2) (n := 1) (by decide) K
  omega
theorem rest_lt (N K : Nat) : N - N / 2 ^ K * 2 ^ K < 2 ^ K := by
  have h1 := Nat.div_add_mod N (2 ^ K)
  have h2 := Nat.mod_lt N (Nat.two_pow_pos K)
  rw [Nat.mul_comm] at h1
  omega

set_option maxRecDepth 100000 in
set_option maxHeartbeats 2000000 in
theorem pshift_great (S : ProdTold) (w : World) (x : Num) (k m : Int) (hx : x.ok w w.heap.size) (hg : great2 [x] = true) :
    Calls Try.prog 5 #[.slice x.A x.n x.c, .int .i64 k, .int .i64 m] w fun e w' => e = .returned (.bool true) ∧ Below w.heap.size w w' := by
  have hE : Env w [x] w := Env.start (by simp; exact hx)
  have HG := Lib.hid hg
  clear hg hx
  go_enter Try.func5, Try.ntmps5
  go_wp2_with fail
  refine (great2_E1 (x := x) hE (by simp) rfl).mono ?_
  rintro e W ⟨rfl, hE1⟩
  rw [HG.out]
  go_wp2_with fail
  refine (wakes2_E S hE1).mono ?_
  rintro e W2 ⟨rfl, hE2⟩
  go_wp2
  go_ret
  exact ⟨rfl, hE2.1⟩

set_option maxRecDepth 100000 in
set_option maxHeartbeats 2000000 in
theorem pshift_far (S : ProdTold) (w : World) (x : Num) (k m : Int) (hx : x.ok w w.heap.size) (hg : great2 [x] = false) (h : k < 0 ∨ (0 ≤ k ∧ 256 < k) ∨ (0 ≤ k ∧ k ≤ 256 ∧ m < 0) ∨ (0 ≤ k ∧ k ≤ 256 ∧ 0 ≤ m ∧ 256 < m)) :
    Calls Try.prog 5 #[.slice x.A x.n x.c, .int .i64 k, .int .i64 m] w fun e w' => e = .returned (.bool true) ∧ Below w.heap.size w w' := by
  have hE : Env w [x] w := Env.start (by simp; exact hx)
  have HG := Lib.hid hg
  clear hg hx
  rcases h with h2 | ⟨h2, h3⟩ | ⟨h2, h3, h4⟩ | ⟨h2, h3, h4, h5⟩
  all_goals
    go_enter Try.func5, Try.ntmps5
    go_wp2_with fail
    refine (great2_E1 (x := x) hE (by simp) rfl).mono ?_
    rintro e W ⟨rfl, hE1⟩
    rw [HG.out]
    go_wp2_with fail
    refine (wakes2_E S hE1).mono ?_
    rintro e W2 ⟨rfl, hE2⟩
    go_wp2
    go_ret
    exact ⟨rfl, hE2.1⟩

set_option maxRecDepth 100000 in
set_option maxHeartbeats 4000000 in
theorem pshift_go (S : ProdTold) (w : World) (x : Num) (K M : Nat) (hx : x.ok w w.heap.size) (hg : great2 [x] = false) (hK : K ≤ 256) (hM : M ≤ 256) :
    Calls Try.prog 5 #[.slice x.A x.n x.c, .int .i64 K, .int .i64 M] w fun e w' => e = .returned (.bool true) ∧ Below w.heap.size w w' := by
  have hE : Env w [x] w := Env.start (by simp; exact hx)
  have bx := size2_1 hg
  have HG := Lib.hid hg
  have HUL := Lib.hid (up_len hx.1.1 K)
  have HXL := Lib.hid (lenL_le.2 hx.1.1)
  have HDL := Lib.hid (Nat.le_trans (lenL_mono (Nat.div_le_self x.N (2 ^ K))) (lenL_le.2 hx.1.1))
  have HBL := Lib.hid (Nat.le_trans (lenL_mono (Nat.div_mul_le_self x.N (2 ^ K))) (lenL_le.2 hx.1.1))
  have HTL := Lib.hid (two_len hK)
  have HC := Lib.hid (cmpN_lt (rest_lt x.N K))
  have T0 := Lib.hid (show min ((K : Int)).toNat 256 = K by omega)
  have T1 := Lib.hid (show min ((K : Int) + (M : Int)).toNat 65536 = K + M by omega)
  have T2 := Lib.hid (show min ((K : Int)).toNat 65536 = K by omega)
  have T3 := Lib.hid (show min ((M : Int)).toNat 65536 = M by omega)
  have TB := Lib.hid (bits_two K)
  clear hg hx
  go_enter Try.func5, Try.ntmps5
  go_wp2_with fail
  refine (great2_E1 (x := x) hE (by simp) rfl).mono ?_
  rintro e W ⟨rfl, hE0⟩
  rw [HG.out]
  go_wp2_with fail
  have hE1 := hE0.lit (N := 2) (v := 2) rfl rfl (by omega)
  refine (S.pow _ _ _ ⟨some ⟨W.heap.size, 0, none⟩, 1, 1, 2⟩ (K : Int) hE1 (by simp) (by simp) (by omega)).mono ?_
  rintro e V2 ⟨t, rfl, tN, tn, hE2, -⟩
  rw [T0.out] at tN tn
  replace tN : t.N = 2 ^ K := tN
  replace tn : t.n = lenL (2 ^ K) := tn
  have tb : t.n ≤ 300 := by rw [tn]; have h2 := HTL.out; omega
  replace tN := Lib.hid tN
  replace tn := Lib.hid tn
  go_wp2_with fail
  refine (S.up _ _ _ x (K : Int) hE2 (by simp) (by omega) (by omega)).mono ?_
  rintro e V3 ⟨u, rfl, uN, un, hE3, -⟩
  rw [T2.out] at uN un
  have ub : u.n ≤ 300 := by rw [un]; have h2 := HUL.out; omega
  replace uN := Lib.hid uN
  replace un := Lib.hid un
  go_wp2_with fail
  refine (S.down _ _ _ u (K : Int) hE3 (by simp) (by omega) (by omega)).mono ?_
  rintro e V4 ⟨a, rfl, aN, an, hE4, -⟩
  rw [T2.out] at aN an
  replace aN := Lib.hid aN
  replace an := Lib.hid an
  go_wp2_with fail
  refine (rTrim_E (x := x) hE4 (by simp)).mono ?_
  rintro e V5 ⟨b, rfl, bN, bn, hE5, -⟩
  replace bN := Lib.hid bN
  replace bn := Lib.hid bn
  go_wp2_with fail
  refine (same2_E (x := a) (y := b) hE5 (by simp) (by simp)).mono ?_
  rintro e V6 ⟨rfl, hE6⟩
  rw [same_of (show a.N = b.N by rw [aN.out, bN.out, uN.out, Nat.mul_div_cancel _ (Nat.two_pow_pos K)]) (by rw [an.out, aN.out]) (by rw [bn.out, bN.out])]
  go_wp2_with fail
  refine (S.mul _ _ _ x t hE6 (by simp) (by simp) (by omega) (by omega)).mono ?_
  rintro e V7 ⟨d, rfl, dN, dn, hE7, -⟩
  replace dN := Lib.hid dN
  replace dn := Lib.hid dn
  go_wp2_with fail
  refine (same2_E (x := u) (y := d) hE7 (by simp) (by simp)).mono ?_
  rintro e V8 ⟨rfl, hE8⟩
  rw [same_of (show u.N = d.N by rw [uN.out, dN.out, tN.out]) (by rw [un.out, uN.out]) (by rw [dn.out, dN.out])]
  go_wp2_with fail
  refine (S.up _ _ _ u (M : Int) hE8 (by simp) (by omega) (by omega)).mono ?_
  rintro e V9 ⟨f, rfl, fN, fn, hE9, -⟩
  rw [T3.out] at fN fn
  replace fN := Lib.hid fN
  replace fn := Lib.hid fn
  go_wp2_with fail
  refine (S.up _ _ _ x ((K : Int) + (M : Int)) hE9 (by simp) (by omega) (by omega)).mono ?_
  rintro e V10 ⟨g, rfl, gN, gn, hE10, -⟩
  rw [T1.out] at gN gn
  replace gN := Lib.hid gN
  replace gn := Lib.hid gn
  go_wp2_with fail
  refine (same2_E (x := f) (y := g) hE10 (by simp) (by simp)).mono ?_
  rintro e V11 ⟨rfl, hE11⟩
  rw [same_of (show f.N = g.N by rw [fN.out, gN.out, uN.out, Nat.mul_assoc, Nat.pow_add]) (by rw [fn.out, fN.out]) (by rw [gn.out, gN.out])]
  go_wp2_with fail
  refine (S.down _ _ _ x (K : Int) hE11 (by simp) (by omega) (by omega)).mono ?_
  rintro e V12 ⟨h, rfl, hN, hn, hE12, -⟩
  rw [T2.out] at hN hn
  have hb : h.n ≤ 300 := by rw [hn]; have h2 := HDL.out; omega
  replace hN := Lib.hid hN
  replace hn := Lib.hid hn
  go_wp2_with fail
  refine (S.down _ _ _ h (M : Int) hE12 (by simp) (by omega) (by omega)).mono ?_
  rintro e V13 ⟨ii, rfl, iiN, iin, hE13, -⟩
  rw [T3.out] at iiN iin
  replace iiN := Lib.hid iiN
  replace iin := Lib.hid iin
  go_wp2_with fail
  refine (S.down _ _ _ x ((K : Int) + (M : Int)) hE13 (by simp) (by omega) (by omega)).mono ?_
  rintro e V14 ⟨j, rfl, jN, jn, hE14, -⟩
  rw [T1.out] at jN jn
  replace jN := Lib.hid jN
  replace jn := Lib.hid jn
  go_wp2_with fail
  refine (same2_E (x := ii) (y := j) hE14 (by simp) (by simp)).mono ?_
  rintro e V15 ⟨rfl, hE15⟩
  rw [same_of (show ii.N = j.N by rw [iiN.out, jN.out, hN.out, Nat.div_div_eq_div_mul, Nat.pow_add]) (by rw [iin.out, iiN.out]) (by rw [jn.out, jN.out])]
  go_wp2_with fail
  refine (S.down _ _ _ x (K : Int) hE15 (by simp) (by omega) (by omega)).mono ?_
  rintro e V16 ⟨q, rfl, qN, qn, hE16, -⟩
  rw [T2.out] at qN qn
  have qb : q.n ≤ 300 := by rw [qn]; have h2 := HDL.out; omega
  replace qN := Lib.hid qN
  replace qn := Lib.hid qn
  go_wp2_with fail
  refine (S.up _ _ _ q (K : Int) hE16 (by simp) (by omega) (by omega)).mono ?_
  rintro e V17 ⟨r, rfl, rN, rn, hE17, -⟩
  rw [T2.out, qN.out] at rN rn
  have rb : r.n ≤ 300 := by rw [rn]; have h2 := HBL.out; omega
  replace rN := Lib.hid rN
  replace rn := Lib.hid rn
  go_wp2_with fail
  refine (rSub_E (x := x) (y := r) hE17 (by simp) (by simp) (by omega) (by omega) (by rw [rN.out]; exact Nat.div_mul_le_self _ _)).mono ?_
  rintro e V18 ⟨v, rfl, vN, vn, hE18, -⟩
  rw [rN.out] at vN vn
  replace vN := Lib.hid vN
  replace vn := Lib.hid vn
  go_wp2_with fail
  refine (rCmp_E (x := v) (y := t) hE18 (by simp) (by simp)).mono ?_
  rintro e V19 ⟨rfl, hE19⟩
  rw [vN.out, tN.out, HC.out]
  go_wp2_with fail
  refine (S.bits _ _ _ t hE19 (by simp) (by omega)).mono ?_
  rintro e V20 ⟨rfl, hE20⟩
  rw [tN.out, TB.out]
  go_wp2_with fail
  refine (wakes2_E S hE20).mono ?_
  rintro e Vw ⟨rfl, hEw⟩
  go_wp2
  go_ret
  refine ⟨?_, hEw.1⟩
  first
  | rfl
  | (refine ret_bool ?_; simp; done)
end Go.Proofs.Ytjakmpphfjhbaaa
