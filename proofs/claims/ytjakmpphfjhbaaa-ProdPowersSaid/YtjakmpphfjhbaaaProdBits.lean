/- ProdBits, over what the program's functions answer: how many bits a product has, and what a number's bits say. -/
import Derived.Test.YtjakmpphfjhbaaaProdOrder
import Derived.Test.YtjakmpphfjhbaaaRCmp
namespace Go.Proofs.Ytjakmpphfjhbaaa
open Go Go.ChangeShapes Go.WideShapes Go.ChangeAt Go.RowKit Go.Deep

theorem bitsN_pos {N : Nat} (h : N ≠ 0) : 0 < bitsN N := by unfold bitsN; rw [if_neg h]; omega
theorem bitsN_ge {N : Nat} (h : N ≠ 0) : 2 ^ (bitsN N - 1) ≤ N := by
  have h1 : ¬ N < 2 ^ (bitsN N - 1) := fun hh => by have := bitsN_le.2 hh; have := bitsN_pos h; omega
  omega
theorem bitsN_lt (N : Nat) : N < 2 ^ bitsN N := bitsN_le.1 (Nat.le_refl _)
theorem bits_prod {N M : Nat} (h : N ≠ 0) (h' : M ≠ 0) : bitsN (N * M) = bitsN N + bitsN M ∨ bitsN (N * M) + 1 = bitsN N + bitsN M := by
  have a1 := bitsN_pos h
  have a2 := bitsN_pos h'
  have h1 : N * M < 2 ^ (bitsN N + bitsN M) := by rw [Nat.pow_add]; exact Nat.mul_lt_mul'' (bitsN_lt N) (bitsN_lt M)
  have h2 : 2 ^ (bitsN N - 1 + (bitsN M - 1)) ≤ N * M := by rw [Nat.pow_add]; exact Nat.mul_le_mul (bitsN_ge h) (bitsN_ge h')
  have h3 := bitsN_le.2 h1
  have h4 : ¬ bitsN (N * M) ≤ bitsN N - 1 + (bitsN M - 1) := fun hh => by have := bitsN_le.1 hh; omega
  omega
theorem bits_limbs {N n : Nat} (h : N < Bw ^ n) : bitsN N ≤ 32 * n := bitsN_le.2 (by rw [← Bw_pow]; exact h)
theorem cmpN_ge {N M : Nat} (h : M ≤ N) : 0 ≤ cmpN N M := by unfold cmpN; rw [if_neg (by omega)]; split <;> omega

set_option maxRecDepth 100000 in
set_option maxHeartbeats 2000000 in
theorem pbits_great (S : ProdTold) (w : World) (x y : Num) (hx : x.ok w w.heap.size) (hy : y.ok w w.heap.size) (hg : great2 [x, y] = true) :
    Calls Try.prog 6 #[.slice x.A x.n x.c, .slice y.A y.n y.c] w fun e w' => e = .returned (.bool true) ∧ Below w.heap.size w w' := by
  have hE : Env w [x, y] w := Env.start (by simp; exact ⟨hx, hy⟩)
  have HG := Lib.hid hg
  clear hg hx hy
  go_enter Try.func6, Try.ntmps6
  go_wp2_with fail
  refine (great2_E2 (x := x) (y := y) hE (by simp) (by simp) rfl).mono ?_
  rintro e W ⟨rfl, hE1⟩
  rw [HG.out]
  go_wp2_with fail
  refine (wakes2_E S hE1).mono ?_
  rintro e W2 ⟨rfl, hE2⟩
  go_wp2
  go_ret
  exact ⟨rfl, hE2.1⟩

set_option maxRecDepth 100000 in
set_option maxHeartbeats 4000000 in
theorem pbits_none (S : ProdTold) (w : World) (x y : Num) (hx : x.ok w w.heap.size) (hy : y.ok w w.heap.size) (hg : great2 [x, y] = false) (hz1 : x.N = 0) (hz2 : y.N = 0) :
    Calls Try.prog 6 #[.slice x.A x.n x.c, .slice y.A y.n y.c] w fun e w' => e = .returned (.bool true) ∧ Below w.heap.size w w' := by
  have hE : Env w [x, y] w := Env.start (by simp; exact ⟨hx, hy⟩)
  obtain ⟨bx, by'⟩ := size2_2 hg
  have HXY := Lib.hid (mul_len hx.1.1 hy.1.1)
  have HZ1 := Lib.hid hz1
  have HZ2 := Lib.hid hz2
  have HB1 := Lib.hid (show bitsN x.N = 0 by rw [hz1]; rfl)
  have HB2 := Lib.hid (show bitsN y.N = 0 by rw [hz2]; rfl)
  have HB3 := Lib.hid (show bitsN (x.N * y.N) = 0 by rw [hz1, Nat.zero_mul]; rfl)
  clear hz1 hz2
  have HG := Lib.hid hg
  clear hg hx hy
  go_enter Try.func6, Try.ntmps6
  go_wp2_with fail
  refine (great2_E2 (x := x) (y := y) hE (by simp) (by simp) rfl).mono ?_
  rintro e W ⟨rfl, hE1⟩
  rw [HG.out]
  go_wp2_with fail
  refine (S.bits _ _ _ x hE1 (by simp) (by omega)).mono ?_
  rintro e V2 ⟨rfl, hE2⟩
  rw [HB1.out]
  go_wp2_with fail
  refine (S.bits _ _ _ y hE2 (by simp) (by omega)).mono ?_
  rintro e V3 ⟨rfl, hE3⟩
  rw [HB2.out]
  go_wp2_with fail
  refine (S.mul _ _ _ x y hE3 (by simp) (by simp) (by omega) (by omega)).mono ?_
  rintro e V4 ⟨p, rfl, pN, pn, hE4, -⟩
  have pb : p.n ≤ 240 := by rw [pn]; have := HXY.out; omega
  replace pN := Lib.hid pN
  clear pn
  go_wp2_with fail
  refine (S.bits _ _ _ p hE4 (by simp) (by omega)).mono ?_
  rintro e V5 ⟨rfl, hE5⟩
  rw [pN.out, HB3.out]
  go_wp2_with fail
  refine (rTrim_E (x := x) hE5 (by simp)).mono ?_
  rintro e V6 ⟨⟨A5, n5, c5, N5⟩, rfl, N5N, n5n, hE6, -⟩
  obtain rfl : n5 = 0 := by have h9 : n5 = lenL x.N := n5n; rw [h9, HZ1.out]; rfl
  clear N5N n5n
  go_wp2_with fail
  refine (rTrim_E (x := y) hE6 (by simp)).mono ?_
  rintro e V7 ⟨⟨A6, n6, c6, N6⟩, rfl, N6N, n6n, hE7, -⟩
  obtain rfl : n6 = 0 := by have h9 : n6 = lenL y.N := n6n; rw [h9, HZ2.out]; rfl
  clear N6N n6n
  go_wp2_with fail
  refine (wakes2_E S hE7).mono ?_
  rintro e Vw ⟨rfl, hEw⟩
  go_wp2
  go_ret
  exact ⟨rfl, hEw.1⟩

set_option maxRecDepth 100000 in
set_option maxHeartbeats 4000000 in
theorem pbits_first (S : ProdTold) (w : World) (x y : Num) (hx : x.ok w w.heap.size) (hy : y.ok w w.heap.size) (hg : great2 [x, y] = false) (hz1 : x.N = 0) (hz2 : y.N ≠ 0) :
    Calls Try.prog 6 #[.slice x.A x.n x.c, .slice y.A y.n y.c] w fun e w' => e = .returned (.bool true) ∧ Below w.heap.size w w' := by
  have hE : Env w [x, y] w := Env.start (by simp; exact ⟨hx, hy⟩)
  obtain ⟨bx, by'⟩ := size2_2 hg
  have HXY := Lib.hid (mul_len hx.1.1 hy.1.1)
  have HZ1 := Lib.hid hz1
  have hbp := bitsN_pos hz2
  have hbl := bits_limbs hy.1.1
  obtain ⟨bm, hbm⟩ : ∃ bm, bitsN y.N = bm := ⟨_, rfl⟩
  rw [hbm] at hbp hbl
  have HB1 := Lib.hid (show bitsN x.N = 0 by rw [hz1]; rfl)
  have HB2 := Lib.hid hbm
  have HB3 := Lib.hid (show bitsN (x.N * y.N) = 0 by rw [hz1, Nat.zero_mul]; rfl)
  clear hz1 hz2 hbm
  have HG := Lib.hid hg
  clear hg hx hy
  go_enter Try.func6, Try.ntmps6
  go_wp2_with fail
  refine (great2_E2 (x := x) (y := y) hE (by simp) (by simp) rfl).mono ?_
  rintro e W ⟨rfl, hE1⟩
  rw [HG.out]
  go_wp2_with fail
  refine (S.bits _ _ _ x hE1 (by simp) (by omega)).mono ?_
  rintro e V2 ⟨rfl, hE2⟩
  rw [HB1.out]
  go_wp2_with fail
  refine (S.bits _ _ _ y hE2 (by simp) (by omega)).mono ?_
  rintro e V3 ⟨rfl, hE3⟩
  rw [HB2.out]
  go_wp2_with fail
  refine (S.mul _ _ _ x y hE3 (by simp) (by simp) (by omega) (by omega)).mono ?_
  rintro e V4 ⟨p, rfl, pN, pn, hE4, -⟩
  have pb : p.n ≤ 240 := by rw [pn]; have := HXY.out; omega
  replace pN := Lib.hid pN
  clear pn
  go_wp2_with fail
  refine (S.bits _ _ _ p hE4 (by simp) (by omega)).mono ?_
  rintro e V5 ⟨rfl, hE5⟩
  rw [pN.out, HB3.out]
  go_wp2_with fail
  refine (rTrim_E (x := x) hE5 (by simp)).mono ?_
  rintro e V6 ⟨⟨A5, n5, c5, N5⟩, rfl, N5N, n5n, hE6, -⟩
  obtain rfl : n5 = 0 := by have h9 : n5 = lenL x.N := n5n; rw [h9, HZ1.out]; rfl
  clear N5N n5n
  go_wp2_with fail
  refine (wakes2_E S hE6).mono ?_
  rintro e Vw ⟨rfl, hEw⟩
  go_wp2
  go_ret
  exact ⟨rfl, hEw.1⟩

set_option maxRecDepth 100000 in
set_option maxHeartbeats 4000000 in
theorem pbits_second (S : ProdTold) (w : World) (x y : Num) (hx : x.ok w w.heap.size) (hy : y.ok w w.heap.size) (hg : great2 [x, y] = false) (hz1 : x.N ≠ 0) (hz2 : y.N = 0) :
    Calls Try.prog 6 #[.slice x.A x.n x.c, .slice y.A y.n y.c] w fun e w' => e = .returned (.bool true) ∧ Below w.heap.size w w' := by
  have hE : Env w [x, y] w := Env.start (by simp; exact ⟨hx, hy⟩)
  obtain ⟨bx, by'⟩ := size2_2 hg
  have HXY := Lib.hid (mul_len hx.1.1 hy.1.1)
  have HZ2 := Lib.hid hz2
  have hbp := bitsN_pos hz1
  have hbl := bits_limbs hx.1.1
  obtain ⟨bn, hbn⟩ : ∃ bn, bitsN x.N = bn := ⟨_, rfl⟩
  rw [hbn] at hbp hbl
  have HB1 := Lib.hid hbn
  have HB2 := Lib.hid (show bitsN y.N = 0 by rw [hz2]; rfl)
  have HB3 := Lib.hid (show bitsN (x.N * y.N) = 0 by rw [hz2, Nat.mul_zero]; rfl)
  clear hz1 hz2 hbn
  have HG := Lib.hid hg
  clear hg hx hy
  go_enter Try.func6, Try.ntmps6
  go_wp2_with fail
  refine (great2_E2 (x := x) (y := y) hE (by simp) (by simp) rfl).mono ?_
  rintro e W ⟨rfl, hE1⟩
  rw [HG.out]
  go_wp2_with fail
  refine (S.bits _ _ _ x hE1 (by simp) (by omega)).mono ?_
  rintro e V2 ⟨rfl, hE2⟩
  rw [HB1.out]
  go_wp2_with fail
  refine (S.bits _ _ _ y hE2 (by simp) (by omega)).mono ?_
  rintro e V3 ⟨rfl, hE3⟩
  rw [HB2.out]
  go_wp2_with fail
  refine (S.mul _ _ _ x y hE3 (by simp) (by simp) (by omega) (by omega)).mono ?_
  rintro e V4 ⟨p, rfl, pN, pn, hE4, -⟩
  have pb : p.n ≤ 240 := by rw [pn]; have := HXY.out; omega
  replace pN := Lib.hid pN
  clear pn
  go_wp2_with fail
  refine (S.bits _ _ _ p hE4 (by simp) (by omega)).mono ?_
  rintro e V5 ⟨rfl, hE5⟩
  rw [pN.out, HB3.out]
  go_wp2_with fail
  refine (rTrim_E (x := y) hE5 (by simp)).mono ?_
  rintro e V6 ⟨⟨A5, n5, c5, N5⟩, rfl, N5N, n5n, hE6, -⟩
  obtain rfl : n5 = 0 := by have h9 : n5 = lenL y.N := n5n; rw [h9, HZ2.out]; rfl
  clear N5N n5n
  go_wp2_with fail
  refine (wakes2_E S hE6).mono ?_
  rintro e Vw ⟨rfl, hEw⟩
  go_wp2
  go_ret
  exact ⟨rfl, hEw.1⟩

set_option maxRecDepth 100000 in
set_option maxHeartbeats 4000000 in
theorem pbits_sum (S : ProdTold) (w : World) (x y : Num) (hx : x.ok w w.heap.size) (hy : y.ok w w.heap.size) (hg : great2 [x, y] = false) (hz1 : x.N ≠ 0) (hz2 : y.N ≠ 0) (hbb : bitsN (x.N * y.N) = bitsN x.N + bitsN y.N) :
    Calls Try.prog 6 #[.slice x.A x.n x.c, .slice y.A y.n y.c] w fun e w' => e = .returned (.bool true) ∧ Below w.heap.size w w' := by
  have hE : Env w [x, y] w := Env.start (by simp; exact ⟨hx, hy⟩)
  obtain ⟨bx, by'⟩ := size2_2 hg
  have HXY := Lib.hid (mul_len hx.1.1 hy.1.1)
  have hbp := bitsN_pos hz1
  have hbp2 := bitsN_pos hz2
  have hbl := bits_limbs hx.1.1
  have hbl2 := bits_limbs hy.1.1
  have hlt := bitsN_lt x.N
  have hge := bitsN_ge hz1
  obtain ⟨bn, hbn⟩ : ∃ bn, bitsN x.N = bn := ⟨_, rfl⟩
  obtain ⟨bm, hbm⟩ : ∃ bm, bitsN y.N = bm := ⟨_, rfl⟩
  rw [hbn] at hbp hbl hlt hge hbb
  rw [hbm] at hbp2 hbl2 hbb
  have HB1 := Lib.hid hbn
  have HB2 := Lib.hid hbm
  have HB3 := Lib.hid (show bitsN (x.N * y.N) = bn + bm by omega)
  have HC1 := Lib.hid (cmpN_lt hlt)
  obtain ⟨cq, hcq⟩ : ∃ cq, cmpN x.N (2 ^ (bn - 1)) = cq := ⟨_, rfl⟩
  have hcq0 : 0 ≤ cq := by rw [← hcq]; exact cmpN_ge hge
  have HC2 := Lib.hid hcq
  have hb1 : ((bn : Int) == 0) = false := by rw [beq_eq_false_iff_ne]; omega
  have hb2 : ((bm : Int) == 0) = false := by rw [beq_eq_false_iff_ne]; omega
  clear hz1 hz2 hbn hbm hbb hlt hge hcq
  have HG := Lib.hid hg
  clear hg hx hy
  go_enter Try.func6, Try.ntmps6
  go_wp2_with fail
  refine (great2_E2 (x := x) (y := y) hE (by simp) (by simp) rfl).mono ?_
  rintro e W ⟨rfl, hE1⟩
  rw [HG.out]
  go_wp2_with fail
  refine (S.bits _ _ _ x hE1 (by simp) (by omega)).mono ?_
  rintro e V2 ⟨rfl, hE2⟩
  rw [HB1.out]
  go_wp2_with fail
  refine (S.bits _ _ _ y hE2 (by simp) (by omega)).mono ?_
  rintro e V3 ⟨rfl, hE3⟩
  rw [HB2.out]
  go_wp2_with fail
  refine (S.mul _ _ _ x y hE3 (by simp) (by simp) (by omega) (by omega)).mono ?_
  rintro e V4 ⟨p, rfl, pN, pn, hE4, -⟩
  have pb : p.n ≤ 240 := by rw [pn]; have := HXY.out; omega
  replace pN := Lib.hid pN
  clear pn
  go_wp2_with fail
  refine (S.bits _ _ _ p hE4 (by simp) (by omega)).mono ?_
  rintro e V5 ⟨rfl, hE5⟩
  rw [pN.out, HB3.out]
  go_wp2_with fail
  have hL := hE5.lit (N := 1) (v := 1) rfl rfl (by omega)
  refine (S.up _ _ _ ⟨some ⟨V5.heap.size, 0, none⟩, 1, 1, 1⟩ (bn : Int) hL (by simp) (by simp) (by omega)).mono ?_
  rintro e V6 ⟨u, rfl, uN, -, hE6, -⟩
  have hu : u.N = 2 ^ bn := by rw [uN, show min ((bn : Int)).toNat 65536 = bn by omega, Nat.one_mul]
  replace hu := Lib.hid hu
  clear uN
  go_wp2_with fail
  refine (rCmp_E (x := x) (y := u) hE6 (by simp) (by simp)).mono ?_
  rintro e V7 ⟨rfl, hE7⟩
  rw [hu.out, HC1.out]
  go_wp2_with fail
  have hL2 := (hE7.pick (e' := [x]) (by simp)).lit (N := 1) (v := 1) rfl rfl (by omega)
  refine (S.up _ _ _ ⟨some ⟨V7.heap.size, 0, none⟩, 1, 1, 1⟩ ((bn : Int) - 1) hL2 (by simp) (by simp) (by omega)).mono ?_
  rintro e V8 ⟨u2, rfl, uN2, -, hE8, -⟩
  have hu2 : u2.N = 2 ^ (bn - 1) := by rw [uN2, show min ((bn : Int) - 1).toNat 65536 = bn - 1 by omega, Nat.one_mul]
  replace hu2 := Lib.hid hu2
  clear uN2
  go_wp2_with fail
  refine (rCmp_E (x := x) (y := u2) hE8 (by simp) (by simp)).mono ?_
  rintro e V9 ⟨rfl, hE9⟩
  rw [hu2.out, HC2.out]
  go_wp2_with fail
  refine (wakes2_E S hE9).mono ?_
  rintro e Vw ⟨rfl, hEw⟩
  go_wp2
  go_ret
  exact ⟨rfl, hEw.1⟩

set_option maxRecDepth 100000 in
set_option maxHeartbeats 4000000 in
theorem pbits_less (S : ProdTold) (w : World) (x y : Num) (hx : x.ok w w.heap.size) (hy : y.ok w w.heap.size) (hg : great2 [x, y] = false) (hz1 : x.N ≠ 0) (hz2 : y.N ≠ 0) (hbb : bitsN (x.N * y.N) + 1 = bitsN x.N + bitsN y.N) :
    Calls Try.prog 6 #[.slice x.A x.n x.c, .slice y.A y.n y.c] w fun e w' => e = .returned (.bool true) ∧ Below w.heap.size w w' := by
  have hE : Env w [x, y] w := Env.start (by simp; exact ⟨hx, hy⟩)
  obtain ⟨bx, by'⟩ := size2_2 hg
  have HXY := Lib.hid (mul_len hx.1.1 hy.1.1)
  have hbp := bitsN_pos hz1
  have hbp2 := bitsN_pos hz2
  have hbl := bits_limbs hx.1.1
  have hbl2 := bits_limbs hy.1.1
  have hlt := bitsN_lt x.N
  have hge := bitsN_ge hz1
  obtain ⟨bn, hbn⟩ : ∃ bn, bitsN x.N = bn := ⟨_, rfl⟩
  obtain ⟨bm, hbm⟩ : ∃ bm, bitsN y.N = bm := ⟨_, rfl⟩
  rw [hbn] at hbp hbl hlt hge hbb
  rw [hbm] at hbp2 hbl2 hbb
  have HB1 := Lib.hid hbn
  have HB2 := Lib.hid hbm
  obtain ⟨bb, hbb1⟩ : ∃ bb, bb + 1 = bn + bm := ⟨bn + bm - 1, by omega⟩
  have hb3 : ((bb : Int) != (bn : Int) + (bm : Int)) = true := by rw [bne_iff_ne]; omega
  have hb4 : ((bb : Int) != (bn : Int) + (bm : Int) - 1) = false := by rw [bne_eq_false_iff_eq]; omega
  have HB3 := Lib.hid (show bitsN (x.N * y.N) = bb by omega)
  have HC1 := Lib.hid (cmpN_lt hlt)
  obtain ⟨cq, hcq⟩ : ∃ cq, cmpN x.N (2 ^ (bn - 1)) = cq := ⟨_, rfl⟩
  have hcq0 : 0 ≤ cq := by rw [← hcq]; exact cmpN_ge hge
  have HC2 := Lib.hid hcq
  have hb1 : ((bn : Int) == 0) = false := by rw [beq_eq_false_iff_ne]; omega
  have hb2 : ((bm : Int) == 0) = false := by rw [beq_eq_false_iff_ne]; omega
  clear hz1 hz2 hbn hbm hbb hlt hge hcq
  have HG := Lib.hid hg
  clear hg hx hy
  go_enter Try.func6, Try.ntmps6
  go_wp2_with fail
  refine (great2_E2 (x := x) (y := y) hE (by simp) (by simp) rfl).mono ?_
  rintro e W ⟨rfl, hE1⟩
  rw [HG.out]
  go_wp2_with fail
  refine (S.bits _ _ _ x hE1 (by simp) (by omega)).mono ?_
  rintro e V2 ⟨rfl, hE2⟩
  rw [HB1.out]
  go_wp2_with fail
  refine (S.bits _ _ _ y hE2 (by simp) (by omega)).mono ?_
  rintro e V3 ⟨rfl, hE3⟩
  rw [HB2.out]
  go_wp2_with fail
  refine (S.mul _ _ _ x y hE3 (by simp) (by simp) (by omega) (by omega)).mono ?_
  rintro e V4 ⟨p, rfl, pN, pn, hE4, -⟩
  have pb : p.n ≤ 240 := by rw [pn]; have := HXY.out; omega
  replace pN := Lib.hid pN
  clear pn
  go_wp2_with fail
  refine (S.bits _ _ _ p hE4 (by simp) (by omega)).mono ?_
  rintro e V5 ⟨rfl, hE5⟩
  rw [pN.out, HB3.out]
  go_wp2_with fail
  have hL := hE5.lit (N := 1) (v := 1) rfl rfl (by omega)
  refine (S.up _ _ _ ⟨some ⟨V5.heap.size, 0, none⟩, 1, 1, 1⟩ (bn : Int) hL (by simp) (by simp) (by omega)).mono ?_
  rintro e V6 ⟨u, rfl, uN, -, hE6, -⟩
  have hu : u.N = 2 ^ bn := by rw [uN, show min ((bn : Int)).toNat 65536 = bn by omega, Nat.one_mul]
  replace hu := Lib.hid hu
  clear uN
  go_wp2_with fail
  refine (rCmp_E (x := x) (y := u) hE6 (by simp) (by simp)).mono ?_
  rintro e V7 ⟨rfl, hE7⟩
  rw [hu.out, HC1.out]
  go_wp2_with fail
  have hL2 := (hE7.pick (e' := [x]) (by simp)).lit (N := 1) (v := 1) rfl rfl (by omega)
  refine (S.up _ _ _ ⟨some ⟨V7.heap.size, 0, none⟩, 1, 1, 1⟩ ((bn : Int) - 1) hL2 (by simp) (by simp) (by omega)).mono ?_
  rintro e V8 ⟨u2, rfl, uN2, -, hE8, -⟩
  have hu2 : u2.N = 2 ^ (bn - 1) := by rw [uN2, show min ((bn : Int) - 1).toNat 65536 = bn - 1 by omega, Nat.one_mul]
  replace hu2 := Lib.hid hu2
  clear uN2
  go_wp2_with fail
  refine (rCmp_E (x := x) (y := u2) hE8 (by simp) (by simp)).mono ?_
  rintro e V9 ⟨rfl, hE9⟩
  rw [hu2.out, HC2.out]
  go_wp2_with fail
  refine (wakes2_E S hE9).mono ?_
  rintro e Vw ⟨rfl, hEw⟩
  go_wp2
  go_ret
  exact ⟨rfl, hEw.1⟩
end Go.Proofs.Ytjakmpphfjhbaaa
