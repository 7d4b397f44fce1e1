/- NatOrder: of two numbers just one is less, or they are the same; this is passed on; what is added to both makes no difference; proved for all arguments. -/
import Derived.Test.YtgkcfciicekhaaaEnv
import Derived.Test.YtgkcfciicekhaaaLaw
namespace Go.Proofs.Ytgkcfciicekhaaa
open Go Go.ChangeShapes Go.WideShapes Go.ChangeAt Go.RowKit Go.Deep

set_option maxRecDepth 100000 in
set_option maxHeartbeats 2000000 in
theorem order_great (w : World) (x y z : Num) (hx : x.ok w w.heap.size) (hy : y.ok w w.heap.size) (hz : z.ok w w.heap.size) (hg : greatB [x, y, z] = true) :
    Calls Try.prog 5 #[.slice x.A x.n x.c, .slice y.A y.n y.c, .slice z.A z.n z.c] w fun e w' => e = .returned (.bool true) ∧ Below w.heap.size w w' := by
  have hE : Env w [x, y, z] w := Env.start (by simp; exact ⟨hx, hy, hz⟩)
  have HG := Lib.hid hg
  clear hg hx hy hz
  go_enter Try.func5, Try.ntmps5
  go_wp2_with fail
  refine (Great_E3 (x := x) (y := y) (z := z) hE (by simp) (by simp) (by simp) rfl).mono ?_
  rintro e W ⟨rfl, hE1⟩
  rw [HG.out]
  go_wp2_with fail
  refine (wakes_E hE1).mono ?_
  rintro e W2 ⟨rfl, hE2⟩
  go_wp2
  go_ret
  exact ⟨rfl, hE2.1⟩

theorem cmpN_le0 {N M : Nat} (h : N ≤ M) : cmpN N M ≤ 0 := by unfold cmpN; split <;> (try split) <;> omega
theorem sameB_ne {N M : Nat} (h : N ≠ M) : sameB (lenL N) (lenL M) N M = false := by simp [sameB, h]
theorem sameB_self (n N : Nat) : sameB n n N N = true := by simp [sameB]

set_option maxRecDepth 100000 in
set_option maxHeartbeats 2000000 in
theorem order_ltA (w : World) (x y z : Num) (hx : x.ok w w.heap.size) (hy : y.ok w w.heap.size) (hz : z.ok w w.heap.size) (hg : greatB [x, y, z] = false) (hlt : x.N < y.N) (hle : y.N ≤ z.N) :
    Calls Try.prog 5 #[.slice x.A x.n x.c, .slice y.A y.n y.c, .slice z.A z.n z.c] w fun e w' => e = .returned (.bool true) ∧ Below w.heap.size w w' := by
  have hE : Env w [x, y, z] w := Env.start (by simp; exact ⟨hx, hy, hz⟩)
  obtain ⟨bx, by', bz⟩ := sizeN3 hg
  have HG := Lib.hid hg
  have C1 := Lib.hid (cmpN_lt hlt)
  have C2 := Lib.hid (cmpN_gt hlt)
  have C3 := Lib.hid (cmpN_lt (show x.N + z.N < y.N + z.N by omega))
  have HL := Lib.hid hlt
  have HS := Lib.hid (sameB_ne (show x.N ≠ y.N by omega))
  have QA := Lib.hid (cmpN_le0 hle)
  have QB := Lib.hid (cmpN_le0 (show x.N ≤ z.N by omega))
  clear hlt hle
  clear hg hx hy hz
  go_enter Try.func5, Try.ntmps5
  go_wp2_with fail
  refine (Great_E3 (x := x) (y := y) (z := z) hE (by simp) (by simp) (by simp) rfl).mono ?_
  rintro e W ⟨rfl, hE1⟩
  rw [HG.out]
  go_wp2_with fail
  refine (Cmp_E (x := x) (y := y) hE1 (by simp) (by simp)).mono ?_
  rintro e W2 ⟨rfl, hE2⟩
  rw [C1.out]
  go_wp2_with fail
  refine (Sub_no_E (x := x) (y := y) hE2 (by simp) (by simp) HL.out).mono ?_
  rintro e W3 ⟨rfl, hE3⟩
  go_wp2_with fail
  refine (Cmp_E (x := y) (y := x) hE3 (by simp) (by simp)).mono ?_
  rintro e W4 ⟨rfl, hE4⟩
  rw [C2.out]
  go_wp2_with fail
  refine (Cmp_E (x := x) (y := x) hE4 (by simp) (by simp)).mono ?_
  rintro e W5 ⟨rfl, hE5⟩
  rw [cmpN_eq]
  go_wp2_with fail
  refine (Cmp_E (x := y) (y := z) hE5 (by simp) (by simp)).mono ?_
  rintro e W6 ⟨rfl, hE6⟩
  obtain ⟨q1, hq1, hq1'⟩ : ∃ q, cmpN y.N z.N = q ∧ q ≤ 0 := ⟨_, rfl, QA.out⟩
  rw [hq1]
  clear hq1
  go_wp2_with fail
  refine (Cmp_E (x := x) (y := z) hE6 (by simp) (by simp)).mono ?_
  rintro e W7 ⟨rfl, hE7⟩
  obtain ⟨q2, hq2, hq2'⟩ : ∃ q, cmpN x.N z.N = q ∧ q ≤ 0 := ⟨_, rfl, QB.out⟩
  rw [hq2]
  clear hq2
  go_wp2_with fail
  refine (Add_E2 (x := x) (y := z) hE7 (by simp) (by simp) rfl (by omega) (by omega)).mono ?_
  rintro e W8 ⟨r, rfl, hrN, hrn, hE8, -⟩
  replace hrN := Lib.hid hrN
  clear hrn
  go_wp2_with fail
  refine (Add_E2 (x := y) (y := z) hE8 (by simp) (by simp) rfl (by omega) (by omega)).mono ?_
  rintro e W9 ⟨r', rfl, hrN', hrn', hE9, -⟩
  replace hrN' := Lib.hid hrN'
  clear hrn'
  go_wp2_with fail
  refine (Cmp_E (x := r) (y := r') hE9 (by simp) (by simp)).mono ?_
  rintro e W10 ⟨rfl, hE10⟩
  rw [hrN.out, hrN'.out, C3.out]
  go_wp2_with fail
  refine (Trim_E (x := x) hE10 (by simp)).mono ?_
  rintro e W11 ⟨s, rfl, hsN, hsn, hE11, -⟩
  replace hsN := Lib.hid hsN
  replace hsn := Lib.hid hsn
  go_wp2_with fail
  refine (Trim_E (x := y) hE11 (by simp)).mono ?_
  rintro e W12 ⟨s', rfl, hsN', hsn', hE12, -⟩
  replace hsN' := Lib.hid hsN'
  replace hsn' := Lib.hid hsn'
  go_wp2_with fail
  refine (same_E (x := s) (y := s') hE12 (by simp) (by simp)).mono ?_
  rintro e W13 ⟨rfl, hE13⟩
  rw [hsN.out, hsN'.out, hsn.out, hsn'.out, HS.out]
  go_wp2_with fail
  refine (wakes_E hE13).mono ?_
  rintro e W14 ⟨rfl, hE14⟩
  go_wp2
  go_ret
  exact ⟨rfl, hE14.1⟩

set_option maxRecDepth 100000 in
set_option maxHeartbeats 2000000 in
theorem order_ltB (w : World) (x y z : Num) (hx : x.ok w w.heap.size) (hy : y.ok w w.heap.size) (hz : z.ok w w.heap.size) (hg : greatB [x, y, z] = false) (hlt : x.N < y.N) (hle : z.N < y.N) :
    Calls Try.prog 5 #[.slice x.A x.n x.c, .slice y.A y.n y.c, .slice z.A z.n z.c] w fun e w' => e = .returned (.bool true) ∧ Below w.heap.size w w' := by
  have hE : Env w [x, y, z] w := Env.start (by simp; exact ⟨hx, hy, hz⟩)
  obtain ⟨bx, by', bz⟩ := sizeN3 hg
  have HG := Lib.hid hg
  have C1 := Lib.hid (cmpN_lt hlt)
  have C2 := Lib.hid (cmpN_gt hlt)
  have C3 := Lib.hid (cmpN_lt (show x.N + z.N < y.N + z.N by omega))
  have HL := Lib.hid hlt
  have HS := Lib.hid (sameB_ne (show x.N ≠ y.N by omega))
  have QA := Lib.hid hle
  clear hlt hle
  clear hg hx hy hz
  go_enter Try.func5, Try.ntmps5
  go_wp2_with fail
  refine (Great_E3 (x := x) (y := y) (z := z) hE (by simp) (by simp) (by simp) rfl).mono ?_
  rintro e W ⟨rfl, hE1⟩
  rw [HG.out]
  go_wp2_with fail
  refine (Cmp_E (x := x) (y := y) hE1 (by simp) (by simp)).mono ?_
  rintro e W2 ⟨rfl, hE2⟩
  rw [C1.out]
  go_wp2_with fail
  refine (Sub_no_E (x := x) (y := y) hE2 (by simp) (by simp) HL.out).mono ?_
  rintro e W3 ⟨rfl, hE3⟩
  go_wp2_with fail
  refine (Cmp_E (x := y) (y := x) hE3 (by simp) (by simp)).mono ?_
  rintro e W4 ⟨rfl, hE4⟩
  rw [C2.out]
  go_wp2_with fail
  refine (Cmp_E (x := x) (y := x) hE4 (by simp) (by simp)).mono ?_
  rintro e W5 ⟨rfl, hE5⟩
  rw [cmpN_eq]
  go_wp2_with fail
  refine (Cmp_E (x := y) (y := z) hE5 (by simp) (by simp)).mono ?_
  rintro e W7 ⟨rfl, hE7⟩
  rw [cmpN_gt QA.out]
  go_wp2_with fail
  refine (Add_E2 (x := x) (y := z) hE7 (by simp) (by simp) rfl (by omega) (by omega)).mono ?_
  rintro e W8 ⟨r, rfl, hrN, hrn, hE8, -⟩
  replace hrN := Lib.hid hrN
  clear hrn
  go_wp2_with fail
  refine (Add_E2 (x := y) (y := z) hE8 (by simp) (by simp) rfl (by omega) (by omega)).mono ?_
  rintro e W9 ⟨r', rfl, hrN', hrn', hE9, -⟩
  replace hrN' := Lib.hid hrN'
  clear hrn'
  go_wp2_with fail
  refine (Cmp_E (x := r) (y := r') hE9 (by simp) (by simp)).mono ?_
  rintro e W10 ⟨rfl, hE10⟩
  rw [hrN.out, hrN'.out, C3.out]
  go_wp2_with fail
  refine (Trim_E (x := x) hE10 (by simp)).mono ?_
  rintro e W11 ⟨s, rfl, hsN, hsn, hE11, -⟩
  replace hsN := Lib.hid hsN
  replace hsn := Lib.hid hsn
  go_wp2_with fail
  refine (Trim_E (x := y) hE11 (by simp)).mono ?_
  rintro e W12 ⟨s', rfl, hsN', hsn', hE12, -⟩
  replace hsN' := Lib.hid hsN'
  replace hsn' := Lib.hid hsn'
  go_wp2_with fail
  refine (same_E (x := s) (y := s') hE12 (by simp) (by simp)).mono ?_
  rintro e W13 ⟨rfl, hE13⟩
  rw [hsN.out, hsN'.out, hsn.out, hsn'.out, HS.out]
  go_wp2_with fail
  refine (wakes_E hE13).mono ?_
  rintro e W14 ⟨rfl, hE14⟩
  go_wp2
  go_ret
  exact ⟨rfl, hE14.1⟩

set_option maxRecDepth 100000 in
set_option maxHeartbeats 2000000 in
theorem order_eqA (w : World) (x y z : Num) (hx : x.ok w w.heap.size) (hy : y.ok w w.heap.size) (hz : z.ok w w.heap.size) (hg : greatB [x, y, z] = false) (he : x.N = y.N) (hle : y.N ≤ z.N) :
    Calls Try.prog 5 #[.slice x.A x.n x.c, .slice y.A y.n y.c, .slice z.A z.n z.c] w fun e w' => e = .returned (.bool true) ∧ Below w.heap.size w w' := by
  have hE : Env w [x, y, z] w := Env.start (by simp; exact ⟨hx, hy, hz⟩)
  obtain ⟨bx, by', bz⟩ := sizeN3 hg
  have HG := Lib.hid hg
  have C1 := Lib.hid (show cmpN x.N y.N = 0 by rw [he]; exact cmpN_eq _)
  have C2 := Lib.hid (show cmpN y.N x.N = 0 by rw [he]; exact cmpN_eq _)
  have C3 := Lib.hid (show cmpN (x.N + z.N) (y.N + z.N) = 0 by rw [he]; exact cmpN_eq _)
  have HL := Lib.hid (show y.N ≤ x.N by omega)
  have HD := Lib.hid (show lenL (x.N - y.N) = 0 by rw [he, Nat.sub_self]; rfl)
  have HS := Lib.hid (show sameB (lenL x.N) (lenL y.N) x.N y.N = true by rw [he]; exact sameB_self _ _)
  have QA := Lib.hid (cmpN_le0 hle)
  have QB := Lib.hid (cmpN_le0 (show x.N ≤ z.N by omega))
  clear he hle
  clear hg hx hy hz
  go_enter Try.func5, Try.ntmps5
  go_wp2_with fail
  refine (Great_E3 (x := x) (y := y) (z := z) hE (by simp) (by simp) (by simp) rfl).mono ?_
  rintro e W ⟨rfl, hE1⟩
  rw [HG.out]
  go_wp2_with fail
  refine (Cmp_E (x := x) (y := y) hE1 (by simp) (by simp)).mono ?_
  rintro e W2 ⟨rfl, hE2⟩
  rw [C1.out]
  go_wp2_with fail
  refine (Sub_yes_E (x := x) (y := y) hE2 (by simp) (by simp) HL.out).mono ?_
  rintro e W3 ⟨d, rfl, hdN, hdn, hE3, -⟩
  dsimp only
  rw [hdn, HD.out]
  clear hdn hdN
  go_wp2_with fail
  refine (Cmp_E (x := y) (y := x) hE3 (by simp) (by simp)).mono ?_
  rintro e W4 ⟨rfl, hE4⟩
  rw [C2.out]
  go_wp2_with fail
  refine (Cmp_E (x := x) (y := x) hE4 (by simp) (by simp)).mono ?_
  rintro e W5 ⟨rfl, hE5⟩
  rw [cmpN_eq]
  go_wp2_with fail
  refine (Cmp_E (x := y) (y := z) hE5 (by simp) (by simp)).mono ?_
  rintro e W6 ⟨rfl, hE6⟩
  obtain ⟨q1, hq1, hq1'⟩ : ∃ q, cmpN y.N z.N = q ∧ q ≤ 0 := ⟨_, rfl, QA.out⟩
  rw [hq1]
  clear hq1
  go_wp2_with fail
  refine (Cmp_E (x := x) (y := z) hE6 (by simp) (by simp)).mono ?_
  rintro e W7 ⟨rfl, hE7⟩
  obtain ⟨q2, hq2, hq2'⟩ : ∃ q, cmpN x.N z.N = q ∧ q ≤ 0 := ⟨_, rfl, QB.out⟩
  rw [hq2]
  clear hq2
  go_wp2_with fail
  refine (Add_E2 (x := x) (y := z) hE7 (by simp) (by simp) rfl (by omega) (by omega)).mono ?_
  rintro e W8 ⟨r, rfl, hrN, hrn, hE8, -⟩
  replace hrN := Lib.hid hrN
  clear hrn
  go_wp2_with fail
  refine (Add_E2 (x := y) (y := z) hE8 (by simp) (by simp) rfl (by omega) (by omega)).mono ?_
  rintro e W9 ⟨r', rfl, hrN', hrn', hE9, -⟩
  replace hrN' := Lib.hid hrN'
  clear hrn'
  go_wp2_with fail
  refine (Cmp_E (x := r) (y := r') hE9 (by simp) (by simp)).mono ?_
  rintro e W10 ⟨rfl, hE10⟩
  rw [hrN.out, hrN'.out, C3.out]
  go_wp2_with fail
  refine (Trim_E (x := x) hE10 (by simp)).mono ?_
  rintro e W11 ⟨s, rfl, hsN, hsn, hE11, -⟩
  replace hsN := Lib.hid hsN
  replace hsn := Lib.hid hsn
  go_wp2_with fail
  refine (Trim_E (x := y) hE11 (by simp)).mono ?_
  rintro e W12 ⟨s', rfl, hsN', hsn', hE12, -⟩
  replace hsN' := Lib.hid hsN'
  replace hsn' := Lib.hid hsn'
  go_wp2_with fail
  refine (same_E (x := s) (y := s') hE12 (by simp) (by simp)).mono ?_
  rintro e W13 ⟨rfl, hE13⟩
  rw [hsN.out, hsN'.out, hsn.out, hsn'.out, HS.out]
  go_wp2_with fail
  refine (wakes_E hE13).mono ?_
  rintro e W14 ⟨rfl, hE14⟩
  go_wp2
  go_ret
  exact ⟨rfl, hE14.1⟩

set_option maxRecDepth 100000 in
set_option maxHeartbeats 2000000 in
theorem order_eqB (w : World) (x y z : Num) (hx : x.ok w w.heap.size) (hy : y.ok w w.heap.size) (hz : z.ok w w.heap.size) (hg : greatB [x, y, z] = false) (he : x.N = y.N) (hle : z.N < y.N) :
    Calls Try.prog 5 #[.slice x.A x.n x.c, .slice y.A y.n y.c, .slice z.A z.n z.c] w fun e w' => e = .returned (.bool true) ∧ Below w.heap.size w w' := by
  have hE : Env w [x, y, z] w := Env.start (by simp; exact ⟨hx, hy, hz⟩)
  obtain ⟨bx, by', bz⟩ := sizeN3 hg
  have HG := Lib.hid hg
  have C1 := Lib.hid (show cmpN x.N y.N = 0 by rw [he]; exact cmpN_eq _)
  have C2 := Lib.hid (show cmpN y.N x.N = 0 by rw [he]; exact cmpN_eq _)
  have C3 := Lib.hid (show cmpN (x.N + z.N) (y.N + z.N) = 0 by rw [he]; exact cmpN_eq _)
  have HL := Lib.hid (show y.N ≤ x.N by omega)
  have HD := Lib.hid (show lenL (x.N - y.N) = 0 by rw [he, Nat.sub_self]; rfl)
  have HS := Lib.hid (show sameB (lenL x.N) (lenL y.N) x.N y.N = true by rw [he]; exact sameB_self _ _)
  have QA := Lib.hid hle
  clear he hle
  clear hg hx hy hz
  go_enter Try.func5, Try.ntmps5
  go_wp2_with fail
  refine (Great_E3 (x := x) (y := y) (z := z) hE (by simp) (by simp) (by simp) rfl).mono ?_
  rintro e W ⟨rfl, hE1⟩
  rw [HG.out]
  go_wp2_with fail
  refine (Cmp_E (x := x) (y := y) hE1 (by simp) (by simp)).mono ?_
  rintro e W2 ⟨rfl, hE2⟩
  rw [C1.out]
  go_wp2_with fail
  refine (Sub_yes_E (x := x) (y := y) hE2 (by simp) (by simp) HL.out).mono ?_
  rintro e W3 ⟨d, rfl, hdN, hdn, hE3, -⟩
  dsimp only
  rw [hdn, HD.out]
  clear hdn hdN
  go_wp2_with fail
  refine (Cmp_E (x := y) (y := x) hE3 (by simp) (by simp)).mono ?_
  rintro e W4 ⟨rfl, hE4⟩
  rw [C2.out]
  go_wp2_with fail
  refine (Cmp_E (x := x) (y := x) hE4 (by simp) (by simp)).mono ?_
  rintro e W5 ⟨rfl, hE5⟩
  rw [cmpN_eq]
  go_wp2_with fail
  refine (Cmp_E (x := y) (y := z) hE5 (by simp) (by simp)).mono ?_
  rintro e W7 ⟨rfl, hE7⟩
  rw [cmpN_gt QA.out]
  go_wp2_with fail
  refine (Add_E2 (x := x) (y := z) hE7 (by simp) (by simp) rfl (by omega) (by omega)).mono ?_
  rintro e W8 ⟨r, rfl, hrN, hrn, hE8, -⟩
  replace hrN := Lib.hid hrN
  clear hrn
  go_wp2_with fail
  refine (Add_E2 (x := y) (y := z) hE8 (by simp) (by simp) rfl (by omega) (by omega)).mono ?_
  rintro e W9 ⟨r', rfl, hrN', hrn', hE9, -⟩
  replace hrN' := Lib.hid hrN'
  clear hrn'
  go_wp2_with fail
  refine (Cmp_E (x := r) (y := r') hE9 (by simp) (by simp)).mono ?_
  rintro e W10 ⟨rfl, hE10⟩
  rw [hrN.out, hrN'.out, C3.out]
  go_wp2_with fail
  refine (Trim_E (x := x) hE10 (by simp)).mono ?_
  rintro e W11 ⟨s, rfl, hsN, hsn, hE11, -⟩
  replace hsN := Lib.hid hsN
  replace hsn := Lib.hid hsn
  go_wp2_with fail
  refine (Trim_E (x := y) hE11 (by simp)).mono ?_
  rintro e W12 ⟨s', rfl, hsN', hsn', hE12, -⟩
  replace hsN' := Lib.hid hsN'
  replace hsn' := Lib.hid hsn'
  go_wp2_with fail
  refine (same_E (x := s) (y := s') hE12 (by simp) (by simp)).mono ?_
  rintro e W13 ⟨rfl, hE13⟩
  rw [hsN.out, hsN'.out, hsn.out, hsn'.out, HS.out]
  go_wp2_with fail
  refine (wakes_E hE13).mono ?_
  rintro e W14 ⟨rfl, hE14⟩
  go_wp2
  go_ret
  exact ⟨rfl, hE14.1⟩

set_option maxRecDepth 100000 in
set_option maxHeartbeats 2000000 in
theorem order_gt (w : World) (x y z : Num) (hx : x.ok w w.heap.size) (hy : y.ok w w.heap.size) (hz : z.ok w w.heap.size) (hg : greatB [x, y, z] = false) (hgt : y.N < x.N) :
    Calls Try.prog 5 #[.slice x.A x.n x.c, .slice y.A y.n y.c, .slice z.A z.n z.c] w fun e w' => e = .returned (.bool true) ∧ Below w.heap.size w w' := by
  have hE : Env w [x, y, z] w := Env.start (by simp; exact ⟨hx, hy, hz⟩)
  obtain ⟨bx, by', bz⟩ := sizeN3 hg
  have HG := Lib.hid hg
  have C1 := Lib.hid (cmpN_gt hgt)
  have C2 := Lib.hid (cmpN_lt hgt)
  have C3 := Lib.hid (cmpN_gt (show y.N + z.N < x.N + z.N by omega))
  have HL := Lib.hid (show y.N ≤ x.N by omega)
  have HD := Lib.hid (show 0 < lenL (x.N - y.N) by have := (lenL_eq_zero (N := x.N - y.N)); omega)
  have HS := Lib.hid (sameB_ne (show x.N ≠ y.N by omega))
  clear hgt
  clear hg hx hy hz
  go_enter Try.func5, Try.ntmps5
  go_wp2_with fail
  refine (Great_E3 (x := x) (y := y) (z := z) hE (by simp) (by simp) (by simp) rfl).mono ?_
  rintro e W ⟨rfl, hE1⟩
  rw [HG.out]
  go_wp2_with fail
  refine (Cmp_E (x := x) (y := y) hE1 (by simp) (by simp)).mono ?_
  rintro e W2 ⟨rfl, hE2⟩
  rw [C1.out]
  go_wp2_with fail
  refine (Sub_yes_E (x := x) (y := y) hE2 (by simp) (by simp) HL.out).mono ?_
  rintro e W3 ⟨d, rfl, hdN, hdn, hE3, -⟩
  have hdpos : 0 < d.n := by rw [hdn]; exact HD.out
  have hdb : ((d.n : Int) == 0) = false := by rw [beq_eq_false_iff_ne]; omega
  clear hdn hdN hdpos
  go_wp2_with fail
  refine (Cmp_E (x := y) (y := x) hE3 (by simp) (by simp)).mono ?_
  rintro e W4 ⟨rfl, hE4⟩
  rw [C2.out]
  go_wp2_with fail
  refine (Cmp_E (x := x) (y := x) hE4 (by simp) (by simp)).mono ?_
  rintro e W5 ⟨rfl, hE5⟩
  rw [cmpN_eq]
  go_wp2_with fail
  have hE7 := hE5
  refine (Add_E2 (x := x) (y := z) hE7 (by simp) (by simp) rfl (by omega) (by omega)).mono ?_
  rintro e W8 ⟨r, rfl, hrN, hrn, hE8, -⟩
  replace hrN := Lib.hid hrN
  clear hrn
  go_wp2_with fail
  refine (Add_E2 (x := y) (y := z) hE8 (by simp) (by simp) rfl (by omega) (by omega)).mono ?_
  rintro e W9 ⟨r', rfl, hrN', hrn', hE9, -⟩
  replace hrN' := Lib.hid hrN'
  clear hrn'
  go_wp2_with fail
  refine (Cmp_E (x := r) (y := r') hE9 (by simp) (by simp)).mono ?_
  rintro e W10 ⟨rfl, hE10⟩
  rw [hrN.out, hrN'.out, C3.out]
  go_wp2_with fail
  refine (Trim_E (x := x) hE10 (by simp)).mono ?_
  rintro e W11 ⟨s, rfl, hsN, hsn, hE11, -⟩
  replace hsN := Lib.hid hsN
  replace hsn := Lib.hid hsn
  go_wp2_with fail
  refine (Trim_E (x := y) hE11 (by simp)).mono ?_
  rintro e W12 ⟨s', rfl, hsN', hsn', hE12, -⟩
  replace hsN' := Lib.hid hsN'
  replace hsn' := Lib.hid hsn'
  go_wp2_with fail
  refine (same_E (x := s) (y := s') hE12 (by simp) (by simp)).mono ?_
  rintro e W13 ⟨rfl, hE13⟩
  rw [hsN.out, hsN'.out, hsn.out, hsn'.out, HS.out]
  go_wp2_with fail
  refine (wakes_E hE13).mono ?_
  rintro e W14 ⟨rfl, hE14⟩
  go_wp2
  go_ret
  exact ⟨rfl, hE14.1⟩

end Go.Proofs.Ytgkcfciicekhaaa
