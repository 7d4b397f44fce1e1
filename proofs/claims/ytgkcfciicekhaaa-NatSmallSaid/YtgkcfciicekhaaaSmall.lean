/- NatSmall: numbers below 2 to the power of 64 are told as they are, and reckoned with as they are; limbs of nought behind make no difference; proved for all arguments. -/
import Derived.Test.YtgkcfciicekhaaaZeros
import Derived.Test.YtgkcfciicekhaaaOwn
import Derived.Test.YtgkcfciicekhaaaLaw
namespace Go.Proofs.Ytgkcfciicekhaaa
open Go Go.ChangeShapes Go.WideShapes Go.ChangeAt Go.RowKit Go.Deep

set_option maxRecDepth 100000 in
set_option maxHeartbeats 2000000 in
theorem small_far (w : World) (n m k : Int) (hk : k < 0 ∨ 100 < k) :
    Calls Try.prog 6 #[.int .u64 n, .int .u64 m, .int .i64 k] w fun e w' => e = .returned (.bool true) ∧ Below w.heap.size w w' := by
  have hE : Env w [] w := Env.start (by simp)
  rcases hk with hk | hk
  · go_enter Try.func6, Try.ntmps6
    go_wp2_with fail
    refine (wakes_E hE).mono ?_
    rintro e W2 ⟨rfl, hE2⟩
    go_wp2
    go_ret
    exact ⟨rfl, hE2.1⟩
  · have hk0 : 0 ≤ k := by omega
    go_enter Try.func6, Try.ntmps6
    go_wp2_with fail
    refine (wakes_E hE).mono ?_
    rintro e W2 ⟨rfl, hE2⟩
    go_wp2
    go_ret
    exact ⟨rfl, hE2.1⟩

theorem limbs_more {N k : Nat} : limbs N (lenL N) ++ List.replicate k (.int .u32 0) = limbs N (lenL N + k) := by
  apply List.ext_getElem?
  intro j
  by_cases h1 : j < lenL N
  · rw [List.getElem?_append_left (by rw [limbs_length]; exact h1), limbs_at h1, limbs_at (by omega)]
  · rw [List.getElem?_append_right (by rw [limbs_length]; omega), limbs_length, List.getElem?_replicate]
    by_cases h2 : j < lenL N + k
    · rw [if_pos (by omega), limbs_at h2, dig_ge (lt_pow_lenL N) (by omega)]
      rfl
    · rw [if_neg (by omega), List.getElem?_eq_none (by rw [limbs_length]; omega)]

/-- The number with noughts behind. -/
theorem long_own {W W3 W4 : World} {a : Num} {N k : Nat} {v1 v2 : Value} (haN : a.N = N) (han : a.n = lenL N) (hl : lenL N ≤ 1000) (hk : k ≤ 1000)
    (hown1 : W3.ownsRow W.heap.size 43 1 v1 (0 + a.n) ([] ++ limbs a.N a.n)) (hg1 : (W.alloc (.cells #[] 43)).grownBy W3 (some W.heap.size))
    (hown2 : W4.ownsRow W.heap.size 43 1 v2 (0 + a.n + k) ([] ++ limbs a.N a.n ++ List.replicate k (.int .u32 0))) (hg2 : W3.grownBy W4 v1.ownBlock) :
    ∃ r : Num, v2 = .slice r.A r.n r.c ∧ r.N = N ∧ r.n = lenL N + k ∧ r.ok W4 W4.heap.size ∧ Below W.heap.size W W4 := by
  have hb3 : Below W.heap.size W W3 := ((Below.refl _ W).alloc (Nat.le_refl _) _).grown hg1 (by simp) (fun k e => by cases e; exact Nat.le_refl _)
  have hb4 := hb3.grown hg2 hb3.size (fun q hq => (hown1.lt q hq).1)
  rw [Nat.zero_add, List.nil_append, haN, han, limbs_more] at hown2
  obtain ⟨A, c, rfl, h1, h2, h3⟩ := Fr.of_own hown2 (lt_pow_of (lt_pow_lenL N) (by omega)) (fun j hj => limbs_at hj)
  exact ⟨⟨A, lenL N + k, c, N⟩, rfl, rfl, rfl, ⟨h3.rd, h1, h2, by simp only; omega⟩, hb4⟩

set_option maxRecDepth 100000 in
set_option maxHeartbeats 4000000 in
theorem small_ltfit (w : World) (N M k : Nat) (hN : N < 18446744073709551616) (hM : M < 18446744073709551616) (hk : k ≤ 100) (hlt : N < M) (hfit : N + M < 18446744073709551616) :
    Calls Try.prog 6 #[.int .u64 N, .int .u64 M, .int .i64 k] w fun e w' => e = .returned (.bool true) ∧ Below w.heap.size w w' := by
  have hE : Env w [] w := Env.start (by simp)
  have hlN := lenL_small.2 hN
  have hlM := lenL_small.2 hM
  have HF := Lib.hid hfit
  have HL := Lib.hid hlt
  have HC := Lib.hid (cmpN_lt hlt)
  have HN := Lib.hid hN
  have HM := Lib.hid hM
  obtain ⟨i0, hi, hz0, hz1, hz2⟩ := info_parts info_u32
  go_enter Try.func6, Try.ntmps6
  go_wp2_with fail
  refine (Of_E hE HN.out).mono ?_
  rintro e W1 ⟨a, rfl, haN, han, hE1, -⟩
  replace haN := Lib.hid haN
  have han2 : a.n ≤ 2 := by rw [han]; exact hlN
  replace han := Lib.hid han
  go_wp2_with fail
  refine (Of_E hE1 HM.out).mono ?_
  rintro e W2 ⟨b, rfl, hbN, hbn, hE2, -⟩
  replace hbN := Lib.hid hbN
  have hbn2 : b.n ≤ 2 := by rw [hbn]; exact hlM
  replace hbn := Lib.hid hbn
  have oka := hE2.2 a (by simp)
  go_wp2_with (first
    | (at_builtin; refine wpList_append_row _ rfl (.tmp 30) (.tmp 31) _ rfl W2.heap.size 43 i0 (.int .u32 0) 4 Try.underlying23 hi hz0 hz1 hz2 rfl (.slice (some ⟨W2.heap.size, 0, none⟩) 0 0) 0 [] rfl (World.ownsRow_lit W2 #[] 0 (Nat.le_refl _) (by simp) rfl) a.A a.n a.c (limbs a.N a.n) rfl (limbs_length _ _) (limbs_read oka) limbs_one (by simp only [maxLen]; omega) (by omega) (by simp) ?_; intro v1 W3 hown1 hg1 _; have HO1 := Lib.hid hown1; have HG1 := Lib.hid hg1; have hw3 : W2.heap.size ≤ W3.heap.size := Nat.le_trans (by simp) hg1.size; clear hown1 hg1)
    | (at_builtin; refine wpList_append_zeros _ rfl (.tmp 32) (.tmp 33) _ _ rfl W2.heap.size 43 .i64 i0 (.int .u32 0) 4 Try.underlying23 Try.underlying3 hi hz0 hz1 hz2 rfl rfl v1 (0 + a.n) ([] ++ limbs a.N a.n) rfl HO1.out k .i64 rfl (by omega) (by omega) (by omega) hw3 ?_; intro v2 W4 hown2 hg2; obtain ⟨r, rfl, hrN, hrn, okr, hb4⟩ := long_own haN.out han.out (by omega) (by omega) HO1.out HG1.out hown2 hg2; clear hown2 hg2; replace hrN := Lib.hid hrN; replace hrn := Lib.hid hrn))
  have hE3 : Env w [⟨none, 0, 0, 0⟩, r, b, a] W4 := ((hE2.step hb4).add okr).add ⟨Rd.none_, Nat.le_refl _, by simp [maxLen], by simp⟩
  have hrb : r.n ≤ 1000 := by rw [hrn.out]; omega
  clear hE hE1 hE2 HO1 HG1 hb4 okr oka
  go_wp2_with fail
  refine (Small_yes_E (x := r) hE3 (by simp) (by rw [hrN.out]; exact HN.out)).mono ?_
  rintro e W5 ⟨rfl, rfl⟩
  rw [hrN.out]
  go_wp2_with fail
  refine (Cmp_E (x := r) (y := a) hE3 (by simp) (by simp)).mono ?_
  rintro e W5 ⟨rfl, hE4⟩
  rw [hrN.out, haN.out, cmpN_eq]
  go_wp2_with fail
  refine (Trim_E (x := r) hE4 (by simp)).mono ?_
  rintro e W6 ⟨t, rfl, htN, htn, hE5, -⟩
  have HT := Lib.hid (show sameB t.n a.n t.N a.N = true by rw [htn, htN, haN.out, han.out, hrN.out]; simp [sameB])
  clear htN htn
  go_wp2_with fail
  refine (same_E (x := t) (y := a) hE5 (by simp) (by simp)).mono ?_
  rintro e W7 ⟨rfl, hE6⟩
  rw [HT.out]
  go_wp2_with fail
  refine (Add_E2 (x := a) (y := b) hE6 (by simp) (by simp) rfl (by omega) (by omega)).mono ?_
  rintro e W8 ⟨s, rfl, hsN, hsn, hE7, -⟩
  rw [haN.out, hbN.out] at hsN
  replace hsN := Lib.hid hsN
  clear hsn
  go_wp2_with fail
  refine (Small_yes_E (x := s) hE7 (by simp) (by rw [hsN.out]; exact HF.out)).mono ?_
  rintro e W9 ⟨rfl, rfl⟩
  rw [hsN.out]
  go_wp2_with fail
  refine (Sub_no_E (x := r) (y := b) hE7 (by simp) (by simp) (by rw [hrN.out, hbN.out]; exact HL.out)).mono ?_
  rintro e W9 ⟨rfl, hE8⟩
  go_wp2_with fail
  refine (Small_yes_E (x := ⟨none, 0, 0, 0⟩) hE8 (by simp) (by decide)).mono ?_
  rintro e W10 ⟨rfl, rfl⟩
  go_wp2_with fail
  refine (Cmp_E (x := a) (y := b) hE8 (by simp) (by simp)).mono ?_
  rintro e W11 ⟨rfl, hE9⟩
  rw [haN.out, hbN.out, HC.out]
  go_wp2_with fail
  refine (wakes_E hE9).mono ?_
  rintro e W12 ⟨rfl, hE10⟩
  go_wp2
  go_ret
  refine ⟨?_, hE10.1⟩
  first
  | rfl
  | (refine ret_bool ?_; simp; done)
  | (refine ret_bool ?_; simp; omega)

set_option maxRecDepth 100000 in
set_option maxHeartbeats 4000000 in
theorem small_ltov (w : World) (N M k : Nat) (hN : N < 18446744073709551616) (hM : M < 18446744073709551616) (hk : k ≤ 100) (hlt : N < M) (hov : 18446744073709551616 ≤ N + M) :
    Calls Try.prog 6 #[.int .u64 N, .int .u64 M, .int .i64 k] w fun e w' => e = .returned (.bool true) ∧ Below w.heap.size w w' := by
  have hE : Env w [] w := Env.start (by simp)
  have hlN := lenL_small.2 hN
  have hlM := lenL_small.2 hM
  have HF := Lib.hid (show ¬ N + M < 18446744073709551616 by omega)
  have how : IntKind.u64.wrap ((N : Int) + (M : Int)) = (N : Int) + (M : Int) - 18446744073709551616 := by rw [wrap_u64]; omega
  have HL := Lib.hid hlt
  have HC := Lib.hid (cmpN_lt hlt)
  have HN := Lib.hid hN
  have HM := Lib.hid hM
  obtain ⟨i0, hi, hz0, hz1, hz2⟩ := info_parts info_u32
  go_enter Try.func6, Try.ntmps6
  go_wp2_with fail
  refine (Of_E hE HN.out).mono ?_
  rintro e W1 ⟨a, rfl, haN, han, hE1, -⟩
  replace haN := Lib.hid haN
  have han2 : a.n ≤ 2 := by rw [han]; exact hlN
  replace han := Lib.hid han
  go_wp2_with fail
  refine (Of_E hE1 HM.out).mono ?_
  rintro e W2 ⟨b, rfl, hbN, hbn, hE2, -⟩
  replace hbN := Lib.hid hbN
  have hbn2 : b.n ≤ 2 := by rw [hbn]; exact hlM
  replace hbn := Lib.hid hbn
  have oka := hE2.2 a (by simp)
  go_wp2_with (first
    | (at_builtin; refine wpList_append_row _ rfl (.tmp 30) (.tmp 31) _ rfl W2.heap.size 43 i0 (.int .u32 0) 4 Try.underlying23 hi hz0 hz1 hz2 rfl (.slice (some ⟨W2.heap.size, 0, none⟩) 0 0) 0 [] rfl (World.ownsRow_lit W2 #[] 0 (Nat.le_refl _) (by simp) rfl) a.A a.n a.c (limbs a.N a.n) rfl (limbs_length _ _) (limbs_read oka) limbs_one (by simp only [maxLen]; omega) (by omega) (by simp) ?_; intro v1 W3 hown1 hg1 _; have HO1 := Lib.hid hown1; have HG1 := Lib.hid hg1; have hw3 : W2.heap.size ≤ W3.heap.size := Nat.le_trans (by simp) hg1.size; clear hown1 hg1)
    | (at_builtin; refine wpList_append_zeros _ rfl (.tmp 32) (.tmp 33) _ _ rfl W2.heap.size 43 .i64 i0 (.int .u32 0) 4 Try.underlying23 Try.underlying3 hi hz0 hz1 hz2 rfl rfl v1 (0 + a.n) ([] ++ limbs a.N a.n) rfl HO1.out k .i64 rfl (by omega) (by omega) (by omega) hw3 ?_; intro v2 W4 hown2 hg2; obtain ⟨r, rfl, hrN, hrn, okr, hb4⟩ := long_own haN.out han.out (by omega) (by omega) HO1.out HG1.out hown2 hg2; clear hown2 hg2; replace hrN := Lib.hid hrN; replace hrn := Lib.hid hrn))
  have hE3 : Env w [⟨none, 0, 0, 0⟩, r, b, a] W4 := ((hE2.step hb4).add okr).add ⟨Rd.none_, Nat.le_refl _, by simp [maxLen], by simp⟩
  have hrb : r.n ≤ 1000 := by rw [hrn.out]; omega
  clear hE hE1 hE2 HO1 HG1 hb4 okr oka
  go_wp2_with fail
  refine (Small_yes_E (x := r) hE3 (by simp) (by rw [hrN.out]; exact HN.out)).mono ?_
  rintro e W5 ⟨rfl, rfl⟩
  rw [hrN.out]
  go_wp2_with fail
  refine (Cmp_E (x := r) (y := a) hE3 (by simp) (by simp)).mono ?_
  rintro e W5 ⟨rfl, hE4⟩
  rw [hrN.out, haN.out, cmpN_eq]
  go_wp2_with fail
  refine (Trim_E (x := r) hE4 (by simp)).mono ?_
  rintro e W6 ⟨t, rfl, htN, htn, hE5, -⟩
  have HT := Lib.hid (show sameB t.n a.n t.N a.N = true by rw [htn, htN, haN.out, han.out, hrN.out]; simp [sameB])
  clear htN htn
  go_wp2_with fail
  refine (same_E (x := t) (y := a) hE5 (by simp) (by simp)).mono ?_
  rintro e W7 ⟨rfl, hE6⟩
  rw [HT.out]
  go_wp2_with fail
  refine (Add_E2 (x := a) (y := b) hE6 (by simp) (by simp) rfl (by omega) (by omega)).mono ?_
  rintro e W8 ⟨s, rfl, hsN, hsn, hE7, -⟩
  rw [haN.out, hbN.out] at hsN
  replace hsN := Lib.hid hsN
  clear hsn
  go_wp2_with fail
  refine (Small_no_E (x := s) hE7 (by simp) (by rw [hsN.out]; exact HF.out)).mono ?_
  rintro e W9 ⟨rfl, rfl⟩
  go_wp2_with fail
  refine (Sub_no_E (x := r) (y := b) hE7 (by simp) (by simp) (by rw [hrN.out, hbN.out]; exact HL.out)).mono ?_
  rintro e W9 ⟨rfl, hE8⟩
  go_wp2_with fail
  refine (Small_yes_E (x := ⟨none, 0, 0, 0⟩) hE8 (by simp) (by decide)).mono ?_
  rintro e W10 ⟨rfl, rfl⟩
  go_wp2_with fail
  refine (Cmp_E (x := a) (y := b) hE8 (by simp) (by simp)).mono ?_
  rintro e W11 ⟨rfl, hE9⟩
  rw [haN.out, hbN.out, HC.out]
  go_wp2_with fail
  refine (wakes_E hE9).mono ?_
  rintro e W12 ⟨rfl, hE10⟩
  go_wp2
  go_ret
  refine ⟨?_, hE10.1⟩
  first
  | rfl
  | (refine ret_bool ?_; simp; done)
  | (refine ret_bool ?_; simp; omega)

set_option maxRecDepth 100000 in
set_option maxHeartbeats 4000000 in
theorem small_gtfit (w : World) (N M k : Nat) (hN : N < 18446744073709551616) (hM : M < 18446744073709551616) (hk : k ≤ 100) (hgt : M < N) (hfit : N + M < 18446744073709551616) :
    Calls Try.prog 6 #[.int .u64 N, .int .u64 M, .int .i64 k] w fun e w' => e = .returned (.bool true) ∧ Below w.heap.size w w' := by
  have hE : Env w [] w := Env.start (by simp)
  have hlN := lenL_small.2 hN
  have hlM := lenL_small.2 hM
  have HF := Lib.hid hfit
  have HL := Lib.hid (show M ≤ N by omega)
  have HC := Lib.hid (cmpN_gt hgt)
  have HSB := Lib.hid (show ((N - M : Nat) : Int) = (N : Int) - (M : Int) by omega)
  have HN := Lib.hid hN
  have HM := Lib.hid hM
  obtain ⟨i0, hi, hz0, hz1, hz2⟩ := info_parts info_u32
  go_enter Try.func6, Try.ntmps6
  go_wp2_with fail
  refine (Of_E hE HN.out).mono ?_
  rintro e W1 ⟨a, rfl, haN, han, hE1, -⟩
  replace haN := Lib.hid haN
  have han2 : a.n ≤ 2 := by rw [han]; exact hlN
  replace han := Lib.hid han
  go_wp2_with fail
  refine (Of_E hE1 HM.out).mono ?_
  rintro e W2 ⟨b, rfl, hbN, hbn, hE2, -⟩
  replace hbN := Lib.hid hbN
  have hbn2 : b.n ≤ 2 := by rw [hbn]; exact hlM
  replace hbn := Lib.hid hbn
  have oka := hE2.2 a (by simp)
  go_wp2_with (first
    | (at_builtin; refine wpList_append_row _ rfl (.tmp 30) (.tmp 31) _ rfl W2.heap.size 43 i0 (.int .u32 0) 4 Try.underlying23 hi hz0 hz1 hz2 rfl (.slice (some ⟨W2.heap.size, 0, none⟩) 0 0) 0 [] rfl (World.ownsRow_lit W2 #[] 0 (Nat.le_refl _) (by simp) rfl) a.A a.n a.c (limbs a.N a.n) rfl (limbs_length _ _) (limbs_read oka) limbs_one (by simp only [maxLen]; omega) (by omega) (by simp) ?_; intro v1 W3 hown1 hg1 _; have HO1 := Lib.hid hown1; have HG1 := Lib.hid hg1; have hw3 : W2.heap.size ≤ W3.heap.size := Nat.le_trans (by simp) hg1.size; clear hown1 hg1)
    | (at_builtin; refine wpList_append_zeros _ rfl (.tmp 32) (.tmp 33) _ _ rfl W2.heap.size 43 .i64 i0 (.int .u32 0) 4 Try.underlying23 Try.underlying3 hi hz0 hz1 hz2 rfl rfl v1 (0 + a.n) ([] ++ limbs a.N a.n) rfl HO1.out k .i64 rfl (by omega) (by omega) (by omega) hw3 ?_; intro v2 W4 hown2 hg2; obtain ⟨r, rfl, hrN, hrn, okr, hb4⟩ := long_own haN.out han.out (by omega) (by omega) HO1.out HG1.out hown2 hg2; clear hown2 hg2; replace hrN := Lib.hid hrN; replace hrn := Lib.hid hrn))
  have hE3 : Env w [⟨none, 0, 0, 0⟩, r, b, a] W4 := ((hE2.step hb4).add okr).add ⟨Rd.none_, Nat.le_refl _, by simp [maxLen], by simp⟩
  have hrb : r.n ≤ 1000 := by rw [hrn.out]; omega
  clear hE hE1 hE2 HO1 HG1 hb4 okr oka
  go_wp2_with fail
  refine (Small_yes_E (x := r) hE3 (by simp) (by rw [hrN.out]; exact HN.out)).mono ?_
  rintro e W5 ⟨rfl, rfl⟩
  rw [hrN.out]
  go_wp2_with fail
  refine (Cmp_E (x := r) (y := a) hE3 (by simp) (by simp)).mono ?_
  rintro e W5 ⟨rfl, hE4⟩
  rw [hrN.out, haN.out, cmpN_eq]
  go_wp2_with fail
  refine (Trim_E (x := r) hE4 (by simp)).mono ?_
  rintro e W6 ⟨t, rfl, htN, htn, hE5, -⟩
  have HT := Lib.hid (show sameB t.n a.n t.N a.N = true by rw [htn, htN, haN.out, han.out, hrN.out]; simp [sameB])
  clear htN htn
  go_wp2_with fail
  refine (same_E (x := t) (y := a) hE5 (by simp) (by simp)).mono ?_
  rintro e W7 ⟨rfl, hE6⟩
  rw [HT.out]
  go_wp2_with fail
  refine (Add_E2 (x := a) (y := b) hE6 (by simp) (by simp) rfl (by omega) (by omega)).mono ?_
  rintro e W8 ⟨s, rfl, hsN, hsn, hE7, -⟩
  rw [haN.out, hbN.out] at hsN
  replace hsN := Lib.hid hsN
  clear hsn
  go_wp2_with fail
  refine (Small_yes_E (x := s) hE7 (by simp) (by rw [hsN.out]; exact HF.out)).mono ?_
  rintro e W9 ⟨rfl, rfl⟩
  rw [hsN.out]
  go_wp2_with fail
  refine (Sub_yes_E (x := r) (y := b) hE7 (by simp) (by simp) (by rw [hrN.out, hbN.out]; exact HL.out)).mono ?_
  rintro e W9 ⟨d, rfl, hdN, hdn, hE8, -⟩
  rw [hrN.out, hbN.out] at hdN
  replace hdN := Lib.hid hdN
  clear hdn
  go_wp2_with fail
  refine (Small_yes_E (x := d) hE8 (by simp) (by rw [hdN.out]; exact Nat.lt_of_le_of_lt (Nat.sub_le _ _) HN.out)).mono ?_
  rintro e W10 ⟨rfl, rfl⟩
  rw [hdN.out, HSB.out]
  go_wp2_with fail
  refine (Cmp_E (x := a) (y := b) hE8 (by simp) (by simp)).mono ?_
  rintro e W11 ⟨rfl, hE9⟩
  rw [haN.out, hbN.out, HC.out]
  go_wp2_with fail
  refine (wakes_E hE9).mono ?_
  rintro e W12 ⟨rfl, hE10⟩
  go_wp2
  go_ret
  refine ⟨?_, hE10.1⟩
  first
  | rfl
  | (refine ret_bool ?_; simp; done)
  | (refine ret_bool ?_; simp; omega)

set_option maxRecDepth 100000 in
set_option maxHeartbeats 4000000 in
theorem small_gtov (w : World) (N M k : Nat) (hN : N < 18446744073709551616) (hM : M < 18446744073709551616) (hk : k ≤ 100) (hgt : M < N) (hov : 18446744073709551616 ≤ N + M) :
    Calls Try.prog 6 #[.int .u64 N, .int .u64 M, .int .i64 k] w fun e w' => e = .returned (.bool true) ∧ Below w.heap.size w w' := by
  have hE : Env w [] w := Env.start (by simp)
  have hlN := lenL_small.2 hN
  have hlM := lenL_small.2 hM
  have HF := Lib.hid (show ¬ N + M < 18446744073709551616 by omega)
  have how : IntKind.u64.wrap ((N : Int) + (M : Int)) = (N : Int) + (M : Int) - 18446744073709551616 := by rw [wrap_u64]; omega
  have HL := Lib.hid (show M ≤ N by omega)
  have HC := Lib.hid (cmpN_gt hgt)
  have HSB := Lib.hid (show ((N - M : Nat) : Int) = (N : Int) - (M : Int) by omega)
  have HN := Lib.hid hN
  have HM := Lib.hid hM
  obtain ⟨i0, hi, hz0, hz1, hz2⟩ := info_parts info_u32
  go_enter Try.func6, Try.ntmps6
  go_wp2_with fail
  refine (Of_E hE HN.out).mono ?_
  rintro e W1 ⟨a, rfl, haN, han, hE1, -⟩
  replace haN := Lib.hid haN
  have han2 : a.n ≤ 2 := by rw [han]; exact hlN
  replace han := Lib.hid han
  go_wp2_with fail
  refine (Of_E hE1 HM.out).mono ?_
  rintro e W2 ⟨b, rfl, hbN, hbn, hE2, -⟩
  replace hbN := Lib.hid hbN
  have hbn2 : b.n ≤ 2 := by rw [hbn]; exact hlM
  replace hbn := Lib.hid hbn
  have oka := hE2.2 a (by simp)
  go_wp2_with (first
    | (at_builtin; refine wpList_append_row _ rfl (.tmp 30) (.tmp 31) _ rfl W2.heap.size 43 i0 (.int .u32 0) 4 Try.underlying23 hi hz0 hz1 hz2 rfl (.slice (some ⟨W2.heap.size, 0, none⟩) 0 0) 0 [] rfl (World.ownsRow_lit W2 #[] 0 (Nat.le_refl _) (by simp) rfl) a.A a.n a.c (limbs a.N a.n) rfl (limbs_length _ _) (limbs_read oka) limbs_one (by simp only [maxLen]; omega) (by omega) (by simp) ?_; intro v1 W3 hown1 hg1 _; have HO1 := Lib.hid hown1; have HG1 := Lib.hid hg1; have hw3 : W2.heap.size ≤ W3.heap.size := Nat.le_trans (by simp) hg1.size; clear hown1 hg1)
    | (at_builtin; refine wpList_append_zeros _ rfl (.tmp 32) (.tmp 33) _ _ rfl W2.heap.size 43 .i64 i0 (.int .u32 0) 4 Try.underlying23 Try.underlying3 hi hz0 hz1 hz2 rfl rfl v1 (0 + a.n) ([] ++ limbs a.N a.n) rfl HO1.out k .i64 rfl (by omega) (by omega) (by omega) hw3 ?_; intro v2 W4 hown2 hg2; obtain ⟨r, rfl, hrN, hrn, okr, hb4⟩ := long_own haN.out han.out (by omega) (by omega) HO1.out HG1.out hown2 hg2; clear hown2 hg2; replace hrN := Lib.hid hrN; replace hrn := Lib.hid hrn))
  have hE3 : Env w [⟨none, 0, 0, 0⟩, r, b, a] W4 := ((hE2.step hb4).add okr).add ⟨Rd.none_, Nat.le_refl _, by simp [maxLen], by simp⟩
  have hrb : r.n ≤ 1000 := by rw [hrn.out]; omega
  clear hE hE1 hE2 HO1 HG1 hb4 okr oka
  go_wp2_with fail
  refine (Small_yes_E (x := r) hE3 (by simp) (by rw [hrN.out]; exact HN.out)).mono ?_
  rintro e W5 ⟨rfl, rfl⟩
  rw [hrN.out]
  go_wp2_with fail
  refine (Cmp_E (x := r) (y := a) hE3 (by simp) (by simp)).mono ?_
  rintro e W5 ⟨rfl, hE4⟩
  rw [hrN.out, haN.out, cmpN_eq]
  go_wp2_with fail
  refine (Trim_E (x := r) hE4 (by simp)).mono ?_
  rintro e W6 ⟨t, rfl, htN, htn, hE5, -⟩
  have HT := Lib.hid (show sameB t.n a.n t.N a.N = true by rw [htn, htN, haN.out, han.out, hrN.out]; simp [sameB])
  clear htN htn
  go_wp2_with fail
  refine (same_E (x := t) (y := a) hE5 (by simp) (by simp)).mono ?_
  rintro e W7 ⟨rfl, hE6⟩
  rw [HT.out]
  go_wp2_with fail
  refine (Add_E2 (x := a) (y := b) hE6 (by simp) (by simp) rfl (by omega) (by omega)).mono ?_
  rintro e W8 ⟨s, rfl, hsN, hsn, hE7, -⟩
  rw [haN.out, hbN.out] at hsN
  replace hsN := Lib.hid hsN
  clear hsn
  go_wp2_with fail
  refine (Small_no_E (x := s) hE7 (by simp) (by rw [hsN.out]; exact HF.out)).mono ?_
  rintro e W9 ⟨rfl, rfl⟩
  go_wp2_with fail
  refine (Sub_yes_E (x := r) (y := b) hE7 (by simp) (by simp) (by rw [hrN.out, hbN.out]; exact HL.out)).mono ?_
  rintro e W9 ⟨d, rfl, hdN, hdn, hE8, -⟩
  rw [hrN.out, hbN.out] at hdN
  replace hdN := Lib.hid hdN
  clear hdn
  go_wp2_with fail
  refine (Small_yes_E (x := d) hE8 (by simp) (by rw [hdN.out]; exact Nat.lt_of_le_of_lt (Nat.sub_le _ _) HN.out)).mono ?_
  rintro e W10 ⟨rfl, rfl⟩
  rw [hdN.out, HSB.out]
  go_wp2_with fail
  refine (Cmp_E (x := a) (y := b) hE8 (by simp) (by simp)).mono ?_
  rintro e W11 ⟨rfl, hE9⟩
  rw [haN.out, hbN.out, HC.out]
  go_wp2_with fail
  refine (wakes_E hE9).mono ?_
  rintro e W12 ⟨rfl, hE10⟩
  go_wp2
  go_ret
  refine ⟨?_, hE10.1⟩
  first
  | rfl
  | (refine ret_bool ?_; simp; done)
  | (refine ret_bool ?_; simp; omega)

set_option maxRecDepth 100000 in
set_option maxHeartbeats 4000000 in
theorem small_eqfit (w : World) (N M k : Nat) (hN : N < 18446744073709551616) (hM : M < 18446744073709551616) (hk : k ≤ 100) (hle : M ≤ N) (hle2 : N ≤ M) (hfit : N + M < 18446744073709551616) :
    Calls Try.prog 6 #[.int .u64 N, .int .u64 M, .int .i64 k] w fun e w' => e = .returned (.bool true) ∧ Below w.heap.size w w' := by
  have hE : Env w [] w := Env.start (by simp)
  have hlN := lenL_small.2 hN
  have hlM := lenL_small.2 hM
  have HF := Lib.hid hfit
  have HL := Lib.hid hle
  have HC := Lib.hid (show cmpN N M = 0 by rw [show N = M by omega]; exact cmpN_eq _)
  have HSB := Lib.hid (show ((N - M : Nat) : Int) = (N : Int) - (M : Int) by omega)
  have HN := Lib.hid hN
  have HM := Lib.hid hM
  obtain ⟨i0, hi, hz0, hz1, hz2⟩ := info_parts info_u32
  go_enter Try.func6, Try.ntmps6
  go_wp2_with fail
  refine (Of_E hE HN.out).mono ?_
  rintro e W1 ⟨a, rfl, haN, han, hE1, -⟩
  replace haN := Lib.hid haN
  have han2 : a.n ≤ 2 := by rw [han]; exact hlN
  replace han := Lib.hid han
  go_wp2_with fail
  refine (Of_E hE1 HM.out).mono ?_
  rintro e W2 ⟨b, rfl, hbN, hbn, hE2, -⟩
  replace hbN := Lib.hid hbN
  have hbn2 : b.n ≤ 2 := by rw [hbn]; exact hlM
  replace hbn := Lib.hid hbn
  have oka := hE2.2 a (by simp)
  go_wp2_with (first
    | (at_builtin; refine wpList_append_row _ rfl (.tmp 30) (.tmp 31) _ rfl W2.heap.size 43 i0 (.int .u32 0) 4 Try.underlying23 hi hz0 hz1 hz2 rfl (.slice (some ⟨W2.heap.size, 0, none⟩) 0 0) 0 [] rfl (World.ownsRow_lit W2 #[] 0 (Nat.le_refl _) (by simp) rfl) a.A a.n a.c (limbs a.N a.n) rfl (limbs_length _ _) (limbs_read oka) limbs_one (by simp only [maxLen]; omega) (by omega) (by simp) ?_; intro v1 W3 hown1 hg1 _; have HO1 := Lib.hid hown1; have HG1 := Lib.hid hg1; have hw3 : W2.heap.size ≤ W3.heap.size := Nat.le_trans (by simp) hg1.size; clear hown1 hg1)
    | (at_builtin; refine wpList_append_zeros _ rfl (.tmp 32) (.tmp 33) _ _ rfl W2.heap.size 43 .i64 i0 (.int .u32 0) 4 Try.underlying23 Try.underlying3 hi hz0 hz1 hz2 rfl rfl v1 (0 + a.n) ([] ++ limbs a.N a.n) rfl HO1.out k .i64 rfl (by omega) (by omega) (by omega) hw3 ?_; intro v2 W4 hown2 hg2; obtain ⟨r, rfl, hrN, hrn, okr, hb4⟩ := long_own haN.out han.out (by omega) (by omega) HO1.out HG1.out hown2 hg2; clear hown2 hg2; replace hrN := Lib.hid hrN; replace hrn := Lib.hid hrn))
  have hE3 : Env w [⟨none, 0, 0, 0⟩, r, b, a] W4 := ((hE2.step hb4).add okr).add ⟨Rd.none_, Nat.le_refl _, by simp [maxLen], by simp⟩
  have hrb : r.n ≤ 1000 := by rw [hrn.out]; omega
  clear hE hE1 hE2 HO1 HG1 hb4 okr oka
  go_wp2_with fail
  refine (Small_yes_E (x := r) hE3 (by simp) (by rw [hrN.out]; exact HN.out)).mono ?_
  rintro e W5 ⟨rfl, rfl⟩
  rw [hrN.out]
  go_wp2_with fail
  refine (Cmp_E (x := r) (y := a) hE3 (by simp) (by simp)).mono ?_
  rintro e W5 ⟨rfl, hE4⟩
  rw [hrN.out, haN.out, cmpN_eq]
  go_wp2_with fail
  refine (Trim_E (x := r) hE4 (by simp)).mono ?_
  rintro e W6 ⟨t, rfl, htN, htn, hE5, -⟩
  have HT := Lib.hid (show sameB t.n a.n t.N a.N = true by rw [htn, htN, haN.out, han.out, hrN.out]; simp [sameB])
  clear htN htn
  go_wp2_with fail
  refine (same_E (x := t) (y := a) hE5 (by simp) (by simp)).mono ?_
  rintro e W7 ⟨rfl, hE6⟩
  rw [HT.out]
  go_wp2_with fail
  refine (Add_E2 (x := a) (y := b) hE6 (by simp) (by simp) rfl (by omega) (by omega)).mono ?_
  rintro e W8 ⟨s, rfl, hsN, hsn, hE7, -⟩
  rw [haN.out, hbN.out] at hsN
  replace hsN := Lib.hid hsN
  clear hsn
  go_wp2_with fail
  refine (Small_yes_E (x := s) hE7 (by simp) (by rw [hsN.out]; exact HF.out)).mono ?_
  rintro e W9 ⟨rfl, rfl⟩
  rw [hsN.out]
  go_wp2_with fail
  refine (Sub_yes_E (x := r) (y := b) hE7 (by simp) (by simp) (by rw [hrN.out, hbN.out]; exact HL.out)).mono ?_
  rintro e W9 ⟨d, rfl, hdN, hdn, hE8, -⟩
  rw [hrN.out, hbN.out] at hdN
  replace hdN := Lib.hid hdN
  clear hdn
  go_wp2_with fail
  refine (Small_yes_E (x := d) hE8 (by simp) (by rw [hdN.out]; exact Nat.lt_of_le_of_lt (Nat.sub_le _ _) HN.out)).mono ?_
  rintro e W10 ⟨rfl, rfl⟩
  rw [hdN.out, HSB.out]
  go_wp2_with fail
  refine (Cmp_E (x := a) (y := b) hE8 (by simp) (by simp)).mono ?_
  rintro e W11 ⟨rfl, hE9⟩
  rw [haN.out, hbN.out, HC.out]
  go_wp2_with fail
  refine (wakes_E hE9).mono ?_
  rintro e W12 ⟨rfl, hE10⟩
  go_wp2
  go_ret
  refine ⟨?_, hE10.1⟩
  first
  | rfl
  | (refine ret_bool ?_; simp; done)
  | (refine ret_bool ?_; simp; omega)

set_option maxRecDepth 100000 in
set_option maxHeartbeats 4000000 in
theorem small_eqov (w : World) (N M k : Nat) (hN : N < 18446744073709551616) (hM : M < 18446744073709551616) (hk : k ≤ 100) (hle : M ≤ N) (hle2 : N ≤ M) (hov : 18446744073709551616 ≤ N + M) :
    Calls Try.prog 6 #[.int .u64 N, .int .u64 M, .int .i64 k] w fun e w' => e = .returned (.bool true) ∧ Below w.heap.size w w' := by
  have hE : Env w [] w := Env.start (by simp)
  have hlN := lenL_small.2 hN
  have hlM := lenL_small.2 hM
  have HF := Lib.hid (show ¬ N + M < 18446744073709551616 by omega)
  have how : IntKind.u64.wrap ((N : Int) + (M : Int)) = (N : Int) + (M : Int) - 18446744073709551616 := by rw [wrap_u64]; omega
  have HL := Lib.hid hle
  have HC := Lib.hid (show cmpN N M = 0 by rw [show N = M by omega]; exact cmpN_eq _)
  have HSB := Lib.hid (show ((N - M : Nat) : Int) = (N : Int) - (M : Int) by omega)
  have HN := Lib.hid hN
  have HM := Lib.hid hM
  obtain ⟨i0, hi, hz0, hz1, hz2⟩ := info_parts info_u32
  go_enter Try.func6, Try.ntmps6
  go_wp2_with fail
  refine (Of_E hE HN.out).mono ?_
  rintro e W1 ⟨a, rfl, haN, han, hE1, -⟩
  replace haN := Lib.hid haN
  have han2 : a.n ≤ 2 := by rw [han]; exact hlN
  replace han := Lib.hid han
  go_wp2_with fail
  refine (Of_E hE1 HM.out).mono ?_
  rintro e W2 ⟨b, rfl, hbN, hbn, hE2, -⟩
  replace hbN := Lib.hid hbN
  have hbn2 : b.n ≤ 2 := by rw [hbn]; exact hlM
  replace hbn := Lib.hid hbn
  have oka := hE2.2 a (by simp)
  go_wp2_with (first
    | (at_builtin; refine wpList_append_row _ rfl (.tmp 30) (.tmp 31) _ rfl W2.heap.size 43 i0 (.int .u32 0) 4 Try.underlying23 hi hz0 hz1 hz2 rfl (.slice (some ⟨W2.heap.size, 0, none⟩) 0 0) 0 [] rfl (World.ownsRow_lit W2 #[] 0 (Nat.le_refl _) (by simp) rfl) a.A a.n a.c (limbs a.N a.n) rfl (limbs_length _ _) (limbs_read oka) limbs_one (by simp only [maxLen]; omega) (by omega) (by simp) ?_; intro v1 W3 hown1 hg1 _; have HO1 := Lib.hid hown1; have HG1 := Lib.hid hg1; have hw3 : W2.heap.size ≤ W3.heap.size := Nat.le_trans (by simp) hg1.size; clear hown1 hg1)
    | (at_builtin; refine wpList_append_zeros _ rfl (.tmp 32) (.tmp 33) _ _ rfl W2.heap.size 43 .i64 i0 (.int .u32 0) 4 Try.underlying23 Try.underlying3 hi hz0 hz1 hz2 rfl rfl v1 (0 + a.n) ([] ++ limbs a.N a.n) rfl HO1.out k .i64 rfl (by omega) (by omega) (by omega) hw3 ?_; intro v2 W4 hown2 hg2; obtain ⟨r, rfl, hrN, hrn, okr, hb4⟩ := long_own haN.out han.out (by omega) (by omega) HO1.out HG1.out hown2 hg2; clear hown2 hg2; replace hrN := Lib.hid hrN; replace hrn := Lib.hid hrn))
  have hE3 : Env w [⟨none, 0, 0, 0⟩, r, b, a] W4 := ((hE2.step hb4).add okr).add ⟨Rd.none_, Nat.le_refl _, by simp [maxLen], by simp⟩
  have hrb : r.n ≤ 1000 := by rw [hrn.out]; omega
  clear hE hE1 hE2 HO1 HG1 hb4 okr oka
  go_wp2_with fail
  refine (Small_yes_E (x := r) hE3 (by simp) (by rw [hrN.out]; exact HN.out)).mono ?_
  rintro e W5 ⟨rfl, rfl⟩
  rw [hrN.out]
  go_wp2_with fail
  refine (Cmp_E (x := r) (y := a) hE3 (by simp) (by simp)).mono ?_
  rintro e W5 ⟨rfl, hE4⟩
  rw [hrN.out, haN.out, cmpN_eq]
  go_wp2_with fail
  refine (Trim_E (x := r) hE4 (by simp)).mono ?_
  rintro e W6 ⟨t, rfl, htN, htn, hE5, -⟩
  have HT := Lib.hid (show sameB t.n a.n t.N a.N = true by rw [htn, htN, haN.out, han.out, hrN.out]; simp [sameB])
  clear htN htn
  go_wp2_with fail
  refine (same_E (x := t) (y := a) hE5 (by simp) (by simp)).mono ?_
  rintro e W7 ⟨rfl, hE6⟩
  rw [HT.out]
  go_wp2_with fail
  refine (Add_E2 (x := a) (y := b) hE6 (by simp) (by simp) rfl (by omega) (by omega)).mono ?_
  rintro e W8 ⟨s, rfl, hsN, hsn, hE7, -⟩
  rw [haN.out, hbN.out] at hsN
  replace hsN := Lib.hid hsN
  clear hsn
  go_wp2_with fail
  refine (Small_no_E (x := s) hE7 (by simp) (by rw [hsN.out]; exact HF.out)).mono ?_
  rintro e W9 ⟨rfl, rfl⟩
  go_wp2_with fail
  refine (Sub_yes_E (x := r) (y := b) hE7 (by simp) (by simp) (by rw [hrN.out, hbN.out]; exact HL.out)).mono ?_
  rintro e W9 ⟨d, rfl, hdN, hdn, hE8, -⟩
  rw [hrN.out, hbN.out] at hdN
  replace hdN := Lib.hid hdN
  clear hdn
  go_wp2_with fail
  refine (Small_yes_E (x := d) hE8 (by simp) (by rw [hdN.out]; exact Nat.lt_of_le_of_lt (Nat.sub_le _ _) HN.out)).mono ?_
  rintro e W10 ⟨rfl, rfl⟩
  rw [hdN.out, HSB.out]
  go_wp2_with fail
  refine (Cmp_E (x := a) (y := b) hE8 (by simp) (by simp)).mono ?_
  rintro e W11 ⟨rfl, hE9⟩
  rw [haN.out, hbN.out, HC.out]
  go_wp2_with fail
  refine (wakes_E hE9).mono ?_
  rintro e W12 ⟨rfl, hE10⟩
  go_wp2
  go_ret
  refine ⟨?_, hE10.1⟩
  first
  | rfl
  | (refine ret_bool ?_; simp; done)
  | (refine ret_bool ?_; simp; omega)

end Go.Proofs.Ytgkcfciicekhaaa
