/- ProdPowers, over what the program's functions answer: powers, and that what is handed in is not changed. -/
import Derived.Test.YtjakmpphfjhbaaaProdBits
namespace Go.Proofs.Ytjakmpphfjhbaaa
open Go Go.ChangeShapes Go.WideShapes Go.ChangeAt Go.RowKit Go.Deep

/-- A fresh copy of a number. -/
theorem copy_own {W : World} {x : Num} {v' : Value} {W' : World} (hx : x.ok W W.heap.size)
    (hown : W'.ownsRow W.heap.size 25 1 v' (0 + x.n) ([] ++ limbs x.N x.n)) (hg : (W.alloc (.cells #[] 25)).grownBy W' (some W.heap.size)) :
    ∃ r : Num, v' = .slice r.A r.n r.c ∧ r.N = x.N ∧ r.n = x.n ∧ r.ok W' W'.heap.size ∧ Below W.heap.size W W' := by
  rw [Nat.zero_add, List.nil_append] at hown
  obtain ⟨A, c, rfl, h1, h2, h3⟩ := Fr.of_own hown hx.1.1 (fun j hj => limbs_at hj)
  exact ⟨⟨A, x.n, c, x.N⟩, rfl, rfl, rfl, ⟨h3.rd, h1, h2, hx.2.2.2⟩, ((Below.refl _ W).alloc (Nat.le_refl _) _).grown hg (by simp) (fun k e => by cases e; exact Nat.le_refl _)⟩

theorem limbs_read {W : World} {x : Num} (hx : x.ok W W.heap.size) : ∀ j u, (limbs x.N x.n)[j]? = some u → ∃ ad : Addr, x.A = some ad ∧ (W.alloc (.cells #[] 25)).cell? (ad.add j) = some u := fun j u hu => by
  obtain ⟨hj, rfl⟩ := limbs_get hu
  obtain ⟨ad, e, hb, hc⟩ := (hx.alloc (.cells #[] 25)).1.at_ (k := j) hj
  exact ⟨ad, e, hc⟩

theorem sameB_refl (n N : Nat) : sameB n n N N = true := by simp [sameB]

set_option maxRecDepth 100000 in
set_option maxHeartbeats 2000000 in
theorem ppow_far (S : ProdTold) (w : World) (x : Num) (k m : Int) (hx : x.ok w w.heap.size) (h : 4 < x.n ∨ (x.n ≤ 4 ∧ k < 0) ∨ (x.n ≤ 4 ∧ 0 ≤ k ∧ 20 < k) ∨ (x.n ≤ 4 ∧ 0 ≤ k ∧ k ≤ 20 ∧ m < 0) ∨ (x.n ≤ 4 ∧ 0 ≤ k ∧ k ≤ 20 ∧ 0 ≤ m ∧ 20 < m)) :
    Calls Try.prog 7 #[.slice x.A x.n x.c, .int .i64 k, .int .i64 m] w fun e w' => e = .returned (.bool true) ∧ Below w.heap.size w w' := by
  have hE : Env w [x] w := Env.start (by simp; exact hx)
  clear hx
  rcases h with h | ⟨h, h2⟩ | ⟨h, h2, h3⟩ | ⟨h, h2, h3, h4⟩ | ⟨h, h2, h3, h4, h5⟩
  all_goals
    go_enter Try.func7, Try.ntmps7
    go_wp2_with fail
    refine (wakes2_E S hE).mono ?_
    rintro e W2 ⟨rfl, hE2⟩
    go_wp2
    go_ret
    exact ⟨rfl, hE2.1⟩

set_option maxRecDepth 100000 in
set_option maxHeartbeats 4000000 in
theorem ppow_go (S : ProdTold) (w : World) (x : Num) (K M : Nat) (hx : x.ok w w.heap.size) (h4 : x.n ≤ 4) (hK : K ≤ 20) (hM : M ≤ 20) :
    Calls Try.prog 7 #[.slice x.A x.n x.c, .int .i64 K, .int .i64 M] w fun e w' => e = .returned (.bool true) ∧ Below w.heap.size w w' := by
  have hE : Env w [x] w := Env.start (by simp; exact hx)
  have okx := hx
  have HL := Lib.hid (fun j => pow_len hx.1.1 j)
  have hxk : x.n * K ≤ 80 := by have := Nat.mul_le_mul h4 hK; omega
  have hxm : x.n * M ≤ 80 := by have := Nat.mul_le_mul h4 hM; omega
  have HXK := Lib.hid hxk
  have HXM := Lib.hid hxm
  have t1 : min ((K : Int) + (M : Int)).toNat 256 = K + M := by omega
  have t2 : min ((K : Int)).toNat 256 = K := by omega
  have t3 : min ((M : Int)).toNat 256 = M := by omega
  have t4 : min (2 * (K : Int)).toNat 256 = 2 * K := by omega
  have T1 := Lib.hid t1
  have T2 := Lib.hid t2
  have T3 := Lib.hid t3
  have T4 := Lib.hid t4
  clear hx hxk hxm t1 t2 t3 t4
  obtain ⟨i0, hi, hz0, hz1, hz2⟩ := info_parts info_u32
  go_enter Try.func7, Try.ntmps7
  go_wp2_with (at_builtin; refine wpList_append_row _ rfl (.tmp 29) (.tmp 30) _ rfl w.heap.size 25 i0 (.int .u32 0) 4 Try.underlying23 hi hz0 hz1 hz2 rfl (.slice (some ⟨w.heap.size, 0, none⟩) 0 0) 0 [] rfl (World.ownsRow_lit w #[] 0 (Nat.le_refl _) (by simp) rfl) x.A x.n x.c (limbs x.N x.n) rfl (limbs_length _ _) (limbs_read okx) limbs_one (by simp only [maxLen]; omega) (by omega) (by simp) ?_; intro v1 W1 hown1 hg1 _; obtain ⟨was, rfl, hwN, hwn, okwas, hb1⟩ := copy_own okx hown1 hg1; clear hown1 hg1; replace hwN := Lib.hid hwN; replace hwn := Lib.hid hwn; have hE1 := (hE.step hb1).add okwas; clear okx hE)
  refine (S.pow _ _ _ x ((K : Int) + (M : Int)) hE1 (by simp) (by omega) (by omega)).mono ?_
  rintro e V2 ⟨a, rfl, aN, an, hE2, -⟩
  rw [T1.out] at aN an
  replace aN := Lib.hid aN
  replace an := Lib.hid an
  go_wp2_with fail
  refine (S.pow _ _ _ x (K : Int) hE2 (by simp) (by omega) (by omega)).mono ?_
  rintro e V3 ⟨b, rfl, bN, bn, hE3, -⟩
  rw [T2.out] at bN bn
  have bb : b.n ≤ 81 := by rw [bn]; have h1 := HL.out K; have h2 := HXK.out; omega
  replace bN := Lib.hid bN
  replace bn := Lib.hid bn
  go_wp2_with fail
  refine (S.pow _ _ _ x (M : Int) hE3 (by simp) (by omega) (by omega)).mono ?_
  rintro e V4 ⟨d, rfl, dN, dn, hE4, -⟩
  rw [T3.out] at dN dn
  have db : d.n ≤ 81 := by rw [dn]; have h1 := HL.out M; have h2 := HXM.out; omega
  replace dN := Lib.hid dN
  replace dn := Lib.hid dn
  go_wp2_with fail
  refine (S.mul _ _ _ b d hE4 (by simp) (by simp) (by omega) (by omega)).mono ?_
  rintro e V5 ⟨f, rfl, fN, fn, hE5, -⟩
  replace fN := Lib.hid fN
  replace fn := Lib.hid fn
  go_wp2_with fail
  refine (same2_E (x := a) (y := f) hE5 (by simp) (by simp)).mono ?_
  rintro e V6 ⟨rfl, hE6⟩
  rw [same_of (show a.N = f.N by rw [aN.out, fN.out, bN.out, dN.out, Nat.pow_add]) (by rw [an.out, aN.out]) (by rw [fn.out, fN.out])]
  go_wp2_with fail
  refine (S.pow _ _ _ x (K : Int) hE6 (by simp) (by omega) (by omega)).mono ?_
  rintro e V7 ⟨g, rfl, gN, gn, hE7, -⟩
  rw [T2.out] at gN gn
  have gb : g.n ≤ 81 := by rw [gn]; have h1 := HL.out K; have h2 := HXK.out; omega
  replace gN := Lib.hid gN
  replace gn := Lib.hid gn
  go_wp2_with fail
  refine (S.pow _ _ _ g 2 hE7 (by simp) (by omega) (by omega)).mono ?_
  rintro e V8 ⟨h, rfl, hN, hn, hE8, -⟩
  replace hN := Lib.hid hN
  replace hn := Lib.hid hn
  go_wp2_with fail
  refine (S.pow _ _ _ x (2 * (K : Int)) hE8 (by simp) (by omega) (by omega)).mono ?_
  rintro e V9 ⟨ii, rfl, iiN, iin, hE9, -⟩
  rw [T4.out] at iiN iin
  replace iiN := Lib.hid iiN
  replace iin := Lib.hid iin
  go_wp2_with fail
  refine (same2_E (x := h) (y := ii) hE9 (by simp) (by simp)).mono ?_
  rintro e V10 ⟨rfl, hE10⟩
  rw [same_of (show h.N = ii.N by rw [hN.out, iiN.out, gN.out, show min (2 : Int).toNat 256 = 2 from rfl, ← Nat.pow_mul, Nat.mul_comm K 2]) (by rw [hn.out, hN.out]) (by rw [iin.out, iiN.out])]
  go_wp2_with fail
  refine (S.up _ _ _ x (K : Int) hE10 (by simp) (by omega) (by omega)).mono ?_
  rintro e V11 ⟨j, rfl, jN, jn, hE11, -⟩
  replace jN := Lib.hid jN
  replace jn := Lib.hid jn
  go_wp2_with fail
  refine (S.down _ _ _ x (M : Int) hE11 (by simp) (by omega) (by omega)).mono ?_
  rintro e V12 ⟨q, rfl, qN, qn, hE12, -⟩
  replace qN := Lib.hid qN
  replace qn := Lib.hid qn
  go_wp2_with fail
  refine (S.by_ _ _ _ x 7 hE12 (by simp) (by omega) (by omega)).mono ?_
  rintro e V13 ⟨r, rfl, rN, rn, hE13, -⟩
  replace rN := Lib.hid rN
  replace rn := Lib.hid rn
  go_wp2_with fail
  refine (same2_E (x := x) (y := was) hE13 (by simp) (by simp)).mono ?_
  rintro e V14 ⟨rfl, hE14⟩
  rw [hwN.out, hwn.out, sameB_refl]
  go_wp2_with fail
  refine (S.pow _ _ _ x 0 hE14 (by simp) (by omega) (by omega)).mono ?_
  rintro e V15 ⟨t, rfl, tN, tn, hE15, -⟩
  rw [show min (0 : Int).toNat 256 = 0 from rfl, Nat.pow_zero] at tN tn
  replace tN := Lib.hid tN
  replace tn := Lib.hid tn
  go_wp2_with fail
  have hL15 := (hE15.pick (e' := [t, x]) (by simp)).lit (N := 1) (v := 1) rfl rfl (by omega)
  refine (same2_E (x := t) (y := ⟨some ⟨V15.heap.size, 0, none⟩, 1, 1, 1⟩) hL15 (by simp) (by simp)).mono ?_
  rintro e V16 ⟨rfl, hE16⟩
  rw [same_of (r := t) (s := ⟨some ⟨V15.heap.size, 0, none⟩, 1, 1, 1⟩) (show t.N = 1 by rw [tN.out]) (by rw [tn.out, tN.out]) (show 1 = lenL 1 by rw [len_one])]
  go_wp2_with fail
  refine (S.pow _ _ _ x (-1) hE16 (by simp) (by omega) (by omega)).mono ?_
  rintro e V17 ⟨u, rfl, uN, un, hE17, -⟩
  rw [show min ((-1) : Int).toNat 256 = 0 from rfl, Nat.pow_zero] at uN un
  replace uN := Lib.hid uN
  replace un := Lib.hid un
  go_wp2_with fail
  have hL17 := (hE17.pick (e' := [u, x]) (by simp)).lit (N := 1) (v := 1) rfl rfl (by omega)
  refine (same2_E (x := u) (y := ⟨some ⟨V17.heap.size, 0, none⟩, 1, 1, 1⟩) hL17 (by simp) (by simp)).mono ?_
  rintro e V18 ⟨rfl, hE18⟩
  rw [same_of (r := u) (s := ⟨some ⟨V17.heap.size, 0, none⟩, 1, 1, 1⟩) (show u.N = 1 by rw [uN.out]) (by rw [un.out, uN.out]) (show 1 = lenL 1 by rw [len_one])]
  go_wp2_with fail
  refine (wakes2_E S hE18).mono ?_
  rintro e Vw ⟨rfl, hEw⟩
  go_wp2
  go_ret
  exact ⟨rfl, hEw.1⟩
end Go.Proofs.Ytjakmpphfjhbaaa
