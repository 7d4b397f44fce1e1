/- ProdOrder, over what the program's functions answer: products may be turned about and put together in whatever order. -/
import Derived.Test.YtjakmpphfjhbaaaProdTells
import Derived.Test.YtjakmpphfjhbaaaRAdd
namespace Go.Proofs.Ytjakmpphfjhbaaa
open Go Go.ChangeShapes Go.WideShapes Go.ChangeAt Go.RowKit Go.Deep

theorem same_of {r s : Num} (h : r.N = s.N) (h1 : r.n = lenL r.N) (h2 : s.n = lenL s.N) : sameB r.n s.n r.N s.N = true := by rw [h1, h2, h]; simp [sameB]
theorem Env.pick {w W : World} {e e' : List Num} (h : Env w e W) (hs : ∀ z ∈ e', z ∈ e) : Env w e' W := ⟨h.1, fun z hz => h.2 z (hs z hz)⟩
section
variable {w W : World} {e : List Num} {x y z : Num}
theorem row3 (h : Env w e W) (hx : x ∈ e) (hy : y ∈ e) (hz : z ∈ e) : Rds (W.alloc (.cells #[.slice x.A x.n x.c, .slice y.A y.n y.c, .slice z.A z.n z.c] 23)) (W.heap.size + 1) (some ⟨W.heap.size, 0, none⟩) [x, y, z] := by
  refine Rds.lit (fun k hk => ?_) (fun u hu => ?_)
  · match k, hk with
    | 0, _ => rfl
    | 1, _ => rfl
    | 2, _ => rfl
  · simp only [List.mem_cons, List.not_mem_nil, or_false] at hu
    rcases hu with rfl | rfl | rfl <;> (apply h.2; assumption)
theorem all3_E {g : Nat} (S : ProdTold) (h : Env w e W) (hx : x ∈ e) (hy : y ∈ e) (hz : z ∈ e) (hg : W.heap.size = g) (bx : x.n ≤ 30000) (by' : y.n ≤ 30000) (bz : z.n ≤ 30000) :
    Calls Try.prog 13 #[.slice (some ⟨g, 0, none⟩) 3 3] (W.alloc (.cells #[.slice x.A x.n x.c, .slice y.A y.n y.c, .slice z.A z.n z.c] 23)) (Back w e (W.heap.size + 1) (x.N * y.N * z.N) (fun r => .slice r.A r.n r.c)) := by
  subst hg
  have hR := row3 h hx hy hz
  have hP : prodN [x, y, z] = x.N * y.N * z.N := by simp [prodN, Nat.mul_assoc]
  have hb : ∀ u ∈ [x, y, z], u.n ≤ 100000 := by
    intro u hu
    simp only [List.mem_cons, List.not_mem_nil, or_false] at hu
    rcases hu with rfl | rfl | rfl <;> omega
  have hs : ∀ k, lenL (prodAt [x, y, z] k) ≤ 100000 := fun k => Nat.le_trans (prodAt_len hR k) (by simp [sizeN]; omega)
  have := S.all w _ e (some ⟨W.heap.size, 0, none⟩) 3 [x, y, z] (h.alloc _) (by rw [World.size_alloc]; exact hR) (by simp) (by simp [maxLen]) (by simp) hb hs
  rw [World.size_alloc, hP] at this
  exact this
theorem rAdd2_E {g : Nat} (h : Env w e W) (hx : x ∈ e) (hy : y ∈ e) (hg : W.heap.size = g) (bx : x.n ≤ 900) (by' : y.n ≤ 900) :
    Calls Try.prog 25 #[.slice (some ⟨g, 0, none⟩) 2 2] (W.alloc (.cells #[.slice x.A x.n x.c, .slice y.A y.n y.c] 23)) (Back w e W.heap.size (x.N + y.N) (fun r => .slice r.A r.n r.c)) := by
  subst hg
  have hlen := sum_len h hx hy (b := 900) bx by'
  have hS : sumN [x, y] = x.N + y.N := by simp [sumN]
  refine (rAdd_any _ _ 2 [x, y] (Rds.two (h.2 x hx) (h.2 y hy)) (by simp) (by
    intro u hu
    simp only [List.mem_cons, List.not_mem_nil, or_false] at hu
    rcases hu with rfl | rfl <;> omega) (by rw [hS]; omega)).mono fun e w' hg => ?_
  rw [hS] at hg
  exact back_of_gives h hg.alloc (by omega)
end

set_option maxRecDepth 100000 in
set_option maxHeartbeats 2000000 in
theorem porder_great (S : ProdTold) (w : World) (x y z : Num) (hx : x.ok w w.heap.size) (hy : y.ok w w.heap.size) (hz : z.ok w w.heap.size) (hg : great2 [x, y, z] = true) :
    Calls Try.prog 4 #[.slice x.A x.n x.c, .slice y.A y.n y.c, .slice z.A z.n z.c] w fun e w' => e = .returned (.bool true) ∧ Below w.heap.size w w' := by
  have hE : Env w [x, y, z] w := Env.start (by simp; exact ⟨hx, hy, hz⟩)
  have HG := Lib.hid hg
  clear hg hx hy hz
  go_enter Try.func4, Try.ntmps4
  go_wp2_with fail
  refine (great2_E3 (x := x) (y := y) (z := z) hE (by simp) (by simp) (by simp) rfl).mono ?_
  rintro e W ⟨rfl, hE1⟩
  rw [HG.out]
  go_wp2_with fail
  refine (wakes2_E S hE1).mono ?_
  rintro e W2 ⟨rfl, hE2⟩
  go_wp2
  go_ret
  exact ⟨rfl, hE2.1⟩

set_option maxRecDepth 100000 in
set_option maxHeartbeats 4000000 in
theorem porder_go (S : ProdTold) (w : World) (x y z : Num) (hx : x.ok w w.heap.size) (hy : y.ok w w.heap.size) (hz : z.ok w w.heap.size) (hg : great2 [x, y, z] = false) :
    Calls Try.prog 4 #[.slice x.A x.n x.c, .slice y.A y.n y.c, .slice z.A z.n z.c] w fun e w' => e = .returned (.bool true) ∧ Below w.heap.size w w' := by
  have hE : Env w [x, y, z] w := Env.start (by simp; exact ⟨hx, hy, hz⟩)
  obtain ⟨bx, by', bz⟩ := size2_3 hg
  have lx := hx.1.1
  have ly := hy.1.1
  have lz := hz.1.1
  have HXY := Lib.hid (mul_len lx ly)
  have HYZ := Lib.hid (mul_len ly lz)
  have HXZ := Lib.hid (mul_len lx lz)
  have HSum := Lib.hid (sum_len hE (x := y) (y := z) (by simp) (by simp) (b := 120) by' bz)
  have HG := Lib.hid hg
  clear hg hx hy hz lx ly lz
  go_enter Try.func4, Try.ntmps4
  go_wp2_with fail
  refine (great2_E3 (x := x) (y := y) (z := z) hE (by simp) (by simp) (by simp) rfl).mono ?_
  rintro e W ⟨rfl, hE1⟩
  rw [HG.out]
  go_wp2_with fail
  refine (S.mul _ _ _ x y hE1 (by simp) (by simp) (by omega) (by omega)).mono ?_
  rintro e V2 ⟨p, rfl, pN, pn, hE2, -⟩
  have pb : p.n ≤ 240 := by rw [pn]; have := HXY.out; omega
  replace pN := Lib.hid pN
  replace pn := Lib.hid pn
  go_wp2_with fail
  refine (S.mul _ _ _ y z hE2 (by simp) (by simp) (by omega) (by omega)).mono ?_
  rintro e V3 ⟨q, rfl, qN, qn, hE3, -⟩
  have qb : q.n ≤ 240 := by rw [qn]; have := HYZ.out; omega
  replace qN := Lib.hid qN
  replace qn := Lib.hid qn
  go_wp2_with fail
  refine (S.mul _ _ _ y x hE3 (by simp) (by simp) (by omega) (by omega)).mono ?_
  rintro e V4 ⟨r, rfl, rN, rn, hE4, -⟩
  replace rN := Lib.hid rN
  replace rn := Lib.hid rn
  go_wp2_with fail
  refine (same2_E (x := p) (y := r) hE4 (by simp) (by simp)).mono ?_
  rintro e V5 ⟨rfl, hE5⟩
  rw [same_of (show p.N = r.N by rw [pN.out, rN.out, Nat.mul_comm]) (by rw [pn.out, pN.out]) (by rw [rn.out, rN.out])]
  go_wp2_with fail
  refine (S.mul _ _ _ p z hE5 (by simp) (by simp) (by omega) (by omega)).mono ?_
  rintro e V6 ⟨s, rfl, sN, sn, hE6, -⟩
  replace sN := Lib.hid sN
  replace sn := Lib.hid sn
  go_wp2_with fail
  refine (S.mul _ _ _ x q hE6 (by simp) (by simp) (by omega) (by omega)).mono ?_
  rintro e V7 ⟨t, rfl, tN, tn, hE7, -⟩
  replace tN := Lib.hid tN
  replace tn := Lib.hid tn
  go_wp2_with fail
  refine (same2_E (x := s) (y := t) hE7 (by simp) (by simp)).mono ?_
  rintro e V8 ⟨rfl, hE8⟩
  rw [same_of (show s.N = t.N by rw [sN.out, tN.out, pN.out, qN.out, Nat.mul_assoc]) (by rw [sn.out, sN.out]) (by rw [tn.out, tN.out])]
  go_wp2_with fail
  refine (all3_E (x := x) (y := y) (z := z) S hE8 (by simp) (by simp) (by simp) rfl (by omega) (by omega) (by omega)).mono ?_
  rintro e V9 ⟨u, rfl, uN, un, hE9, -⟩
  replace uN := Lib.hid uN
  replace un := Lib.hid un
  go_wp2_with fail
  refine (S.mul _ _ _ p z hE9 (by simp) (by simp) (by omega) (by omega)).mono ?_
  rintro e V10 ⟨v, rfl, vN, vn, hE10, -⟩
  replace vN := Lib.hid vN
  replace vn := Lib.hid vn
  go_wp2_with fail
  refine (same2_E (x := u) (y := v) hE10 (by simp) (by simp)).mono ?_
  rintro e V11 ⟨rfl, hE11⟩
  rw [same_of (show u.N = v.N by rw [uN.out, vN.out, pN.out]) (by rw [un.out, uN.out]) (by rw [vn.out, vN.out])]
  go_wp2_with fail
  refine (all3_E (x := z) (y := x) (z := y) S hE11 (by simp) (by simp) (by simp) rfl (by omega) (by omega) (by omega)).mono ?_
  rintro e V12 ⟨a, rfl, aN, an, hE12, -⟩
  replace aN := Lib.hid aN
  replace an := Lib.hid an
  go_wp2_with fail
  refine (all3_E (x := x) (y := y) (z := z) S hE12 (by simp) (by simp) (by simp) rfl (by omega) (by omega) (by omega)).mono ?_
  rintro e V13 ⟨b, rfl, bN, bn, hE13, -⟩
  replace bN := Lib.hid bN
  replace bn := Lib.hid bn
  go_wp2_with fail
  refine (same2_E (x := a) (y := b) hE13 (by simp) (by simp)).mono ?_
  rintro e V14 ⟨rfl, hE14⟩
  rw [same_of (show a.N = b.N by rw [aN.out, bN.out, Nat.mul_assoc, Nat.mul_comm]) (by rw [an.out, aN.out]) (by rw [bn.out, bN.out])]
  go_wp2_with fail
  refine (rAdd2_E (x := y) (y := z) hE14 (by simp) (by simp) rfl (by omega) (by omega)).mono ?_
  rintro e V15 ⟨d, rfl, dN, dn, hE15, -⟩
  have db : d.n ≤ 121 := by rw [dn]; have := HSum.out; omega
  replace dN := Lib.hid dN
  replace dn := Lib.hid dn
  go_wp2_with fail
  refine (S.mul _ _ _ x d hE15 (by simp) (by simp) (by omega) (by omega)).mono ?_
  rintro e V16 ⟨f, rfl, fN, fn, hE16, -⟩
  replace fN := Lib.hid fN
  replace fn := Lib.hid fn
  go_wp2_with fail
  refine (S.mul _ _ _ x z hE16 (by simp) (by simp) (by omega) (by omega)).mono ?_
  rintro e V17 ⟨g, rfl, gN, gn, hE17, -⟩
  have gb : g.n ≤ 240 := by rw [gn]; have := HXZ.out; omega
  replace gN := Lib.hid gN
  replace gn := Lib.hid gn
  go_wp2_with fail
  refine (rAdd2_E (x := p) (y := g) hE17 (by simp) (by simp) rfl (by omega) (by omega)).mono ?_
  rintro e V18 ⟨h, rfl, hN, hn, hE18, -⟩
  replace hN := Lib.hid hN
  replace hn := Lib.hid hn
  go_wp2_with fail
  refine (same2_E (x := f) (y := h) hE18 (by simp) (by simp)).mono ?_
  rintro e V19 ⟨rfl, hE19⟩
  rw [same_of (show f.N = h.N by rw [fN.out, hN.out, dN.out, pN.out, gN.out, Nat.mul_add]) (by rw [fn.out, fN.out]) (by rw [hn.out, hN.out])]
  go_wp2_with fail
  have hL19 := (hE19.pick (e' := [x]) (by simp)).lit (N := 1) (v := 1) rfl rfl (by omega)
  refine (S.mul _ _ _ x ⟨some ⟨V19.heap.size, 0, none⟩, 1, 1, 1⟩ hL19 (by simp) (by simp) (by omega) (by simp)).mono ?_
  rintro e V20 ⟨i, rfl, iN, in', hE20, -⟩
  replace iN := Lib.hid iN
  replace in' := Lib.hid in'
  go_wp2_with fail
  refine (rTrim_E (x := x) hE20 (by simp)).mono ?_
  rintro e V21 ⟨j, rfl, jN, jn, hE21, -⟩
  replace jN := Lib.hid jN
  replace jn := Lib.hid jn
  go_wp2_with fail
  refine (same2_E (x := i) (y := j) hE21 (by simp) (by simp)).mono ?_
  rintro e V22 ⟨rfl, hE22⟩
  rw [same_of (show i.N = j.N by rw [iN.out, jN.out, Nat.mul_one]) (by rw [in'.out, iN.out]) (by rw [jn.out, jN.out])]
  go_wp2_with fail
  refine (S.mul _ _ _ x ⟨none, 0, 0, 0⟩ hE22.nought (by simp) (by simp) (by omega) (by simp)).mono ?_
  rintro e V23 ⟨⟨A9, n9, c9, N9⟩, rfl, N9N, n9n, hE23, -⟩
  obtain rfl : n9 = 0 := by have h9 : n9 = lenL (x.N * 0) := n9n; rw [h9, Nat.mul_zero]; rfl
  clear N9N n9n
  go_wp2_with fail
  refine (S.all _ _ _ none 0 [] (hE23.pick (e' := [x]) (by simp)) (fun k hk => absurd hk (by simp)) (by simp) (by simp [maxLen]) (by simp) (by simp) (fun k => by rw [show prodAt [] k = 1 by simp [prodAt, prodN]]; rw [len_one]; omega)).mono ?_
  rintro e V24 ⟨k, rfl, kN, kn, hE24, -⟩
  replace kN := Lib.hid kN
  replace kn := Lib.hid kn
  go_wp2_with fail
  have hL24 := (hE24.pick (e' := [k, x]) (by simp)).lit (N := 1) (v := 1) rfl rfl (by omega)
  refine (same2_E (x := k) (y := ⟨some ⟨V24.heap.size, 0, none⟩, 1, 1, 1⟩) hL24 (by simp) (by simp)).mono ?_
  rintro e V25 ⟨rfl, hE25⟩
  rw [same_of (r := k) (s := ⟨some ⟨V24.heap.size, 0, none⟩, 1, 1, 1⟩) (show k.N = 1 by rw [kN.out]; rfl) (by rw [kn.out, kN.out]) (show 1 = lenL 1 by rw [len_one])]
  go_wp2_with fail
  refine (wakes2_E S hE25).mono ?_
  rintro e Vw ⟨rfl, hEw⟩
  go_wp2
  go_ret
  exact ⟨rfl, hEw.1⟩
end Go.Proofs.Ytjakmpphfjhbaaa
