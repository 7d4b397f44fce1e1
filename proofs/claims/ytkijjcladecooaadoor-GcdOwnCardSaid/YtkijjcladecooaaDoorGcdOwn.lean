/- GcdOwn, over what the program's functions answer: what is handed in is not changed; noughts that stand last make no difference. -/
import Derived.Test.YtkijjcladecooaaDoorZeros
import Derived.Test.YtkijjcladecooaaDoorGNum
import Derived.Test.YtkijjcladecooaaDoorGcdRest
namespace Go.Proofs.YtkijjcladecooaaDoor
open Go Go.ChangeShapes Go.WideShapes Go.ChangeAt Go.RowKit Go.Deep

set_option maxRecDepth 100000 in
set_option maxHeartbeats 4000000 in
theorem gown_long (w : World) (S : GcdTold w) (x y : Num) (k : Int) (hx : x.ok w w.heap.size) (hy : y.ok w w.heap.size) (hl : ¬ (x.n ≤ 8 ∧ y.n ≤ 8)) :
    Calls Tryd.prog 6 #[.slice x.A x.n x.c, .slice y.A y.n y.c, .int .i64 k] w fun e w' => e = .returned (.bool true) ∧ Below w.heap.size w w' := by
  have hE0 : Env w [x, y] w := Env.start (by simp; exact ⟨hx, hy⟩)
  clear hx hy
  go_enter Tryd.func6, Tryd.ntmps6
  go_wp2_with fail
  all_goals
    refine (wakes4_E S hE0).mono ?_
    rintro e Vw ⟨rfl, hEw⟩
    go_wp2
    go_ret
    refine ⟨?_, hEw.1⟩
    first
    | rfl
    | (refine ret_bool ?_; simp; done)

set_option maxRecDepth 100000 in
set_option maxHeartbeats 4000000 in
theorem gown_below (w : World) (S : GcdTold w) (x y : Num) (k : Int) (hx : x.ok w w.heap.size) (hy : y.ok w w.heap.size) (bx : x.n ≤ 8) (by' : y.n ≤ 8) (hk : k < 0) :
    Calls Tryd.prog 6 #[.slice x.A x.n x.c, .slice y.A y.n y.c, .int .i64 k] w fun e w' => e = .returned (.bool true) ∧ Below w.heap.size w w' := by
  have hE0 : Env w [x, y] w := Env.start (by simp; exact ⟨hx, hy⟩)
  clear hx hy
  go_enter Tryd.func6, Tryd.ntmps6
  go_wp2_with fail
  all_goals
    refine (wakes4_E S hE0).mono ?_
    rintro e Vw ⟨rfl, hEw⟩
    go_wp2
    go_ret
    refine ⟨?_, hEw.1⟩
    first
    | rfl
    | (refine ret_bool ?_; simp; done)

set_option maxRecDepth 100000 in
set_option maxHeartbeats 4000000 in
theorem gown_above (w : World) (S : GcdTold w) (x y : Num) (k : Int) (hx : x.ok w w.heap.size) (hy : y.ok w w.heap.size) (bx : x.n ≤ 8) (by' : y.n ≤ 8) (hk0 : 0 ≤ k) (hk : 4 < k) :
    Calls Tryd.prog 6 #[.slice x.A x.n x.c, .slice y.A y.n y.c, .int .i64 k] w fun e w' => e = .returned (.bool true) ∧ Below w.heap.size w w' := by
  have hE0 : Env w [x, y] w := Env.start (by simp; exact ⟨hx, hy⟩)
  clear hx hy
  go_enter Tryd.func6, Tryd.ntmps6
  go_wp2_with fail
  all_goals
    refine (wakes4_E S hE0).mono ?_
    rintro e Vw ⟨rfl, hEw⟩
    go_wp2
    go_ret
    refine ⟨?_, hEw.1⟩
    first
    | rfl
    | (refine ret_bool ?_; simp; done)

set_option maxRecDepth 100000 in
set_option maxHeartbeats 4000000 in
theorem gown_go (w : World) (S : GcdTold w) (x y : Num) (k : Nat) (hx : x.ok w w.heap.size) (hy : y.ok w w.heap.size) (bx : x.n ≤ 8) (by' : y.n ≤ 8) (hk : k ≤ 4) :
    Calls Tryd.prog 6 #[.slice x.A x.n x.c, .slice y.A y.n y.c, .int .i64 k] w fun e w' => e = .returned (.bool true) ∧ Below w.heap.size w w' := by
  have hE0 : Env w [x, y] w := Env.start (by simp; exact ⟨hx, hy⟩)
  obtain ⟨i0, hi, hz0, hz1, hz2⟩ := info_parts info_u32
  have HGL := Lib.hid (gcd_len hx.1.1 hy.1.1 bx by')
  go_enter Tryd.func6, Tryd.ntmps6
  go_wp2_with (first
    | (at_builtin; refine wpList_append_row _ rfl (.tmp 26) (.tmp 27) _ rfl w.heap.size 40 i0 (.int .u32 0) 4 Tryd.underlying23 hi hz0 hz1 hz2 rfl (.slice (some ⟨w.heap.size, 0, none⟩) 0 0) 0 [] rfl (World.ownsRow_lit w #[] 0 (Nat.le_refl _) (by simp) rfl) x.A x.n x.c (limbs x.N x.n) rfl (limbs_length _ _) (limbs_read hx) limbs_one (by simp only [maxLen]; omega) (by omega) (by simp) ?_; intro v1 W1 hown1 hg1 _; obtain ⟨c, rfl, cN, cn, okc, hb1⟩ := copy_own hx hown1 hg1; clear hown1 hg1; have hE1 := (hE0.step hb1).add okc; have ok1 := hE1.2 y (by simp); clear okc hb1; replace cN := Lib.hid cN; replace cn := Lib.hid cn)
    | (at_builtin; refine wpList_append_row _ rfl (.tmp 29) (.tmp 30) _ rfl W1.heap.size 40 i0 (.int .u32 0) 4 Tryd.underlying23 hi hz0 hz1 hz2 rfl (.slice (some ⟨W1.heap.size, 0, none⟩) 0 0) 0 [] rfl (World.ownsRow_lit W1 #[] 0 (Nat.le_refl _) (by simp) rfl) y.A y.n y.c (limbs y.N y.n) rfl (limbs_length _ _) (limbs_read ok1) limbs_one (by simp only [maxLen]; omega) (by omega) (by simp) ?_; intro v2 W2 hown2 hg2 _; obtain ⟨d, rfl, dN, dn, okd, hb2⟩ := copy_own ok1 hown2 hg2; clear hown2 hg2; have hE2 := (hE1.step hb2).add okd; have ok2 := hE2.2 x (by simp); clear okd hb2; replace dN := Lib.hid dN; replace dn := Lib.hid dn)
    | (at_builtin; refine wpList_append_row _ rfl (.tmp 32) (.tmp 33) _ rfl W2.heap.size 40 i0 (.int .u32 0) 4 Tryd.underlying23 hi hz0 hz1 hz2 rfl (.slice (some ⟨W2.heap.size, 0, none⟩) 0 0) 0 [] rfl (World.ownsRow_lit W2 #[] 0 (Nat.le_refl _) (by simp) rfl) x.A x.n x.c (limbs x.N x.n) rfl (limbs_length _ _) (limbs_read ok2) limbs_one (by simp only [maxLen]; omega) (by omega) (by simp) ?_; intro v3 W3 hown3 hg3 _; have HO3 := Lib.hid hown3; have HG3 := Lib.hid hg3; have hw3 : W2.heap.size ≤ W3.heap.size := Nat.le_trans (by simp) hg3.size; clear hown3 hg3)
    | (at_builtin; refine wpList_append_zeros _ rfl (.tmp 34) (.tmp 35) _ _ rfl W2.heap.size 40 .i64 i0 (.int .u32 0) 4 Tryd.underlying23 Tryd.underlying3 hi hz0 hz1 hz2 rfl rfl v3 (0 + x.n) ([] ++ limbs x.N x.n) rfl HO3.out k .i64 rfl (by omega) (by omega) (by omega) hw3 ?_; intro v4 W4 hown4 hg4; obtain ⟨r, rfl, rN, rn, okr, hb4⟩ := copy_long ok2 (by omega) (by omega) HO3.out HG3.out hown4 hg4; clear hown4 hg4; have hE4 := (hE2.step hb4).add okr; clear okr hb4; have rb : r.n ≤ 12 := (by omega); replace rN := Lib.hid rN; replace rn := Lib.hid rn))
  all_goals
    clear HO3 HG3 ok1 ok2 hE0 hE1 hE2
    refine (S.gcd _ _ x y hE4 (by simp) (by simp) (by omega) (by omega)).mono ?_
    rintro e V5 ⟨g, rfl, gN, gn, hE5⟩
    have gb : g.n ≤ 8 := by rw [gn]; have h2 := HGL.out; omega
    replace gN := Lib.hid gN
    replace gn := Lib.hid gn
    go_wp2_with fail
    refine (S.reduce _ _ x y hE5 (by simp) (by simp) (by omega) (by omega)).mono ?_
    rintro e V6 ⟨p, q, rfl, pN, pn, qN, qn, hE6⟩
    replace pN := Lib.hid pN
    replace pn := Lib.hid pn
    replace qN := Lib.hid qN
    replace qn := Lib.hid qn
    go_wp2_with fail
    refine (S.lcm _ _ x y hE6 (by simp) (by simp) (by omega) (by omega)).mono ?_
    rintro e V7 ⟨m, rfl, mN, mn, hE7⟩
    replace mN := Lib.hid mN
    replace mn := Lib.hid mn
    go_wp2_with fail
    refine (gSame_E (x := x) (y := c) hE7 (by simp) (by simp)).mono ?_
    rintro e V8 ⟨rfl, hE8⟩
    rw [show sameB x.n c.n x.N c.N = true by rw [cn.out, cN.out]; exact sameB_refl _ _]
    go_wp2_with fail
    refine (gSame_E (x := y) (y := d) hE8 (by simp) (by simp)).mono ?_
    rintro e V9 ⟨rfl, hE9⟩
    rw [show sameB y.n d.n y.N d.N = true by rw [dn.out, dN.out]; exact sameB_refl _ _]
    go_wp2_with fail
    refine (S.gcd _ _ r y hE9 (by simp) (by simp) (by omega) (by omega)).mono ?_
    rintro e V10 ⟨a, rfl, aN, an, hE10⟩
    rw [rN.out] at aN an
    replace aN := Lib.hid aN
    replace an := Lib.hid an
    go_wp2_with fail
    refine (gSame_E (x := a) (y := g) hE10 (by simp) (by simp)).mono ?_
    rintro e V11 ⟨rfl, hE11⟩
    rw [same_of (show a.N = g.N by rw [aN.out, gN.out]) (by rw [an.out, aN.out]) (by rw [gn.out, gN.out])]
    go_wp2_with fail
    refine (S.gcd _ _ y r hE11 (by simp) (by simp) (by omega) (by omega)).mono ?_
    rintro e V12 ⟨b, rfl, bN, bn, hE12⟩
    rw [rN.out, Nat.gcd_comm] at bN bn
    replace bN := Lib.hid bN
    replace bn := Lib.hid bn
    go_wp2_with fail
    refine (gSame_E (x := b) (y := g) hE12 (by simp) (by simp)).mono ?_
    rintro e V13 ⟨rfl, hE13⟩
    rw [same_of (show b.N = g.N by rw [bN.out, gN.out]) (by rw [bn.out, bN.out]) (by rw [gn.out, gN.out])]
    go_wp2_with fail
    refine (rTrim_E (x := g) hE13 (by simp)).mono ?_
    rintro e V14 ⟨t, rfl, tN, tn, hE14, -⟩
    replace tN := Lib.hid tN
    replace tn := Lib.hid tn
    go_wp2_with fail
    refine (gSame_E (x := t) (y := g) hE14 (by simp) (by simp)).mono ?_
    rintro e V15 ⟨rfl, hE15⟩
    rw [same_of (show t.N = g.N by rw [tN.out, gN.out]) (by rw [tn.out, tN.out]) (by rw [gn.out, gN.out])]
    go_wp2_with fail
    refine (wakes4_E S hE15).mono ?_
    rintro e Vw ⟨rfl, hEw⟩
    go_wp2
    go_ret
    refine ⟨?_, hEw.1⟩
    first
    | rfl
    | (refine ret_bool ?_; simp; done)

end Go.Proofs.YtkijjcladecooaaDoor
