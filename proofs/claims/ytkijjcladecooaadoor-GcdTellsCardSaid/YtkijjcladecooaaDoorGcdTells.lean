/- GcdTells, over what the program's functions answer: the document's own answers are the same. -/
import Derived.Test.YtkijjcladecooaaDoorGcdReduces
import Derived.Test.YtkijjcladecooaaDoorGreat4
import Derived.Test.YtkijjcladecooaaDoorGRef4
namespace Go.Proofs.YtkijjcladecooaaDoor
open Go Go.ChangeShapes Go.WideShapes Go.ChangeAt Go.RowKit Go.Deep

set_option maxRecDepth 100000 in
set_option maxHeartbeats 4000000 in
theorem gtells_great1 (w : World) (S : GcdTold w) (x y : Num) (A : Option Addr) (c : Nat) (l : List Num) (hx : x.ok w w.heap.size) (hy : y.ok w w.heap.size) (hR : Rds w w.heap.size A l) (hg : great4 [x, y] = true) :
    Calls Tryd.prog 3 #[.slice x.A x.n x.c, .slice y.A y.n y.c, .slice A l.length c] w fun e w' => e = .returned (.bool true) ∧ Below w.heap.size w w' := by
  have hE0 : Env w [x, y] w := Env.start (by simp; exact ⟨hx, hy⟩)
  have HG := Lib.hid hg
  clear hg hx hy hR
  go_enter Tryd.func3, Tryd.ntmps3
  go_wp2_with fail
  refine (great4_E2 (x := x) (y := y) hE0 (by simp) (by simp) rfl).mono ?_
  rintro e V1 ⟨rfl, hE1⟩
  rw [HG.out]
  go_wp2_with fail
  refine (wakes4_E S hE1).mono ?_
  rintro e Vw ⟨rfl, hEw⟩
  go_wp2
  go_ret
  refine ⟨?_, hEw.1⟩
  first
  | rfl
  | (refine ret_bool ?_; simp; done)

set_option maxRecDepth 100000 in
set_option maxHeartbeats 4000000 in
theorem gtells_great2 (w : World) (S : GcdTold w) (x y : Num) (A : Option Addr) (c : Nat) (l : List Num) (hx : x.ok w w.heap.size) (hy : y.ok w w.heap.size) (hR : Rds w w.heap.size A l) (hl : l.length ≤ 100000000000000) (hg : great4 [x, y] = false) (hg2 : great4 l = true) :
    Calls Tryd.prog 3 #[.slice x.A x.n x.c, .slice y.A y.n y.c, .slice A l.length c] w fun e w' => e = .returned (.bool true) ∧ Below w.heap.size w w' := by
  have hE0 : Env w [x, y] w := Env.start (by simp; exact ⟨hx, hy⟩)
  have HG := Lib.hid hg
  have HG2 := Lib.hid hg2
  clear hg hg2 hx hy
  go_enter Tryd.func3, Tryd.ntmps3
  go_wp2_with fail
  refine (great4_E2 (x := x) (y := y) hE0 (by simp) (by simp) rfl).mono ?_
  rintro e V1 ⟨rfl, hE1⟩
  rw [HG.out]
  go_wp2_with fail
  refine (great4_EL hE1 (hR.env hE1) hl).mono ?_
  rintro e V2 ⟨rfl, hE2⟩
  rw [HG2.out]
  go_wp2_with fail
  refine (wakes4_E S hE2).mono ?_
  rintro e Vw ⟨rfl, hEw⟩
  go_wp2
  go_ret
  refine ⟨?_, hEw.1⟩
  first
  | rfl
  | (refine ret_bool ?_; simp; done)

set_option maxRecDepth 100000 in
set_option maxHeartbeats 4000000 in
theorem gtells_go (w : World) (S : GcdTold w) (x y : Num) (A : Option Addr) (c : Nat) (l : List Num) (hx : x.ok w w.heap.size) (hy : y.ok w w.heap.size) (hR : Rds w w.heap.size A l) (hlc : l.length ≤ c) (hcm : c ≤ maxLen) (hg : great4 [x, y] = false) (hg2 : great4 l = false) :
    Calls Tryd.prog 3 #[.slice x.A x.n x.c, .slice y.A y.n y.c, .slice A l.length c] w fun e w' => e = .returned (.bool true) ∧ Below w.heap.size w w' := by
  have hE0 : Env w [x, y] w := Env.start (by simp; exact ⟨hx, hy⟩)
  have bx := size4_2 hg
  have hl := (great4_false hg2).1
  have HB := Lib.hid (great4_false hg2).2
  have HG := Lib.hid hg
  have HG2 := Lib.hid hg2
  have HPL := Lib.hid (Nat.le_trans (lenL_mono (Nat.div_le_self x.N (Nat.gcd x.N y.N))) (lenL_le.2 hx.1.1))
  obtain ⟨cb, hcb⟩ : ∃ cb, coprB x.N y.N = cb := ⟨_, rfl⟩
  have HCB := Lib.hid hcb
  clear hg hg2 hx hy hcb
  go_enter Tryd.func3, Tryd.ntmps3
  go_wp2_with fail
  refine (great4_E2 (x := x) (y := y) hE0 (by simp) (by simp) rfl).mono ?_
  rintro e V1 ⟨rfl, hE1⟩
  rw [HG.out]
  go_wp2_with fail
  refine (great4_EL hE1 (hR.env hE1) (by omega)).mono ?_
  rintro e V2 ⟨rfl, hE2⟩
  rw [HG2.out]
  go_wp2_with fail
  refine (S.reduce _ _ x y hE2 (by simp) (by simp) (by omega) (by omega)).mono ?_
  rintro e V3 ⟨p, q, rfl, pN, pn, qN, qn, hE3⟩
  replace pN := Lib.hid pN
  replace pn := Lib.hid pn
  replace qN := Lib.hid qN
  replace qn := Lib.hid qn
  go_wp2_with fail
  refine (rReduce_E (x := x) (y := y) hE3 (by simp) (by simp) (by omega) (by omega)).mono ?_
  rintro e V4 ⟨u, v, rfl, uN, un, vN, vn, hE4⟩
  replace uN := Lib.hid uN
  replace un := Lib.hid un
  replace vN := Lib.hid vN
  replace vn := Lib.hid vn
  go_wp2_with fail
  refine (S.gcd _ _ x y hE4 (by simp) (by simp) (by omega) (by omega)).mono ?_
  rintro e V5 ⟨g, rfl, gN, gn, hE5⟩
  replace gN := Lib.hid gN
  replace gn := Lib.hid gn
  go_wp2_with fail
  refine (rGcd_E (x := x) (y := y) hE5 (by simp) (by simp) (by omega) (by omega)).mono ?_
  rintro e V6 ⟨k, rfl, kN, kn, hE6, -⟩
  replace kN := Lib.hid kN
  replace kn := Lib.hid kn
  go_wp2_with fail
  refine (gSame_E (x := g) (y := k) hE6 (by simp) (by simp)).mono ?_
  rintro e V7 ⟨rfl, hE7⟩
  rw [same_of (show g.N = k.N by rw [gN.out, kN.out]) (by rw [gn.out, gN.out]) (by rw [kn.out, kN.out])]
  go_wp2_with fail
  refine (S.all _ _ A c l hE7 (hR.env hE7) hlc hcm (by omega) (fun z hz => Nat.le_trans (HB.out z hz) (by omega))).mono ?_
  rintro e V8 ⟨a, rfl, aN, an, hE8⟩
  replace aN := Lib.hid aN
  replace an := Lib.hid an
  go_wp2_with fail
  refine (rGAll_EL hE8 (hR.env hE8) (by omega) (fun z hz => Nat.le_trans (HB.out z hz) (by omega))).mono ?_
  rintro e V9 ⟨b, rfl, bN, bn, hE9, -⟩
  replace bN := Lib.hid bN
  replace bn := Lib.hid bn
  go_wp2_with fail
  refine (gSame_E (x := a) (y := b) hE9 (by simp) (by simp)).mono ?_
  rintro e V10 ⟨rfl, hE10⟩
  rw [same_of (show a.N = b.N by rw [aN.out, bN.out]) (by rw [an.out, aN.out]) (by rw [bn.out, bN.out])]
  go_wp2_with fail
  refine (gSame_E (x := p) (y := u) hE10 (by simp) (by simp)).mono ?_
  rintro e V11 ⟨rfl, hE11⟩
  rw [same_of (show p.N = u.N by rw [pN.out, uN.out]) (by rw [pn.out, pN.out]) (by rw [un.out, uN.out])]
  go_wp2_with fail
  refine (gSame_E (x := q) (y := v) hE11 (by simp) (by simp)).mono ?_
  rintro e V12 ⟨rfl, hE12⟩
  rw [same_of (show q.N = v.N by rw [qN.out, vN.out]) (by rw [qn.out, qN.out]) (by rw [vn.out, vN.out])]
  go_wp2_with fail
  refine (S.lcm _ _ x y hE12 (by simp) (by simp) (by omega) (by omega)).mono ?_
  rintro e V13 ⟨m, rfl, mN, mn, hE13⟩
  replace mN := Lib.hid mN
  replace mn := Lib.hid mn
  go_wp2_with fail
  refine (rLcm_E (x := x) (y := y) hE13 (by simp) (by simp) (by omega) (by omega)).mono ?_
  rintro e V14 ⟨n, rfl, nN, nn, hE14, -⟩
  replace nN := Lib.hid nN
  replace nn := Lib.hid nn
  go_wp2_with fail
  refine (gSame_E (x := m) (y := n) hE14 (by simp) (by simp)).mono ?_
  rintro e V15 ⟨rfl, hE15⟩
  rw [same_of (show m.N = n.N by rw [mN.out, nN.out]) (by rw [mn.out, mN.out]) (by rw [nn.out, nN.out])]
  go_wp2_with fail
  refine (S.coprime _ _ x y hE15 (by simp) (by simp) (by omega) (by omega)).mono ?_
  rintro e V16 ⟨rfl, hE16⟩
  rw [HCB.out]
  go_wp2_with fail
  refine (rCoprime_E (x := x) (y := y) hE16 (by simp) (by simp) (by omega) (by omega)).mono ?_
  rintro e V17 ⟨rfl, hE17⟩
  rw [HCB.out]
  go_wp2_with fail
  refine (wakes4_E S hE17).mono ?_
  rintro e Vw ⟨rfl, hEw⟩
  go_wp2
  go_ret
  refine ⟨?_, hEw.1⟩
  first
  | rfl
  | (refine ret_bool ?_; simp; done)

end Go.Proofs.YtkijjcladecooaaDoor
