/- ProdTells, over what the program's functions answer: products, shifts, bits, powers as the document's own answer has them. -/
import Derived.Test.YtjakmpphfjhbaaaWakes2
import Derived.Test.YtjakmpphfjhbaaaLaw
namespace Go.Proofs.Ytjakmpphfjhbaaa
open Go Go.ChangeShapes Go.WideShapes Go.ChangeAt Go.RowKit Go.Deep

theorem prodN_len : ∀ (l : List Num), (∀ x ∈ l, x.N < Bw ^ x.n) → lenL (prodN l) ≤ sizeN l + 1
  | [], _ => by simp [prodN, sizeN, len_one]
  | x :: l, h => by
    have ih := prodN_len l (fun y hy => h y (by simp [hy]))
    have h1 : prodN (x :: l) = x.N * prodN l := by simp [prodN]
    have h2 : sizeN (x :: l) = x.n + sizeN l := by simp [sizeN]
    have := mul_len (h x (by simp)) (lenL_le.1 ih)
    rw [h1, h2]
    omega
theorem sizeN_take (l : List Num) (k : Nat) : sizeN (l.take k) ≤ sizeN l := by
  have h : sizeN l = sizeN (l.take k) + sizeN (l.drop k) := by
    unfold sizeN
    rw [← List.sum_append, ← List.map_append, List.take_append_drop]
  omega
theorem Rds.lt {W : World} {hi : Nat} {A : Option Addr} {l : List Num} (h : Rds W hi A l) : ∀ x ∈ l, x.N < Bw ^ x.n := fun x hx => by
  obtain ⟨k, hk, rfl⟩ := List.getElem_of_mem hx
  exact (h k hk).2.1.1
theorem prodAt_len {W : World} {hi : Nat} {A : Option Addr} {l : List Num} (h : Rds W hi A l) (k : Nat) : lenL (prodAt l k) ≤ sizeN l + 1 := by
  have h1 := prodN_len (l.take k) (fun x hx => h.lt x (List.mem_of_mem_take hx))
  have h2 := sizeN_take l k
  unfold prodAt
  omega
theorem Rds.env {w W : World} {e l : List Num} {A : Option Addr} (hR : Rds w w.heap.size A l) (h : Env w e W) : Rds W W.heap.size A l := (hR.below h.1).more h.1.size
theorem tells_same {n n' N N' D : Nat} (h1 : N = D) (h2 : n = lenL D) (h3 : N' = D) (h4 : n' = lenL D) : sameB n n' N N' = true := by subst h1 h3 h2 h4; simp [sameB]

set_option maxRecDepth 100000 in
set_option maxHeartbeats 2000000 in
theorem ptells_great1 (S : ProdTold) (w : World) (x y : Num) (A : Option Addr) (c : Nat) (l : List Num) (M k : Int) (hx : x.ok w w.heap.size) (hy : y.ok w w.heap.size) (hg : great2 [x, y] = true) :
    Calls Try.prog 3 #[.slice x.A x.n x.c, .slice y.A y.n y.c, .slice A l.length c, .int .u32 M, .int .i64 k] w fun e w' => e = .returned (.bool true) ∧ Below w.heap.size w w' := by
  have hE : Env w [x, y] w := Env.start (by simp; exact ⟨hx, hy⟩)
  have HG := Lib.hid hg
  clear hg hx hy
  go_enter Try.func3, Try.ntmps3
  go_wp2_with fail
  refine (great2_E2 (x := x) (y := y) hE (by simp) (by simp) rfl).mono ?_
  rintro e W ⟨rfl, hE1⟩
  rw [HG.out]
  go_wp2_with fail
  refine (wakes2_E S hE1).mono ?_
  rintro e W2 ⟨rfl, hE2⟩
  go_wp2
  go_ret
  exact ⟨rfl, hE2.1⟩

set_option maxRecDepth 100000 in
set_option maxHeartbeats 2000000 in
theorem ptells_great2 (S : ProdTold) (w : World) (x y : Num) (A : Option Addr) (c : Nat) (l : List Num) (M k : Int) (hx : x.ok w w.heap.size) (hy : y.ok w w.heap.size) (hR : Rds w w.heap.size A l) (hl : l.length ≤ 100000000000000) (hg : great2 [x, y] = false) (hg2 : great2 l = true) :
    Calls Try.prog 3 #[.slice x.A x.n x.c, .slice y.A y.n y.c, .slice A l.length c, .int .u32 M, .int .i64 k] w fun e w' => e = .returned (.bool true) ∧ Below w.heap.size w w' := by
  have hE : Env w [x, y] w := Env.start (by simp; exact ⟨hx, hy⟩)
  have HG := Lib.hid hg
  have HG2 := Lib.hid hg2
  clear hg hg2 hx hy
  go_enter Try.func3, Try.ntmps3
  go_wp2_with fail
  refine (great2_E2 (x := x) (y := y) hE (by simp) (by simp) rfl).mono ?_
  rintro e W ⟨rfl, hE1⟩
  rw [HG.out]
  go_wp2_with fail
  refine (great2_EL hE1 (hR.env hE1) hl).mono ?_
  rintro e W1 ⟨rfl, hE2⟩
  rw [HG2.out]
  go_wp2_with fail
  refine (wakes2_E S hE2).mono ?_
  rintro e W2 ⟨rfl, hE3⟩
  go_wp2
  go_ret
  exact ⟨rfl, hE3.1⟩

set_option maxRecDepth 100000 in
set_option maxHeartbeats 2000000 in
theorem ptells_great3 (S : ProdTold) (w : World) (x y : Num) (A : Option Addr) (c : Nat) (l : List Num) (M k : Int) (hx : x.ok w w.heap.size) (hy : y.ok w w.heap.size) (hR : Rds w w.heap.size A l) (hl : l.length ≤ 100000000000000) (hg : great2 [x, y] = false) (hg2 : great2 l = false) (hk : 5000 < k) :
    Calls Try.prog 3 #[.slice x.A x.n x.c, .slice y.A y.n y.c, .slice A l.length c, .int .u32 M, .int .i64 k] w fun e w' => e = .returned (.bool true) ∧ Below w.heap.size w w' := by
  have hE : Env w [x, y] w := Env.start (by simp; exact ⟨hx, hy⟩)
  have HG := Lib.hid hg
  have HG2 := Lib.hid hg2
  clear hg hg2 hx hy
  go_enter Try.func3, Try.ntmps3
  go_wp2_with fail
  refine (great2_E2 (x := x) (y := y) hE (by simp) (by simp) rfl).mono ?_
  rintro e W ⟨rfl, hE1⟩
  rw [HG.out]
  go_wp2_with fail
  refine (great2_EL hE1 (hR.env hE1) hl).mono ?_
  rintro e W1 ⟨rfl, hE2⟩
  rw [HG2.out]
  go_wp2_with fail
  refine (wakes2_E S hE2).mono ?_
  rintro e W2 ⟨rfl, hE3⟩
  go_wp2
  go_ret
  exact ⟨rfl, hE3.1⟩

set_option maxRecDepth 100000 in
set_option maxHeartbeats 4000000 in
theorem ptells_go_pow (S : ProdTold) (w : World) (x y : Num) (A : Option Addr) (c : Nat) (l : List Num) (M : Nat) (k : Int) (hx : x.ok w w.heap.size) (hy : y.ok w w.heap.size) (hR : Rds w w.heap.size A l) (hlc : l.length ≤ c) (hcm : c ≤ maxLen) (hg : great2 [x, y] = false) (hg2 : great2 l = false)
    (hM : M < 4294967296) (hk : -9223372036854775808 ≤ k ∧ k ≤ 5000) (hp : x.n ≤ 4) (hp2 : k ≤ 40) :
    Calls Try.prog 3 #[.slice x.A x.n x.c, .slice y.A y.n y.c, .slice A l.length c, .int .u32 M, .int .i64 k] w fun e w' => e = .returned (.bool true) ∧ Below w.heap.size w w' := by
  have hE : Env w [x, y] w := Env.start (by simp; exact ⟨hx, hy⟩)
  obtain ⟨bx, by'⟩ := size2_2 hg
  obtain ⟨hl, hsz⟩ := great2_false hg2
  have hnb : ∀ z ∈ l, z.n ≤ 100000 := fun z hz => Nat.le_trans (mem_sizeN hz) (by omega)
  have hpl : ∀ k, lenL (prodAt l k) ≤ 100000 := fun k => Nat.le_trans (prodAt_len hR k) (by omega)
  have HPL := Lib.hid hpl
  have HNB := Lib.hid hnb
  have HG := Lib.hid hg
  have HG2 := Lib.hid hg2
  have HM := Lib.hid hM
  have hk' : -9223372036854775808 ≤ k ∧ k ≤ 9223372036854775807 := by omega
  have HK := Lib.hid hk'
  obtain ⟨bn, hbn⟩ : ∃ bn, bitsN x.N = bn := ⟨_, rfl⟩
  have HBN := Lib.hid hbn
  clear hg hg2 hx hy hM hpl hnb hk' hbn
  go_enter Try.func3, Try.ntmps3
  go_wp2_with fail
  refine (great2_E2 (x := x) (y := y) hE (by simp) (by simp) rfl).mono ?_
  rintro e W ⟨rfl, hE1⟩
  rw [HG.out]
  go_wp2_with fail
  refine (great2_EL hE1 (hR.env hE1) (by omega)).mono ?_
  rintro e W1 ⟨rfl, hE2⟩
  rw [HG2.out]
  go_wp2_with fail
  refine (S.mul _ _ _ x y hE2 (by simp) (by simp) (by omega) (by omega)).mono ?_
  rintro e V3 ⟨m, rfl, mN, mn, hE3, -⟩
  replace mN := Lib.hid mN
  replace mn := Lib.hid mn
  go_wp2_with fail
  refine (rMul_E (x := x) (y := y) hE3 (by simp) (by simp) (by omega) (by omega)).mono ?_
  rintro e V4 ⟨m', rfl, m'N, m'n, hE4, -⟩
  replace m'N := Lib.hid m'N
  replace m'n := Lib.hid m'n
  go_wp2_with fail
  refine (same2_E (x := m) (y := m') hE4 (by simp) (by simp)).mono ?_
  rintro e V5 ⟨rfl, hE5⟩
  rw [tells_same mN.out mn.out m'N.out m'n.out]
  go_wp2_with fail
  refine (S.all _ _ _ A c l hE5 (hR.env hE5) hlc hcm (by omega) HNB.out HPL.out).mono ?_
  rintro e V6 ⟨a, rfl, aN, an, hE6, -⟩
  replace aN := Lib.hid aN
  replace an := Lib.hid an
  go_wp2_with fail
  refine (rAll_EL hE6 (hR.env hE6) (by omega) HNB.out HPL.out).mono ?_
  rintro e V7 ⟨a', rfl, a'N, a'n, hE7, -⟩
  replace a'N := Lib.hid a'N
  replace a'n := Lib.hid a'n
  go_wp2_with fail
  refine (same2_E (x := a) (y := a') hE7 (by simp) (by simp)).mono ?_
  rintro e V8 ⟨rfl, hE8⟩
  rw [tells_same aN.out an.out a'N.out a'n.out]
  go_wp2_with fail
  refine (S.by_ _ _ _ x M hE8 (by simp) (by omega) HM.out).mono ?_
  rintro e V9 ⟨b, rfl, bN, bn, hE9, -⟩
  replace bN := Lib.hid bN
  replace bn := Lib.hid bn
  go_wp2_with fail
  refine (rBy_E (x := x) hE9 (by simp) (by omega) HM.out).mono ?_
  rintro e V10 ⟨b', rfl, b'N, b'n, hE10, -⟩
  replace b'N := Lib.hid b'N
  replace b'n := Lib.hid b'n
  go_wp2_with fail
  refine (same2_E (x := b) (y := b') hE10 (by simp) (by simp)).mono ?_
  rintro e V11 ⟨rfl, hE11⟩
  rw [tells_same bN.out bn.out b'N.out b'n.out]
  go_wp2_with fail
  refine (S.bits _ _ _ x hE11 (by simp) (by omega)).mono ?_
  rintro e V12 ⟨rfl, hE12⟩
  rw [HBN.out]
  go_wp2_with fail
  refine (rBits_E (x := x) hE12 (by simp) (by omega)).mono ?_
  rintro e V13 ⟨rfl, hE13⟩
  rw [HBN.out]
  go_wp2_with fail
  refine (S.pow _ _ _ x k hE13 (by simp) (by omega) HK.out).mono ?_
  rintro e V14 ⟨p, rfl, pN, pn, hE14, -⟩
  replace pN := Lib.hid pN
  replace pn := Lib.hid pn
  go_wp2_with fail
  refine (rPow_E (x := x) hE14 (by simp) (by omega) HK.out).mono ?_
  rintro e V15 ⟨p', rfl, p'N, p'n, hE15, -⟩
  replace p'N := Lib.hid p'N
  replace p'n := Lib.hid p'n
  go_wp2_with fail
  refine (same2_E (x := p) (y := p') hE15 (by simp) (by simp)).mono ?_
  rintro e V16 ⟨rfl, hE16⟩
  rw [tells_same pN.out pn.out p'N.out p'n.out]
  go_wp2_with fail
  refine (S.up _ _ _ x k hE16 (by simp) (by omega) HK.out).mono ?_
  rintro e V17 ⟨u, rfl, uN, un, hE17, -⟩
  replace uN := Lib.hid uN
  replace un := Lib.hid un
  go_wp2_with fail
  refine (rUp_E (x := x) hE17 (by simp) (by omega) HK.out).mono ?_
  rintro e V18 ⟨u', rfl, u'N, u'n, hE18, -⟩
  replace u'N := Lib.hid u'N
  replace u'n := Lib.hid u'n
  go_wp2_with fail
  refine (same2_E (x := u) (y := u') hE18 (by simp) (by simp)).mono ?_
  rintro e V19 ⟨rfl, hE19⟩
  rw [tells_same uN.out un.out u'N.out u'n.out]
  go_wp2_with fail
  refine (S.down _ _ _ x k hE19 (by simp) (by omega) HK.out).mono ?_
  rintro e V20 ⟨d, rfl, dN, dn, hE20, -⟩
  replace dN := Lib.hid dN
  replace dn := Lib.hid dn
  go_wp2_with fail
  refine (rDown_E (x := x) hE20 (by simp) (by omega) HK.out).mono ?_
  rintro e V21 ⟨d', rfl, d'N, d'n, hE21, -⟩
  replace d'N := Lib.hid d'N
  replace d'n := Lib.hid d'n
  go_wp2_with fail
  refine (same2_E (x := d) (y := d') hE21 (by simp) (by simp)).mono ?_
  rintro e V22 ⟨rfl, hE22⟩
  rw [tells_same dN.out dn.out d'N.out d'n.out]
  go_wp2_with fail
  refine (wakes2_E S hE22).mono ?_
  rintro e Vw ⟨rfl, hEw⟩
  go_wp2
  go_ret
  refine ⟨?_, hEw.1⟩
  first
  | rfl
  | (refine ret_bool ?_; simp; done)

set_option maxRecDepth 100000 in
set_option maxHeartbeats 4000000 in
theorem ptells_go_long (S : ProdTold) (w : World) (x y : Num) (A : Option Addr) (c : Nat) (l : List Num) (M : Nat) (k : Int) (hx : x.ok w w.heap.size) (hy : y.ok w w.heap.size) (hR : Rds w w.heap.size A l) (hlc : l.length ≤ c) (hcm : c ≤ maxLen) (hg : great2 [x, y] = false) (hg2 : great2 l = false)
    (hM : M < 4294967296) (hk : -9223372036854775808 ≤ k ∧ k ≤ 5000) (hp : 4 < x.n) :
    Calls Try.prog 3 #[.slice x.A x.n x.c, .slice y.A y.n y.c, .slice A l.length c, .int .u32 M, .int .i64 k] w fun e w' => e = .returned (.bool true) ∧ Below w.heap.size w w' := by
  have hE : Env w [x, y] w := Env.start (by simp; exact ⟨hx, hy⟩)
  obtain ⟨bx, by'⟩ := size2_2 hg
  obtain ⟨hl, hsz⟩ := great2_false hg2
  have hnb : ∀ z ∈ l, z.n ≤ 100000 := fun z hz => Nat.le_trans (mem_sizeN hz) (by omega)
  have hpl : ∀ k, lenL (prodAt l k) ≤ 100000 := fun k => Nat.le_trans (prodAt_len hR k) (by omega)
  have HPL := Lib.hid hpl
  have HNB := Lib.hid hnb
  have HG := Lib.hid hg
  have HG2 := Lib.hid hg2
  have HM := Lib.hid hM
  have hk' : -9223372036854775808 ≤ k ∧ k ≤ 9223372036854775807 := by omega
  have HK := Lib.hid hk'
  obtain ⟨bn, hbn⟩ : ∃ bn, bitsN x.N = bn := ⟨_, rfl⟩
  have HBN := Lib.hid hbn
  clear hg hg2 hx hy hM hpl hnb hk' hbn
  go_enter Try.func3, Try.ntmps3
  go_wp2_with fail
  refine (great2_E2 (x := x) (y := y) hE (by simp) (by simp) rfl).mono ?_
  rintro e W ⟨rfl, hE1⟩
  rw [HG.out]
  go_wp2_with fail
  refine (great2_EL hE1 (hR.env hE1) (by omega)).mono ?_
  rintro e W1 ⟨rfl, hE2⟩
  rw [HG2.out]
  go_wp2_with fail
  refine (S.mul _ _ _ x y hE2 (by simp) (by simp) (by omega) (by omega)).mono ?_
  rintro e V3 ⟨m, rfl, mN, mn, hE3, -⟩
  replace mN := Lib.hid mN
  replace mn := Lib.hid mn
  go_wp2_with fail
  refine (rMul_E (x := x) (y := y) hE3 (by simp) (by simp) (by omega) (by omega)).mono ?_
  rintro e V4 ⟨m', rfl, m'N, m'n, hE4, -⟩
  replace m'N := Lib.hid m'N
  replace m'n := Lib.hid m'n
  go_wp2_with fail
  refine (same2_E (x := m) (y := m') hE4 (by simp) (by simp)).mono ?_
  rintro e V5 ⟨rfl, hE5⟩
  rw [tells_same mN.out mn.out m'N.out m'n.out]
  go_wp2_with fail
  refine (S.all _ _ _ A c l hE5 (hR.env hE5) hlc hcm (by omega) HNB.out HPL.out).mono ?_
  rintro e V6 ⟨a, rfl, aN, an, hE6, -⟩
  replace aN := Lib.hid aN
  replace an := Lib.hid an
  go_wp2_with fail
  refine (rAll_EL hE6 (hR.env hE6) (by omega) HNB.out HPL.out).mono ?_
  rintro e V7 ⟨a', rfl, a'N, a'n, hE7, -⟩
  replace a'N := Lib.hid a'N
  replace a'n := Lib.hid a'n
  go_wp2_with fail
  refine (same2_E (x := a) (y := a') hE7 (by simp) (by simp)).mono ?_
  rintro e V8 ⟨rfl, hE8⟩
  rw [tells_same aN.out an.out a'N.out a'n.out]
  go_wp2_with fail
  refine (S.by_ _ _ _ x M hE8 (by simp) (by omega) HM.out).mono ?_
  rintro e V9 ⟨b, rfl, bN, bn, hE9, -⟩
  replace bN := Lib.hid bN
  replace bn := Lib.hid bn
  go_wp2_with fail
  refine (rBy_E (x := x) hE9 (by simp) (by omega) HM.out).mono ?_
  rintro e V10 ⟨b', rfl, b'N, b'n, hE10, -⟩
  replace b'N := Lib.hid b'N
  replace b'n := Lib.hid b'n
  go_wp2_with fail
  refine (same2_E (x := b) (y := b') hE10 (by simp) (by simp)).mono ?_
  rintro e V11 ⟨rfl, hE11⟩
  rw [tells_same bN.out bn.out b'N.out b'n.out]
  go_wp2_with fail
  refine (S.bits _ _ _ x hE11 (by simp) (by omega)).mono ?_
  rintro e V12 ⟨rfl, hE12⟩
  rw [HBN.out]
  go_wp2_with fail
  refine (rBits_E (x := x) hE12 (by simp) (by omega)).mono ?_
  rintro e V13 ⟨rfl, hE13⟩
  rw [HBN.out]
  go_wp2_with fail
  refine (S.up _ _ _ x k hE13 (by simp) (by omega) HK.out).mono ?_
  rintro e V14 ⟨u, rfl, uN, un, hE14, -⟩
  replace uN := Lib.hid uN
  replace un := Lib.hid un
  go_wp2_with fail
  refine (rUp_E (x := x) hE14 (by simp) (by omega) HK.out).mono ?_
  rintro e V15 ⟨u', rfl, u'N, u'n, hE15, -⟩
  replace u'N := Lib.hid u'N
  replace u'n := Lib.hid u'n
  go_wp2_with fail
  refine (same2_E (x := u) (y := u') hE15 (by simp) (by simp)).mono ?_
  rintro e V16 ⟨rfl, hE16⟩
  rw [tells_same uN.out un.out u'N.out u'n.out]
  go_wp2_with fail
  refine (S.down _ _ _ x k hE16 (by simp) (by omega) HK.out).mono ?_
  rintro e V17 ⟨d, rfl, dN, dn, hE17, -⟩
  replace dN := Lib.hid dN
  replace dn := Lib.hid dn
  go_wp2_with fail
  refine (rDown_E (x := x) hE17 (by simp) (by omega) HK.out).mono ?_
  rintro e V18 ⟨d', rfl, d'N, d'n, hE18, -⟩
  replace d'N := Lib.hid d'N
  replace d'n := Lib.hid d'n
  go_wp2_with fail
  refine (same2_E (x := d) (y := d') hE18 (by simp) (by simp)).mono ?_
  rintro e V19 ⟨rfl, hE19⟩
  rw [tells_same dN.out dn.out d'N.out d'n.out]
  go_wp2_with fail
  refine (wakes2_E S hE19).mono ?_
  rintro e Vw ⟨rfl, hEw⟩
  go_wp2
  go_ret
  refine ⟨?_, hEw.1⟩
  first
  | rfl
  | (refine ret_bool ?_; simp; done)

set_option maxRecDepth 100000 in
set_option maxHeartbeats 4000000 in
theorem ptells_go_many (S : ProdTold) (w : World) (x y : Num) (A : Option Addr) (c : Nat) (l : List Num) (M : Nat) (k : Int) (hx : x.ok w w.heap.size) (hy : y.ok w w.heap.size) (hR : Rds w w.heap.size A l) (hlc : l.length ≤ c) (hcm : c ≤ maxLen) (hg : great2 [x, y] = false) (hg2 : great2 l = false)
    (hM : M < 4294967296) (hk : -9223372036854775808 ≤ k ∧ k ≤ 5000) (hp : x.n ≤ 4) (hp2 : 40 < k) :
    Calls Try.prog 3 #[.slice x.A x.n x.c, .slice y.A y.n y.c, .slice A l.length c, .int .u32 M, .int .i64 k] w fun e w' => e = .returned (.bool true) ∧ Below w.heap.size w w' := by
  have hE : Env w [x, y] w := Env.start (by simp; exact ⟨hx, hy⟩)
  obtain ⟨bx, by'⟩ := size2_2 hg
  obtain ⟨hl, hsz⟩ := great2_false hg2
  have hnb : ∀ z ∈ l, z.n ≤ 100000 := fun z hz => Nat.le_trans (mem_sizeN hz) (by omega)
  have hpl : ∀ k, lenL (prodAt l k) ≤ 100000 := fun k => Nat.le_trans (prodAt_len hR k) (by omega)
  have HPL := Lib.hid hpl
  have HNB := Lib.hid hnb
  have HG := Lib.hid hg
  have HG2 := Lib.hid hg2
  have HM := Lib.hid hM
  have hk' : -9223372036854775808 ≤ k ∧ k ≤ 9223372036854775807 := by omega
  have HK := Lib.hid hk'
  obtain ⟨bn, hbn⟩ : ∃ bn, bitsN x.N = bn := ⟨_, rfl⟩
  have HBN := Lib.hid hbn
  clear hg hg2 hx hy hM hpl hnb hk' hbn
  go_enter Try.func3, Try.ntmps3
  go_wp2_with fail
  refine (great2_E2 (x := x) (y := y) hE (by simp) (by simp) rfl).mono ?_
  rintro e W ⟨rfl, hE1⟩
  rw [HG.out]
  go_wp2_with fail
  refine (great2_EL hE1 (hR.env hE1) (by omega)).mono ?_
  rintro e W1 ⟨rfl, hE2⟩
  rw [HG2.out]
  go_wp2_with fail
  refine (S.mul _ _ _ x y hE2 (by simp) (by simp) (by omega) (by omega)).mono ?_
  rintro e V3 ⟨m, rfl, mN, mn, hE3, -⟩
  replace mN := Lib.hid mN
  replace mn := Lib.hid mn
  go_wp2_with fail
  refine (rMul_E (x := x) (y := y) hE3 (by simp) (by simp) (by omega) (by omega)).mono ?_
  rintro e V4 ⟨m', rfl, m'N, m'n, hE4, -⟩
  replace m'N := Lib.hid m'N
  replace m'n := Lib.hid m'n
  go_wp2_with fail
  refine (same2_E (x := m) (y := m') hE4 (by simp) (by simp)).mono ?_
  rintro e V5 ⟨rfl, hE5⟩
  rw [tells_same mN.out mn.out m'N.out m'n.out]
  go_wp2_with fail
  refine (S.all _ _ _ A c l hE5 (hR.env hE5) hlc hcm (by omega) HNB.out HPL.out).mono ?_
  rintro e V6 ⟨a, rfl, aN, an, hE6, -⟩
  replace aN := Lib.hid aN
  replace an := Lib.hid an
  go_wp2_with fail
  refine (rAll_EL hE6 (hR.env hE6) (by omega) HNB.out HPL.out).mono ?_
  rintro e V7 ⟨a', rfl, a'N, a'n, hE7, -⟩
  replace a'N := Lib.hid a'N
  replace a'n := Lib.hid a'n
  go_wp2_with fail
  refine (same2_E (x := a) (y := a') hE7 (by simp) (by simp)).mono ?_
  rintro e V8 ⟨rfl, hE8⟩
  rw [tells_same aN.out an.out a'N.out a'n.out]
  go_wp2_with fail
  refine (S.by_ _ _ _ x M hE8 (by simp) (by omega) HM.out).mono ?_
  rintro e V9 ⟨b, rfl, bN, bn, hE9, -⟩
  replace bN := Lib.hid bN
  replace bn := Lib.hid bn
  go_wp2_with fail
  refine (rBy_E (x := x) hE9 (by simp) (by omega) HM.out).mono ?_
  rintro e V10 ⟨b', rfl, b'N, b'n, hE10, -⟩
  replace b'N := Lib.hid b'N
  replace b'n := Lib.hid b'n
  go_wp2_with fail
  refine (same2_E (x := b) (y := b') hE10 (by simp) (by simp)).mono ?_
  rintro e V11 ⟨rfl, hE11⟩
  rw [tells_same bN.out bn.out b'N.out b'n.out]
  go_wp2_with fail
  refine (S.bits _ _ _ x hE11 (by simp) (by omega)).mono ?_
  rintro e V12 ⟨rfl, hE12⟩
  rw [HBN.out]
  go_wp2_with fail
  refine (rBits_E (x := x) hE12 (by simp) (by omega)).mono ?_
  rintro e V13 ⟨rfl, hE13⟩
  rw [HBN.out]
  go_wp2_with fail
  refine (S.up _ _ _ x k hE13 (by simp) (by omega) HK.out).mono ?_
  rintro e V14 ⟨u, rfl, uN, un, hE14, -⟩
  replace uN := Lib.hid uN
  replace un := Lib.hid un
  go_wp2_with fail
  refine (rUp_E (x := x) hE14 (by simp) (by omega) HK.out).mono ?_
  rintro e V15 ⟨u', rfl, u'N, u'n, hE15, -⟩
  replace u'N := Lib.hid u'N
  replace u'n := Lib.hid u'n
  go_wp2_with fail
  refine (same2_E (x := u) (y := u') hE15 (by simp) (by simp)).mono ?_
  rintro e V16 ⟨rfl, hE16⟩
  rw [tells_same uN.out un.out u'N.out u'n.out]
  go_wp2_with fail
  refine (S.down _ _ _ x k hE16 (by simp) (by omega) HK.out).mono ?_
  rintro e V17 ⟨d, rfl, dN, dn, hE17, -⟩
  replace dN := Lib.hid dN
  replace dn := Lib.hid dn
  go_wp2_with fail
  refine (rDown_E (x := x) hE17 (by simp) (by omega) HK.out).mono ?_
  rintro e V18 ⟨d', rfl, d'N, d'n, hE18, -⟩
  replace d'N := Lib.hid d'N
  replace d'n := Lib.hid d'n
  go_wp2_with fail
  refine (same2_E (x := d) (y := d') hE18 (by simp) (by simp)).mono ?_
  rintro e V19 ⟨rfl, hE19⟩
  rw [tells_same dN.out dn.out d'N.out d'n.out]
  go_wp2_with fail
  refine (wakes2_E S hE19).mono ?_
  rintro e Vw ⟨rfl, hEw⟩
  go_wp2
  go_ret
  refine ⟨?_, hEw.1⟩
  first
  | rfl
  | (refine ret_bool ?_; simp; done)
end Go.Proofs.Ytjakmpphfjhbaaa
