/- NatTells: numbers as they are told, small ones, which is less, sums, differences, the least one: as the document's own answer has them; proved for all arguments. -/
import Derived.Test.YtgkcfciicekhaaaRef3
import Derived.Test.YtgkcfciicekhaaaRef4
import Derived.Test.YtgkcfciicekhaaaRef5
import Derived.Test.YtgkcfciicekhaaaSums
namespace Go.Proofs.Ytgkcfciicekhaaa
open Go Go.ChangeShapes Go.WideShapes Go.ChangeAt Go.RowKit Go.Deep

section
variable {w W : World} {e : List Num} {l : List Num} {x y : Num} {A : Option Addr} {c : Nat}
theorem rTrim_E (h : Env w e W) (hx : x ∈ e) : Calls Try.prog 18 #[.slice x.A x.n x.c] W (Back w e W.heap.size x.N (fun r => .slice r.A r.n r.c)) := by
  obtain ⟨h1, h2, h3, h4⟩ := h.2 x hx
  exact (rTrim_any W _ _ _ _ h1 h2 h3 h4).mono fun _ _ hg => back_of_gives h hg (Nat.le_trans (lenL_le.2 h1.1) h4)
theorem rOf_E {N : Nat} (h : Env w e W) (hN : N < 18446744073709551616) : Calls Try.prog 20 #[.int .u64 N] W (Back w e W.heap.size N (fun r => .slice r.A r.n r.c)) :=
  (rOf_any W N hN).mono fun _ _ hg => back_of_gives h hg (by have := lenL_small.2 hN; omega)
theorem rCmp_E (h : Env w e W) (hx : x ∈ e) (hy : y ∈ e) :
    Calls Try.prog 16 #[.slice x.A x.n x.c, .slice y.A y.n y.c] W fun e' W' => e' = .returned (.int .i64 (cmpN x.N y.N)) ∧ Env w e W' :=
  (rCmp_any W _ _ _ _ _ _ _ _ _ _ (h.2 x hx).1 (h.2 y hy).1 (big (h.2 x hx).2.2.2) (big (h.2 y hy).2.2.2)).mono fun _ _ ⟨he, hb⟩ => ⟨he, by rw [← hb]; exact h⟩
theorem rAdd_EL (h : Env w e W) (hR : Rds W W.heap.size A l) (hl : l.length ≤ 100000000000000) (hb : ∀ z ∈ l, z.n ≤ 1000) (hs : lenL (sumN l) ≤ 1000) :
    Calls Try.prog 22 #[.slice A l.length c] W (Back w e W.heap.size (sumN l) (fun r => .slice r.A r.n r.c)) :=
  (rAdd_any W A c l hR hl hb hs).mono fun _ _ hg => back_of_gives h hg (by omega)
theorem Least_EL (h : Env w e W) (hR : Rds W W.heap.size A l) (hl : l.length ≤ 100000000000000) :
    Calls Try.prog 23 #[.slice A l.length c] W fun e' W' => e' = .returned (.int .i64 (leastV l l.length)) ∧ Env w e W' :=
  (Least_any W A c l hR hl).mono fun _ _ ⟨he, hb⟩ => ⟨he, h.step hb⟩
theorem rLeast_EL (h : Env w e W) (hR : Rds W W.heap.size A l) (hl : l.length ≤ 100000000000000) :
    Calls Try.prog 24 #[.slice A l.length c] W fun e' W' => e' = .returned (.int .i64 (leastV l l.length)) ∧ Env w e W' :=
  (rLeast_any W A c l hR hl).mono fun _ _ ⟨he, hb⟩ => ⟨he, h.step hb⟩

/-- Small, of both: the same two answers. -/
def SmallTells (w : World) (x : Num) (f : FuncId) (v : Int) (t : Bool) : Prop :=
  ∀ (e : List Num) (W : World), Env w e W → x ∈ e → Calls Try.prog f #[.slice x.A x.n x.c] W fun e' W' => e' = .returned (.tuple #[.int .u64 v, .bool t]) ∧ Env w e W'
theorem small_both (w : World) (x : Num) : ∃ v t, SmallTells w x 10 v t ∧ SmallTells w x 11 v t := by
  by_cases hN : x.N < 18446744073709551616
  · refine ⟨x.N, true, fun e W h hx => (Small_yes_E h hx hN).mono fun _ _ ⟨he, hw⟩ => ⟨he, by rw [← hw]; exact h⟩, fun e W h hx => ?_⟩
    obtain ⟨h1, h2, h3, h4⟩ := h.2 x hx
    exact (rSmall_yes W _ _ _ _ h1 h2 h3 h4 hN).mono fun _ _ ⟨he, hb⟩ => ⟨he, h.step hb⟩
  · refine ⟨0, false, fun e W h hx => (Small_no_E h hx hN).mono fun _ _ ⟨he, hw⟩ => ⟨he, by rw [← hw]; exact h⟩, fun e W h hx => ?_⟩
    obtain ⟨h1, h2, h3, h4⟩ := h.2 x hx
    exact (rSmall_no W _ _ _ _ h1 h2 h3 h4 hN).mono fun _ _ ⟨he, hb⟩ => ⟨he, h.step hb⟩

/-- Sub, of both: the same number, trimmed, and the same error. -/
def SubTells (w : World) (x y : Num) (f : FuncId) (D : Nat) (er : Int) : Prop :=
  ∀ (e : List Num) (W : World), Env w e W → x ∈ e → y ∈ e → Calls Try.prog f #[.slice x.A x.n x.c, .slice y.A y.n y.c] W fun e' W' =>
    ∃ r : Num, e' = .returned (.tuple #[.slice r.A r.n r.c, .int .i64 er]) ∧ r.N = D ∧ r.n = lenL D ∧ Env w (r :: e) W'
theorem Env.nil (h : Env w e W) : Env w (⟨none, 0, 0, 0⟩ :: e) W := h.add ⟨Rd.none_, Nat.le_refl _, by simp [maxLen], by simp⟩
theorem sub_both (w : World) (x y : Num) (hxb : x.n ≤ 600) (hyb : y.n ≤ 600) : ∃ D er, SubTells w x y 12 D er ∧ SubTells w x y 13 D er := by
  by_cases hN : x.N < y.N
  · refine ⟨0, 10, fun e W h hx hy => (Sub_no_E h hx hy hN).mono fun _ _ ⟨he, hE⟩ => ⟨⟨none, 0, 0, 0⟩, he, rfl, rfl, hE.nil⟩, fun e W h hx hy => ?_⟩
    exact (rSub_no W _ _ _ _ _ _ _ _ (h.2 x hx).1 (h.2 y hy).1 (h.2 x hx).2.2.2 (h.2 y hy).2.2.2 hN).mono fun _ _ ⟨he, hw⟩ => ⟨⟨none, 0, 0, 0⟩, he, rfl, rfl, by rw [← hw]; exact h.nil⟩
  · refine ⟨x.N - y.N, 0, fun e W h hx hy => (Sub_yes_E h hx hy (by omega)).mono fun _ _ ⟨r, he, h1, h2, hE, _⟩ => ⟨r, he, h1, h2, hE⟩, fun e W h hx hy => ?_⟩
    have hlen := Nat.le_trans (lenL_mono (Nat.sub_le x.N y.N)) (lenL_le.2 (h.2 x hx).1.1)
    refine (rSub_yes W _ _ _ _ _ _ _ _ (h.2 x hx).1 (h.2 y hy).1 (by omega) (by omega) (by omega)).mono fun e W' hg => ?_
    obtain ⟨A, c, he, hc, hm, hF, hb⟩ := hg
    exact ⟨⟨A, lenL (x.N - y.N), c, x.N - y.N⟩, he, rfl, rfl, (h.step hb).add (hF.ok hc hm (by omega))⟩
end

set_option maxRecDepth 100000 in
set_option maxHeartbeats 2000000 in
theorem tells_great1 (w : World) (x y : Num) (A : Option Addr) (c : Nat) (l : List Num) (N : Int) (hx : x.ok w w.heap.size) (hy : y.ok w w.heap.size) (hg : greatB [x, y] = true) :
    Calls Try.prog 3 #[.slice x.A x.n x.c, .slice y.A y.n y.c, .slice A l.length c, .int .u64 N] w fun e w' => e = .returned (.bool true) ∧ Below w.heap.size w w' := by
  have hE : Env w [x, y] w := Env.start (by simp; exact ⟨hx, hy⟩)
  have HG := Lib.hid hg
  clear hg hx hy
  go_enter Try.func3, Try.ntmps3
  go_wp2_with fail
  refine (Great_E2 (x := x) (y := y) hE (by simp) (by simp) rfl).mono ?_
  rintro e W ⟨rfl, hE1⟩
  rw [HG.out]
  go_wp2_with fail
  refine (wakes_E hE1).mono ?_
  rintro e W2 ⟨rfl, hE2⟩
  go_wp2
  go_ret
  exact ⟨rfl, hE2.1⟩

set_option maxRecDepth 100000 in
set_option maxHeartbeats 2000000 in
theorem tells_great2 (w : World) (x y : Num) (A : Option Addr) (c : Nat) (l : List Num) (N : Int) (hx : x.ok w w.heap.size) (hy : y.ok w w.heap.size) (hR : Rds w w.heap.size A l) (hl : l.length ≤ 100000000000000) (hg : greatB [x, y] = false) (hg2 : greatB l = true) :
    Calls Try.prog 3 #[.slice x.A x.n x.c, .slice y.A y.n y.c, .slice A l.length c, .int .u64 N] w fun e w' => e = .returned (.bool true) ∧ Below w.heap.size w w' := by
  have hE : Env w [x, y] w := Env.start (by simp; exact ⟨hx, hy⟩)
  have HG := Lib.hid hg
  have HG2 := Lib.hid hg2
  clear hg hg2 hx hy
  go_enter Try.func3, Try.ntmps3
  go_wp2_with fail
  refine (Great_E2 (x := x) (y := y) hE (by simp) (by simp) rfl).mono ?_
  rintro e W ⟨rfl, hE1⟩
  rw [HG.out]
  go_wp2_with fail
  refine (Great_EL hE1 (hR.env hE1) hl).mono ?_
  rintro e W1 ⟨rfl, hE2⟩
  rw [HG2.out]
  go_wp2_with fail
  refine (wakes_E hE2).mono ?_
  rintro e W2 ⟨rfl, hE3⟩
  go_wp2
  go_ret
  exact ⟨rfl, hE3.1⟩

theorem tells_same {n n' N N' D : Nat} (h1 : N = D) (h2 : n = lenL D) (h3 : N' = D) (h4 : n' = lenL D) : sameB n n' N N' = true := by subst h1 h3 h2 h4; simp [sameB]

set_option maxRecDepth 100000 in
set_option maxHeartbeats 4000000 in
theorem tells_go (w : World) (x y : Num) (A : Option Addr) (c : Nat) (l : List Num) (N : Nat) (hN : N < 18446744073709551616) (hx : x.ok w w.heap.size) (hy : y.ok w w.heap.size) (hR : Rds w w.heap.size A l) (hg : greatB [x, y] = false) (hg2 : greatB l = false) :
    Calls Try.prog 3 #[.slice x.A x.n x.c, .slice y.A y.n y.c, .slice A l.length c, .int .u64 N] w fun e w' => e = .returned (.bool true) ∧ Below w.heap.size w w' := by
  have hE : Env w [x, y] w := Env.start (by simp; exact ⟨hx, hy⟩)
  obtain ⟨bx, by'⟩ := sizeN2 hg
  obtain ⟨hsb, hnb⟩ := sum_bound hR hg2
  have hl := (greatB_false hg2).1
  have HG := Lib.hid hg
  have HG2 := Lib.hid hg2
  have HN := Lib.hid hN
  obtain ⟨sv, st, hs1, hs2⟩ := small_both w x
  obtain ⟨D, er, hd1, hd2⟩ := sub_both w x y bx by'
  have HS1 := Lib.hid hs1
  have HS2 := Lib.hid hs2
  have HD1 := Lib.hid hd1
  have HD2 := Lib.hid hd2
  obtain ⟨q, hq⟩ : ∃ q, cmpN x.N y.N = q := ⟨_, rfl⟩
  obtain ⟨lv, hlv⟩ : ∃ lv, leastV l l.length = lv := ⟨_, rfl⟩
  have HQ := Lib.hid hq
  have HLV := Lib.hid hlv
  clear hg hg2 hx hy hN hs1 hs2 hd1 hd2 hq hlv
  go_enter Try.func3, Try.ntmps3
  go_wp2_with fail
  refine (Great_E2 (x := x) (y := y) hE (by simp) (by simp) rfl).mono ?_
  rintro e W ⟨rfl, hE1⟩
  rw [HG.out]
  go_wp2_with fail
  refine (Great_EL hE1 (hR.env hE1) (by omega)).mono ?_
  rintro e W1 ⟨rfl, hE2⟩
  rw [HG2.out]
  go_wp2_with fail
  refine (HS1.out _ _ hE2 (by simp)).mono ?_
  rintro e W2 ⟨rfl, hE3⟩
  go_wp2_with fail
  refine (HS2.out _ _ hE3 (by simp)).mono ?_
  rintro e W3 ⟨rfl, hE4⟩
  go_wp2_with fail
  refine (HD1.out _ _ hE4 (by simp) (by simp)).mono ?_
  rintro e W4 ⟨d, rfl, hdN, hdn, hE5⟩
  replace hdN := Lib.hid hdN
  replace hdn := Lib.hid hdn
  go_wp2_with fail
  refine (HD2.out _ _ hE5 (by simp) (by simp)).mono ?_
  rintro e W5 ⟨k, rfl, hkN, hkn, hE6⟩
  replace hkN := Lib.hid hkN
  replace hkn := Lib.hid hkn
  go_wp2_with fail
  refine (same_E (x := d) (y := k) hE6 (by simp) (by simp)).mono ?_
  rintro e W6 ⟨rfl, hE7⟩
  rw [tells_same hdN.out hdn.out hkN.out hkn.out]
  go_wp2_with fail
  refine (Cmp_E (x := x) (y := y) hE7 (by simp) (by simp)).mono ?_
  rintro e W7 ⟨rfl, hE8⟩
  go_wp2_with fail
  refine (rCmp_E (x := x) (y := y) hE8 (by simp) (by simp)).mono ?_
  rintro e W8 ⟨rfl, hE9⟩
  rw [HQ.out]
  clear hE hE1 hE2 hE3 hE4 hE5 hE6 hE7 hE8 hdN hdn hkN hkn
  have hF := Lib.hid hE9
  go_wp2_with fail
  refine (Trim_E (x := x) hE9 (by simp)).mono ?_
  rintro e V1 ⟨t, rfl, htN, htn, hV1, -⟩
  replace htN := Lib.hid htN
  replace htn := Lib.hid htn
  go_wp2_with fail
  refine (rTrim_E (x := x) hV1 (by simp)).mono ?_
  rintro e V2 ⟨t', rfl, htN', htn', hV2, -⟩
  replace htN' := Lib.hid htN'
  replace htn' := Lib.hid htn'
  go_wp2_with fail
  refine (same_E (x := t) (y := t') hV2 (by simp) (by simp)).mono ?_
  rintro e V3 ⟨rfl, hV3⟩
  rw [tells_same htN.out htn.out htN'.out htn'.out]
  go_wp2_with fail
  refine (Of_E hV3 HN.out).mono ?_
  rintro e V4 ⟨o, rfl, hoN, hon, hV4, -⟩
  replace hoN := Lib.hid hoN
  replace hon := Lib.hid hon
  go_wp2_with fail
  refine (rOf_E hV4 HN.out).mono ?_
  rintro e V5 ⟨o', rfl, hoN', hon', hV5, -⟩
  replace hoN' := Lib.hid hoN'
  replace hon' := Lib.hid hon'
  go_wp2_with fail
  refine (same_E (x := o) (y := o') hV5 (by simp) (by simp)).mono ?_
  rintro e V6 ⟨rfl, hV6⟩
  rw [tells_same hoN.out hon.out hoN'.out hon'.out]
  go_wp2_with fail
  refine (Add_EL hV6 (hR.env hV6) (by omega) (by omega)).mono ?_
  rintro e V7 ⟨a, rfl, haN, han, hV7, -⟩
  replace haN := Lib.hid haN
  replace han := Lib.hid han
  go_wp2_with fail
  refine (rAdd_EL hV7 (hR.env hV7) (by omega) (fun z hz => Nat.le_trans (hnb z hz) (by omega)) (by omega)).mono ?_
  rintro e V8 ⟨a', rfl, haN', han', hV8, -⟩
  replace haN' := Lib.hid haN'
  replace han' := Lib.hid han'
  go_wp2_with fail
  refine (same_E (x := a) (y := a') hV8 (by simp) (by simp)).mono ?_
  rintro e V9 ⟨rfl, hV9⟩
  rw [tells_same haN.out han.out haN'.out han'.out]
  go_wp2_with fail
  refine (Least_EL hV9 (hR.env hV9) (by omega)).mono ?_
  rintro e V10 ⟨rfl, hV10⟩
  go_wp2_with fail
  refine (rLeast_EL hV10 (hR.env hV10) (by omega)).mono ?_
  rintro e V11 ⟨rfl, hV11⟩
  rw [HLV.out]
  go_wp2_with fail
  refine (wakes_E hV11).mono ?_
  rintro e V12 ⟨rfl, hV12⟩
  go_wp2
  go_ret
  refine ⟨?_, hV12.1⟩
  first
  | rfl
  | (refine ret_bool ?_; simp; done)
end Go.Proofs.Ytgkcfciicekhaaa
