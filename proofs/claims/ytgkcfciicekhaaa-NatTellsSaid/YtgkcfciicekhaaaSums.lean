/- NatSums: a sum does not hang on the order of its numbers, however they are put together; a sum less one of two is the other one; proved for all arguments. -/
import Derived.Test.YtgkcfciicekhaaaApp
import Derived.Test.YtgkcfciicekhaaaEnv
import Derived.Test.YtgkcfciicekhaaaLaw
namespace Go.Proofs.Ytgkcfciicekhaaa
open Go Go.ChangeShapes Go.WideShapes Go.ChangeAt Go.RowKit Go.Deep

theorem info_nat : (Try.prog.info? 23).map (fun i => (i.zero, i.size, i.bytes)) = some (some (.slice none 0 0), 1, 24) := by kernel_rfl

/-- A row of numbers as values. -/
def rowV (l : List Num) : List Value := l.map fun x => .slice x.A x.n x.c
theorem rowV_get {l : List Num} {j : Nat} {u : Value} (h : (rowV l)[j]? = some u) : ∃ hj : j < l.length, u = .slice l[j].A l[j].n l[j].c := by
  unfold rowV at h
  rw [List.getElem?_map] at h
  by_cases hj : j < l.length
  · rw [List.getElem?_eq_getElem hj] at h
    injection h with h
    exact ⟨hj, h.symm⟩
  · rw [List.getElem?_eq_none (by omega)] at h
    cases h
theorem rowV_one {l : List Num} : ∀ u ∈ rowV l, u.oneCell' = true := by
  intro u hu
  simp only [rowV, List.mem_map] at hu
  obtain ⟨x, _, rfl⟩ := hu
  rfl
theorem rowV_read {W : World} {hi : Nat} {A : Option Addr} {l : List Num} (h : Rds W hi A l) : ∀ j u, (rowV l)[j]? = some u → ∃ ad : Addr, A = some ad ∧ W.cell? (ad.add j) = some u := fun j u hu => by
  obtain ⟨hj, rfl⟩ := rowV_get hu
  obtain ⟨⟨ad, e, _, hc⟩, _⟩ := h j hj
  exact ⟨ad, e, hc⟩
theorem Rds.of_own {W : World} {base : Nat} {v : Value} {l : List Num} (h : W.ownsRow base 23 1 v l.length (rowV l)) (hok : ∀ x ∈ l, x.ok W W.heap.size) (hl : 0 < l.length) :
    ∃ A c, v = .slice A l.length c ∧ Rds W W.heap.size A l := by
  rcases h.2 with ⟨_, h0⟩ | ⟨g, cap, cur, rfl, hb, hg, _⟩
  · omega
  · refine ⟨_, cap, rfl, fun k hk => ⟨⟨_, rfl, (Array.getElem?_eq_some_iff.1 hg).1, ?_⟩, hok _ (List.getElem_mem hk)⟩⟩
    rw [add_new, h.cellAt k (by omega)]
    unfold rowV
    rw [List.getElem?_map, List.getElem?_eq_getElem hk]
    rfl

/-- The sum of the last i. -/
def lastN (l : List Num) (i : Nat) : Nat := sumN (l.drop (l.length - i))
theorem lastN_zero (l : List Num) : lastN l 0 = 0 := by unfold lastN; rw [Nat.sub_zero, List.drop_length]; rfl
theorem lastN_all (l : List Num) : lastN l l.length = sumN l := by unfold lastN; rw [Nat.sub_self, List.drop_zero]
theorem lastN_succ {l : List Num} {i j : Nat} (h : l.length = j + 1 + i) (hj : j < l.length) : lastN l (i + 1) = l[j].N + lastN l i := by
  unfold lastN
  rw [show l.length - (i + 1) = j from by omega, show l.length - i = j + 1 from by omega, List.drop_eq_getElem_cons hj]
  rfl
theorem lastN_le (l : List Num) (i : Nat) : lastN l i ≤ sumN l := by
  unfold lastN
  have h : sumN l = sumN (l.take (l.length - i)) + sumN (l.drop (l.length - i)) := by rw [← sumN_append, List.take_append_drop]
  omega

theorem sum_bound {W : World} {hi : Nat} {A : Option Addr} {l : List Num} (h : Rds W hi A l) (hg : greatB l = false) : lenL (sumN l) ≤ 602 ∧ ∀ x ∈ l, x.n ≤ 600 := by
  obtain ⟨h1, h2⟩ := greatB_false hg
  have hn : ∀ x ∈ l, x.n ≤ 600 := fun x hx => Nat.le_trans (mem_sizeN hx) h2
  refine ⟨?_, hn⟩
  have := lenL_le.2 (sumN_lt (l := l) (by omega))
  have h3 : longestN l ≤ 600 := longestN_le (fun x hx => by
    obtain ⟨k, hk, rfl⟩ := List.getElem_of_mem hx
    exact Nat.le_trans (lenL_le.2 (h k hk).2.1.1) (hn _ hx))
  omega

section
variable {w W : World} {e : List Num} {l : List Num} {A : Option Addr} {c : Nat}
theorem Add_EL (h : Env w e W) (hR : Rds W W.heap.size A l) (hl : l.length ≤ 100000000000000) (hb : lenL (sumN l) ≤ 35184372087808) :
    Calls Try.prog 21 #[.slice A l.length c] W (Back w e W.heap.size (sumN l) (fun r => .slice r.A r.n r.c)) :=
  (Add_any W A c l hR hl).mono fun _ _ hg => back_of_gives h hg hb
theorem Great_EL (h : Env w e W) (hR : Rds W W.heap.size A l) (hl : l.length ≤ 100000000000000) :
    Calls Try.prog 8 #[.slice A l.length c] W fun e' W' => e' = .returned (.bool (greatB l)) ∧ Env w e W' :=
  (Great_any W _ A c l hR hl).mono fun _ _ ⟨he, hw⟩ => ⟨he, by rw [← hw]; exact h⟩
theorem Rds.env (hR : Rds w w.heap.size A l) (h : Env w e W) : Rds W W.heap.size A l := (hR.below h.1).more h.1.size
end

set_option maxRecDepth 100000 in
set_option maxHeartbeats 2000000 in
theorem sums_great1 (w : World) (x y : Num) (A : Option Addr) (c : Nat) (l : List Num) (hx : x.ok w w.heap.size) (hy : y.ok w w.heap.size) (hg : greatB [x, y] = true) :
    Calls Try.prog 4 #[.slice x.A x.n x.c, .slice y.A y.n y.c, .slice A l.length c] w fun e w' => e = .returned (.bool true) ∧ Below w.heap.size w w' := by
  have hE : Env w [x, y] w := Env.start (by simp; exact ⟨hx, hy⟩)
  have HG := Lib.hid hg
  clear hg hx hy
  go_enter Try.func4, Try.ntmps4
  go_wp2_with fail
  refine (Great_E2 (x := x) (y := y) hE (by simp) (by simp) rfl).mono ?_
  rintro e W ⟨rfl, hE1⟩
  rw [HG.out]
  go_wp2_with fail
  refine (wakes_E hE1).mono ?_
  rintro e W2 ⟨rfl, hE2⟩
  go_wp2
  go_ret
  exact ⟨rfl, hE2.1⟩

set_option maxRecDepth 100000 in
set_option maxHeartbeats 2000000 in
theorem sums_great2 (w : World) (x y : Num) (A : Option Addr) (c : Nat) (l : List Num) (hx : x.ok w w.heap.size) (hy : y.ok w w.heap.size) (hR : Rds w w.heap.size A l) (hl : l.length ≤ 100000000000000) (hg : greatB [x, y] = false) (hg2 : greatB l = true) :
    Calls Try.prog 4 #[.slice x.A x.n x.c, .slice y.A y.n y.c, .slice A l.length c] w fun e w' => e = .returned (.bool true) ∧ Below w.heap.size w w' := by
  have hE : Env w [x, y] w := Env.start (by simp; exact ⟨hx, hy⟩)
  have HG := Lib.hid hg
  have HG2 := Lib.hid hg2
  clear hg hg2 hx hy
  go_enter Try.func4, Try.ntmps4
  go_wp2_with fail
  refine (Great_E2 (x := x) (y := y) hE (by simp) (by simp) rfl).mono ?_
  rintro e W ⟨rfl, hE1⟩
  rw [HG.out]
  go_wp2_with fail
  refine (Great_EL hE1 (hR.env hE1) hl).mono ?_
  rintro e W1 ⟨rfl, hE2⟩
  rw [HG2.out]
  go_wp2_with fail
  refine (wakes_E hE2).mono ?_
  rintro e W2 ⟨rfl, hE3⟩
  go_wp2
  go_ret
  exact ⟨rfl, hE3.1⟩

set_option maxRecDepth 100000 in
set_option maxHeartbeats 4000000 in
theorem sums_go (w : World) (x y : Num) (A : Option Addr) (c : Nat) (l : List Num) (hx : x.ok w w.heap.size) (hy : y.ok w w.heap.size) (hR : Rds w w.heap.size A l) (hg : greatB [x, y] = false) (hg2 : greatB l = false) :
    Calls Try.prog 4 #[.slice x.A x.n x.c, .slice y.A y.n y.c, .slice A l.length c] w fun e w' => e = .returned (.bool true) ∧ Below w.heap.size w w' := by
  have hE : Env w [x, y] w := Env.start (by simp; exact ⟨hx, hy⟩)
  obtain ⟨bx, by'⟩ := sizeN2 hg
  obtain ⟨hsb, hnb⟩ := sum_bound hR hg2
  have hl := (greatB_false hg2).1
  have HG := Lib.hid hg
  have HG2 := Lib.hid hg2
  have HS0 := Lib.hid (show x.N + y.N - y.N = x.N by omega)
  have HS1 := Lib.hid (show y.N + x.N = x.N + y.N by omega)
  clear hg hg2 hx hy
  go_enter Try.func4, Try.ntmps4
  go_wp2_with fail
  refine (Great_E2 (x := x) (y := y) hE (by simp) (by simp) rfl).mono ?_
  rintro e W ⟨rfl, hE1⟩
  rw [HG.out]
  go_wp2_with fail
  refine (Great_EL hE1 (hR.env hE1) (by omega)).mono ?_
  rintro e W1 ⟨rfl, hE2⟩
  rw [HG2.out]
  go_wp2_with fail
  refine (Add_E2 (x := x) (y := y) hE2 (by simp) (by simp) rfl (by omega) (by omega)).mono ?_
  rintro e W2 ⟨s, rfl, hsN, hsn, hE3, -⟩
  replace hsN := Lib.hid hsN
  replace hsn := Lib.hid hsn
  go_wp2_with fail
  refine (Sub_yes_E (x := s) (y := y) hE3 (by simp) (by simp) (by rw [hsN.out]; omega)).mono ?_
  rintro e W3 ⟨d, rfl, hdN, hdn, hE4, -⟩
  rw [hsN.out, HS0.out] at hdN hdn
  replace hdN := Lib.hid hdN
  replace hdn := Lib.hid hdn
  go_wp2_with fail
  refine (Add_E2 (x := y) (y := x) hE4 (by simp) (by simp) rfl (by omega) (by omega)).mono ?_
  rintro e W4 ⟨s', rfl, hsN', hsn', hE5, -⟩
  rw [HS1.out] at hsN' hsn'
  replace hsN' := Lib.hid hsN'
  replace hsn' := Lib.hid hsn'
  go_wp2_with fail
  refine (same_E (x := s) (y := s') hE5 (by simp) (by simp)).mono ?_
  rintro e W5 ⟨rfl, hE6⟩
  rw [hsN.out, hsn.out, hsN'.out, hsn'.out, show sameB (lenL (x.N + y.N)) (lenL (x.N + y.N)) (x.N + y.N) (x.N + y.N) = true from by simp [sameB]]
  go_wp2_with fail
  refine (Trim_E (x := x) hE6 (by simp)).mono ?_
  rintro e W6 ⟨t, rfl, htN, htn, hE7, -⟩
  replace htN := Lib.hid htN
  replace htn := Lib.hid htn
  go_wp2_with fail
  refine (same_E (x := d) (y := t) hE7 (by simp) (by simp)).mono ?_
  rintro e W7 ⟨rfl, hE8⟩
  rw [hdN.out, hdn.out, htN.out, htn.out, show sameB (lenL x.N) (lenL x.N) x.N x.N = true from by simp [sameB]]
  go_wp2_with fail
  refine (Add_EL hE8 (hR.env hE8) (by omega) (by omega)).mono ?_
  rintro e W8 ⟨all, rfl, haN, han, hE9, -⟩
  replace haN := Lib.hid haN
  replace han := Lib.hid han
  have hEA : Env w [all, x, y] W8 := ⟨hE9.1, fun z hz => hE9.2 z (by simp at hz ⊢; rcases hz with rfl | rfl | rfl <;> simp)⟩
  clear hE hE1 hE2 hE3 hE4 hE5 hE6 hE7 hE8 hE9 hsN hsn hsN' hsn' htN htn hdN hdn HS0 HS1 HG HG2
  go_wp2_with fail
  have HA := Lib.hid (Rds.env hR hEA)
  have hok0 : ∀ (g : Nat) (V : World), (Num.mk (some ⟨g, 0, none⟩) 0 0 0).ok V V.heap.size := fun g V => ⟨⟨by simp, fun h => absurd h (by simp)⟩, Nat.le_refl _, by simp [maxLen], by simp⟩
  have hE0 := ((hEA.alloc (.cells #[] 43)).alloc (.cells #[] 43)).add (hok0 (W8.heap.size + 1) _) |>.add (hok0 W8.heap.size _)
  have HE0 := Lib.hid hE0
  clear hok0 hE0
  go_loopw [11, 12, 13] (fun tv uv i wr => ∃ (k : Nat) (t u : Num), k ≤ l.length ∧ i = .int .i64 k ∧ tv = .slice t.A t.n t.c ∧ uv = .slice u.A u.n u.c ∧ Hid (t.N = lastN l k ∧ u.N = sumAt l k ∧ t.n = lenL t.N ∧ u.n = lenL u.N) ∧ t.n ≤ 1000 ∧ u.n ≤ 1000 ∧ Env w [t, u, all, x, y] wr) (fun _ _ i _ => l.length - (intOf i).toNat)
  case atStart => exact ⟨0, ⟨some ⟨W8.heap.size, 0, none⟩, 0, 0, 0⟩, ⟨some ⟨W8.heap.size + 1, 0, none⟩, 0, 0, 0⟩, Nat.zero_le _, rfl, rfl, rfl, Lib.hid ⟨(lastN_zero l).symm, rfl, rfl, rfl⟩, by simp, by simp, HE0.out⟩
  case round =>
    obtain ⟨k, t, u, hk, rfl, rfl, rfl, hN, ht, hu, hEr⟩ := hrel
    by_cases hlt : k < l.length
    · obtain ⟨j, hj⟩ : ∃ j, l.length = j + 1 + k := ⟨l.length - 1 - k, by omega⟩
      have hjl : j < l.length := by omega
      have hRr := hR.env hEr
      obtain ⟨⟨ad, rfl, hadb, hcj⟩, okj⟩ := hRr j hjl
      obtain ⟨⟨ad0, e0, hadb0, hckw⟩, _⟩ := hR k hlt
      cases e0
      obtain ⟨⟨ad', e', _, hck⟩, okk⟩ := hRr k hlt
      cases e'
      obtain ⟨xj, hxj⟩ : ∃ xj, l[j] = xj := ⟨_, rfl⟩
      obtain ⟨xk, hxk⟩ : ∃ xk, l[k] = xk := ⟨_, rfl⟩
      have HL1 := Lib.hid (lastN_succ hj hjl)
      have HL2 := Lib.hid (sumAt_succ hlt)
      rw [hxj] at HL1 hcj okj
      rw [hxk] at HL2 hck okk hckw
      have bj := hnb l[j] (List.getElem_mem hjl)
      have bk := hnb l[k] (List.getElem_mem hlt)
      rw [hxj] at bj
      rw [hxk] at bk
      have hidx : ((l.length : Int) - 1 - (k : Int)) = (j : Int) := by omega
      have hEr2 : Env w [xj, xk, t, u, all, x, y] wr := (hEr.add okk).add okj
      clear hxj hxk hj hRr okj okk
      go_wp2_with fail
      refine (Add_E2 (x := xj) (y := t) hEr2 (by simp) (by simp) rfl (by omega) (by omega)).mono ?_
      rintro e V1 ⟨r1, rfl, h1N, h1n, hV1, -⟩
      replace h1N := Lib.hid h1N
      replace h1n := Lib.hid h1n
      have hck1 := (hV1.1.cell (p := ad.add k) (by rw [add_block]; exact hadb0)).trans hckw
      have hckr : V1.cell? (ad.add k) = some (.slice xk.A xk.n xk.c) := hck1
      clear hck1 hcj hck
      go_wp2_with fail
      refine (Add_E2 (x := u) (y := xk) hV1 (by simp) (by simp) rfl (by omega) (by omega)).mono ?_
      rintro e V2 ⟨r2, rfl, h2N, h2n, hV2, -⟩
      have hEn : Env w [r1, r2, all, x, y] V2 := ⟨hV2.1, fun z hz => hV2.2 z (by simp at hz ⊢; rcases hz with rfl | rfl | rfl | rfl | rfl <;> simp)⟩
      have e1 : r1.N = lastN l (k + 1) := by rw [h1N.out, HL1.out, hN.out.1]
      have e2 : r2.N = sumAt l (k + 1) := by rw [h2N, HL2.out, hN.out.2.1]
      have n1' : r1.n = lenL r1.N := by rw [h1n.out, h1N.out]
      have n2' : r2.n = lenL r2.N := by rw [h2n, h2N]
      have HNn := Lib.hid (show r1.N = lastN l (k + 1) ∧ r2.N = sumAt l (k + 1) ∧ r1.n = lenL r1.N ∧ r2.n = lenL r2.N from ⟨e1, e2, n1', n2'⟩)
      have q1 : r1.n ≤ 1000 := by rw [n1', e1]; exact Nat.le_trans (lenL_mono (lastN_le l _)) (by omega)
      have q2 : r2.n ≤ 1000 := by rw [n2', e2]; exact Nat.le_trans (lenL_mono (sumAt_le l _)) (by omega)
      clear h2N h2n hV1 hV2 e1 e2 n1' n2' hidx hckr
      go_wp2
      go_roundw
      case rel => exact ⟨k + 1, r1, r2, by omega, by go_num, rfl, rfl, HNn, q1, q2, hEn⟩
      case measure => simp [intOf]; omega
    · obtain rfl : k = l.length := by omega
      have e1 : t.N = sumN l := by rw [hN.out.1, lastN_all]
      have e2 : u.N = sumN l := by rw [hN.out.2.1, sumAt_all]
      have eta : sameB all.n t.n all.N t.N = true := by
        rw [han.out, haN.out, hN.out.2.2.1, e1]
        simp [sameB]
      have etu : sameB all.n u.n all.N u.N = true := by
        rw [han.out, haN.out, hN.out.2.2.2, e2]
        simp [sameB]
      have ETA := Lib.hid eta
      have ETU := Lib.hid etu
      have hEf : Env w [t, u, all, x, y] wr := hEr
      clear e1 e2 eta etu hN hEr
      go_wp2_with fail
      refine (same_E (x := all) (y := t) hEf (by simp) (by simp)).mono ?_
      rintro e V1 ⟨rfl, hV1⟩
      rw [ETA.out]
      go_wp2_with fail
      refine (same_E (x := all) (y := u) hV1 (by simp) (by simp)).mono ?_
      rintro e V2 ⟨rfl, hV2⟩
      rw [ETU.out]
      go_wp2_with fail
      refine (Add_EL hV2 (hR.env hV2) (by omega) (by omega)).mono ?_
      rintro e V3 ⟨p, rfl, hpN, hpn, hV3, -⟩
      replace hpN := Lib.hid hpN
      have hpb : p.n ≤ 1000 := by rw [hpn]; omega
      clear hpn
      go_wp2_with fail
      refine (Add_E2 (x := x) (y := p) hV3 (by simp) (by simp) rfl (by omega) (by omega)).mono ?_
      rintro e V4 ⟨q, rfl, hqN, hqn, hV4, -⟩
      rw [hpN.out] at hqN hqn
      replace hqN := Lib.hid hqN
      replace hqn := Lib.hid hqn
      have hRV := hR.env hV4
      obtain ⟨i1, hi1, hy0, hy1, hy2⟩ := info_parts info_nat
      have okx := hV4.2 x (by simp)
      have hRa := rowV_read (hRV.below ((Below.refl _ _).alloc (Nat.le_refl _) (.cells #[.slice x.A x.n x.c] 23)))
      have HRa := Lib.hid hRa
      clear hRa
      go_wp2_with (at_builtin; refine wpList_append_row_w _ (by rfl) (.tmp 94) (.tmp 95) _ rfl V4.heap.size 23 i1 (.slice none 0 0) 24 Try.underlying24 hi1 hy0 hy1 hy2 rfl (.slice (some ⟨V4.heap.size, 0, none⟩) 1 1) 1 [.slice x.A x.n x.c] rfl (World.ownsRow_lit V4 #[.slice x.A x.n x.c] 1 (Nat.le_refl _) (by simp [maxLen]) rfl) A l.length c (rowV l) rfl (by simp [rowV]) HRa.out rowV_one (by simp only [maxLen]; omega) (by omega) (by simp) ?_; intro v5 V5 hown5 hg5 _)
      have hb5 : Below V4.heap.size V4 V5 := ((Below.refl _ V4).alloc (Nat.le_refl _) _).grown hg5 (by simp) (fun k e => by cases e; exact Nat.le_refl _)
      have hE5 := hV4.step hb5
      have hown' : V5.ownsRow V4.heap.size 23 1 v5 (x :: l).length (rowV (x :: l)) := by
        have : (x :: l).length = 1 + l.length := by simp; omega
        rw [this]
        exact hown5
      obtain ⟨A5, c5, rfl, hR5⟩ := Rds.of_own hown' (fun z hz => by
        rcases List.mem_cons.1 hz with rfl | hz
        · exact okx.later hb5
        · obtain ⟨k, hk, rfl⟩ := List.getElem_of_mem hz
          exact (hRV k hk).2.later hb5) (by simp)
      have hsx : sumN (x :: l) = x.N + sumN l := by simp [sumN]
      have hlx : lenL (x.N + sumN l) ≤ 1000 := by
        have hx5 := lt_pow_of okx.1.1 (show x.n ≤ 602 by omega)
        have hs5 := lenL_le.1 hsb
        have := lenL_add hx5 hs5
        omega
      have hAdd := Add_EL (c := c5) hE5 hR5 (by simp; omega) (by rw [hsx]; omega)
      rw [hsx] at hAdd
      have HAdd := Lib.hid hAdd
      clear hAdd hown' hown5 hg5 HRa okx hR5 hsx
      refine HAdd.out.mono ?_
      rintro e V6 ⟨r, rfl, hrN, hrn, hE6, -⟩
      have hss : sameB q.n r.n q.N r.N = true := by rw [hqn.out, hqN.out, hrn, hrN]; simp [sameB]
      have HSS := Lib.hid hss
      clear hss hrN hrn
      go_wp2_with fail
      refine (same_E (x := q) (y := r) hE6 (by simp) (by simp)).mono ?_
      rintro e V7 ⟨rfl, hE7⟩
      rw [HSS.out]
      go_wp2_with fail
      refine (wakes_E hE7).mono ?_
      rintro e V8 ⟨rfl, hE8⟩
      go_wp2
      go_ret
      exact ⟨rfl, hE8.1⟩
end Go.Proofs.Ytgkcfciicekhaaa
