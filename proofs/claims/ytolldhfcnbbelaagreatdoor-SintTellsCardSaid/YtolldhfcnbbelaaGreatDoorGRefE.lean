/- Contracts of straitref05.Told and straitlaw05.same, of two integers that are told: they are the same. -/
import Derived.Deep.RegionWith
import Derived.Test.YtolldhfcnbbelaaGreatDoorGSintA
import Derived.Test.YtolldhfcnbbelaaGreatDoorGRefA
import Derived.Test.YtolldhfcnbbelaaGreatDoorGSintB
import Derived.Test.YtolldhfcnbbelaaGreatDoorROf
namespace Go.Proofs.YtolldhfcnbbelaaGreatDoor
open Go Go.RowKit

/-- An integer as it is told. -/
def ToldZ (Z : Int) (b : Bool) (x : Num) : Prop := b = decide (Z < 0) ∧ x.N = Z.natAbs ∧ x.n = lenL Z.natAbs
theorem ToldZ.z {Z : Int} {b : Bool} {x : Num} (h : ToldZ Z b x) : zOf b x.N = Z := by rw [h.1, h.2.1, zOf_told]
theorem told_of {Z : Int} {x : Num} (h1 : x.N = Z.natAbs) (h2 : x.n = lenL Z.natAbs) : ToldZ Z (decide (Z < 0)) x := ⟨rfl, h1, h2⟩
variable {w W : World} {e : List Num} {x y : Num} {Z : Int} {b b' : Bool}

set_option maxHeartbeats 1000000 in
theorem rTold_E (h : Env w e W) (hx : x ∈ e) (hy : y ∈ e) (tx : ToldZ Z b x) (ty : ToldZ Z b' y) :
    Calls Tryz.prog 40 #[.agg #[.bool b, .slice x.A x.n x.c], .agg #[.bool b', .slice y.A y.n y.c]] W fun e' W' => e' = .returned (.bool true) ∧ Env w e W' := by
  have hs : sameB x.n y.n x.N y.N = true := by rw [tx.2.2, ty.2.2, tx.2.1, ty.2.1]; simp [sameB]
  obtain ⟨rfl, -⟩ := tx
  obtain ⟨rfl, -⟩ := ty
  obtain ⟨d, hd⟩ : ∃ d, decide (Z < 0) = d := ⟨_, rfl⟩
  rw [hd]
  have ES := rSame_E (x := x) (y := y) ((h.alloc (.cells #[.bool d, .slice x.A x.n x.c] 25)).alloc (.cells #[.bool d, .slice y.A y.n y.c] 25)) hx hy
  rw [hs] at ES
  have ES := Lib.hid ES
  clear hs h hd
  cases d
  all_goals
    go_enter Tryz.func40, Tryz.ntmps40
    go_wp2_with fail
    refine ES.out.mono ?_
    rintro e' W' ⟨rfl, hE⟩
    replace hE := Lib.hid hE
    go_wp2
    go_ret
    exact ⟨rfl, hE.out⟩

set_option maxHeartbeats 1000000 in
theorem same5_E (h : Env w e W) (hx : x ∈ e) (hy : y ∈ e) (tx : ToldZ Z b x) (ty : ToldZ Z b' y) :
    Calls Tryz.prog 10 #[.agg #[.bool b, .slice x.A x.n x.c], .agg #[.bool b', .slice y.A y.n y.c]] W fun e' W' => e' = .returned (.bool true) ∧ Env w e W' := by
  have HH := Lib.hid h
  clear h
  go_enter Tryz.func10, Tryz.ntmps10
  go_wp2_with fail
  refine (rTold_E ((HH.out.alloc _).alloc _) hx hy tx ty).mono ?_
  rintro e' W' ⟨rfl, hE⟩
  replace hE := Lib.hid hE
  go_wp2
  go_ret
  exact ⟨rfl, hE.out⟩
end Go.Proofs.YtolldhfcnbbelaaGreatDoor

/- The law's 'same' in a region that is told by facts. -/
namespace Go.Proofs.YtolldhfcnbbelaaGreatDoor
open Go Go.RowKit
variable {ops : Array Oper} {Q : Exit → Act → World → Prop} {C : World → Prop} {a : Act} {V : World} {i : Nat} {t : Tmp} {o : Oper} {F : Value → World → Prop}
variable {v1 v2 : Value} {Z1 Z2 : Int} {f : FuncId} (ho : ops[i]? = some o) (hd : o.dst = some t) (hw : Region.wanted o (yielded ops a.tmps) = true)
variable (hC : ∀ V', Below V.heap.size V V' → C V')
include ho hd hw hC
/-- The law's 'same', of two that are told and the same. -/
theorem fz_same (hf : f = 10) (hr : (execOp a.eval o).run Tryz.prog V = .ok (.enter f #[v1, v2]) V) (h : RepT Z1 v1 V) (h' : RepT Z2 v2 V) (he : Z1 = Z2) (hF : ∀ V', F (.bool true) V') :
    wpOp Tryz.prog ops Q i (fun a' w' => ∃ v, a' = a.put (some t) v ∧ F v w' ∧ Below V.heap.size V w' ∧ C w') a V := by
  subst hf he
  obtain ⟨r, rfl, h1, h2, h3⟩ := h
  obtain ⟨s, rfl, k1, k2, k3⟩ := h'
  refine step_call ho hd hw hr ((same5_E (w := V) (e := [r, s]) (Env.start (by simp [h3, k3])) (by simp) (by simp) (told_of h1 h2) (told_of k1 k2)).mono ?_)
  rintro e' V' ⟨rfl, hE⟩
  exact ⟨_, rfl, hF V', hE.1, hC _ hE.1⟩
end Go.Proofs.YtolldhfcnbbelaaGreatDoor

/- Contract of the reference's Norm of layer 5. -/
namespace Go.Proofs.YtolldhfcnbbelaaGreatDoor
open Go Go.RowKit

set_option maxRecDepth 100000 in
set_option maxHeartbeats 1000000 in
theorem rNorm_E {w W : World} {e : List Num} {x : Num} (b : Bool) (h : Env w e W) (hx : x ∈ e) :
    Calls Tryz.prog 20 #[.agg #[.bool b, .slice x.A x.n x.c]] W (Zs w e (zOf b x.N)) := by
  obtain ⟨h1, h2, h3, h4⟩ := (((h.alloc (.cells #[.bool b, .slice x.A x.n x.c] 25)).alloc (.cells #[.bool false, .slice none 0 0] 25))).2 x hx
  have hlx := lenL_le.2 h1.1
  have E := Lib.hid (rTrim_any _ _ _ _ _ h1 h2 h3 h4)
  have hE := Lib.hid h
  have B1 := Lib.hid ((Box2.new W 25 (.bool b) (.slice x.A x.n x.c)).alloc (.cells #[.bool false, .slice none 0 0] 25))
  have B2 := Lib.hid (Box2.new (W.alloc (.cells #[.bool b, .slice x.A x.n x.c] 25)) 25 (.bool false) (.slice none 0 0))
  rw [World.size_alloc] at B2
  have hsz : ((W.alloc (.cells #[.bool b, .slice x.A x.n x.c] 25)).alloc (.cells #[.bool false, .slice none 0 0] 25)).heap.size = W.heap.size + 2 := by simp
  clear h h1 h2 h3
  have hbl : ∀ W1, Below (W.heap.size + 2) ((W.alloc (.cells #[.bool b, .slice x.A x.n x.c] 25)).alloc (.cells #[.bool false, .slice none 0 0] 25)) W1 → Below W.heap.size W W1 := fun W1 hb => (((Below.refl _ W).alloc (Nat.le_refl _) _).alloc (by simp) _).trans (hb.mono (by omega))
  have fin : ∀ (b' : Bool) (A : Option Addr) (c : Nat) (W1 : World), zOf b x.N = zOf b' x.N → b' = decide (zOf b x.N < 0) → lenL x.N ≤ c → c ≤ maxLen → Hid (Fr W1 (W.heap.size + 2) W1.heap.size A (lenL x.N) x.N) → Below (W.heap.size + 2) ((W.alloc (.cells #[.bool b, .slice x.A x.n x.c] 25)).alloc (.cells #[.bool false, .slice none 0 0] 25)) W1 →
      Zs w e (zOf b x.N) (.returned (.agg #[.bool b', .slice A (lenL x.N) c])) ((W1.setCell ⟨W.heap.size + 1, 0, none⟩ (.bool b')).setCell ⟨W.heap.size + 1, 1, none⟩ (.slice A (lenL x.N) c)) := fun b' A c W1 _ hb g1 g2 g3 g4 =>
    ⟨⟨A, lenL x.N, c, x.N⟩, by rw [hb], by rw [zOf_abs], by rw [zOf_abs], hE.out.put2 (r := ⟨A, lenL x.N, c, x.N⟩) (hbl W1 g4) g3.out ⟨g1, g2, by show lenL x.N ≤ _; omega⟩ (by omega) (by omega) _ _⟩
  have FN := Lib.hid fin
  clear fin hbl
  cases b
  · go_enter Tryz.func20, Tryz.ntmps20
    go_wp2_with fail
    refine E.out.mono ?_
    rintro e1 W1 ⟨A, c, rfl, g1, g2, g3, g4⟩
    rw [hsz] at g3 g4
    obtain ⟨c1, c2, -, -⟩ := (B1.out.below g4 (by omega)).cells
    obtain ⟨c3, c4, c5, c6⟩ := (B2.out.below g4 (by omega)).cells
    have G3 := Lib.hid g3
    clear g3
    go_wp2
    refine bodyPost_ret (ret_box2 ((B2.out.below g4 (by omega)).set (.bool false) (.slice A (lenL x.N) c)) rfl rfl) rfl ?_
    exact FN.out false A c W1 rfl (by rw [zOf_false]; simp) g1 g2 G3 g4
  · go_enter Tryz.func20, Tryz.ntmps20
    go_wp2_with fail
    refine E.out.mono ?_
    rintro e1 W1 ⟨A, c, rfl, g1, g2, g3, g4⟩
    rw [hsz] at g3 g4
    obtain ⟨c1, c2, -, -⟩ := (B1.out.below g4 (by omega)).cells
    obtain ⟨c3, c4, c5, c6⟩ := (B2.out.below g4 (by omega)).cells
    have G3 := Lib.hid g3
    clear g3
    have hp : decide (0 < lenL x.N) = decide (x.N ≠ 0) := by
      rw [decide_eq_decide]
      have := @lenL_eq_zero x.N
      omega
    have HP := Lib.hid hp
    clear hp
    go_wp2
    rw [HP.out]
    refine bodyPost_ret (ret_box2 ((B2.out.below g4 (by omega)).set (.bool (decide (x.N ≠ 0))) (.slice A (lenL x.N) c)) rfl rfl) rfl ?_
    refine FN.out (decide (x.N ≠ 0)) A c W1 ?_ ?_ g1 g2 G3 g4
    · by_cases h0 : x.N = 0
      · rw [h0]; rfl
      · rw [decide_eq_true h0]
    · rw [zOf_true, decide_eq_decide]; omega
end Go.Proofs.YtolldhfcnbbelaaGreatDoor

/- Contract of the reference's Of of layer 5. -/
namespace Go.Proofs.YtolldhfcnbbelaaGreatDoor
open Go Go.RowKit

theorem len_u64 {N : Nat} (h : N < 18446744073709551616) : lenL N ≤ 2 := lenL_small.2 h

set_option maxRecDepth 100000 in
set_option maxHeartbeats 1000000 in
theorem rOf5_E {w W : World} {e : List Num} {n : Int} (h : Env w e W) (hn : -9223372036854775808 ≤ n ∧ n ≤ 9223372036854775807) :
    Calls Tryz.prog 18 #[.int .i64 n] W (Zs w e n) := by
  obtain ⟨n1, n2⟩ := hn
  obtain ⟨N, hN⟩ : ∃ N, n.natAbs = N := ⟨_, rfl⟩
  have hNb : N < 18446744073709551616 := by omega
  have E := Lib.hid (rOf_any (W.alloc (.cells #[.bool false, .slice none 0 0] 25)) N hNb)
  have B1 := Lib.hid (Box2.new W 25 (.bool false) (.slice none 0 0))
  have hsz : (W.alloc (.cells #[.bool false, .slice none 0 0] 25)).heap.size = W.heap.size + 1 := by simp
  have hbl : ∀ W1, Below (W.heap.size + 1) (W.alloc (.cells #[.bool false, .slice none 0 0] 25)) W1 → Below W.heap.size W W1 := fun W1 hb => ((Below.refl _ W).alloc (Nat.le_refl _) _).trans (hb.mono (by omega))
  have hl := len_u64 hNb
  have FN := Lib.hid (fun (A : Option Addr) (c : Nat) (W1 : World) (b' : Bool) (hb : b' = decide (n < 0)) (g1 : lenL N ≤ c) (g2 : c ≤ maxLen) (g3 : Hid (Fr W1 (W.heap.size + 1) W1.heap.size A (lenL N) N)) (g4 : Below (W.heap.size + 1) (W.alloc (.cells #[.bool false, .slice none 0 0] 25)) W1) =>
    (show Zs w e n (.returned (.agg #[.bool b', .slice A (lenL N) c])) ((W1.setCell ⟨W.heap.size, 0, none⟩ (.bool b')).setCell ⟨W.heap.size, 1, none⟩ (.slice A (lenL N) c)) from
      ⟨⟨A, lenL N, c, N⟩, by rw [hb], hN.symm, by rw [hN], h.put2 (r := ⟨A, lenL N, c, N⟩) (hbl W1 g4) g3.out ⟨g1, g2, by show lenL N ≤ _; omega⟩ (by omega) (by omega) _ _⟩))
  clear h hbl
  by_cases h0 : n < 0
  · have e1 : -(n + 1) + 1 = (N : Int) := by omega
    have hd : decide (n < 0) = true := by simp [h0]
    go_enter Tryz.func18, Tryz.ntmps18
    go_wp2_with fail
    refine E.out.mono ?_
    rintro e1 W1 ⟨A, c, rfl, g1, g2, g3, g4⟩
    rw [hsz] at g3 g4
    obtain ⟨c3, c4, c5, c6⟩ := (B1.out.below g4 (by omega)).cells
    have G3 := Lib.hid g3
    have HD := Lib.hid hd.symm
    clear g3 hd
    go_wp2
    refine bodyPost_ret (ret_box2 ((B1.out.below g4 (by omega)).set (.bool true) (.slice A (lenL N) c)) rfl rfl) rfl ?_
    exact FN.out A c W1 true HD.out g1 g2 G3 g4
  · have e1 : n = (N : Int) := by omega
    have HD := Lib.hid (show false = decide (n < 0) by simp; omega)
    subst e1
    go_enter Tryz.func18, Tryz.ntmps18
    go_wp2_with fail
    refine E.out.mono ?_
    rintro e1 W1 ⟨A, c, rfl, g1, g2, g3, g4⟩
    rw [hsz] at g3 g4
    obtain ⟨c3, c4, c5, c6⟩ := (B1.out.below g4 (by omega)).cells
    have G3 := Lib.hid g3
    clear g3
    go_wp2
    refine bodyPost_ret (ret_box2 ((B1.out.below g4 (by omega)).set (.bool false) (.slice A (lenL N) c)) rfl rfl) rfl ?_
    exact FN.out A c W1 false HD.out g1 g2 G3 g4
end Go.Proofs.YtolldhfcnbbelaaGreatDoor

/- Contract of straitlaw05.small, of an integer that is told as that small number. -/
namespace Go.Proofs.YtolldhfcnbbelaaGreatDoor
open Go Go.RowKit

set_option maxRecDepth 100000 in
set_option maxHeartbeats 2000000 in
theorem small5_E {w W : World} {e : List Num} {x : Num} {b : Bool} {n : Int} (h : Env w e W) (hx : x ∈ e) (hn : -9223372036854775808 ≤ n ∧ n ≤ 9223372036854775807) (tx : ToldZ n b x) :
    Calls Tryz.prog 29 #[.agg #[.bool b, .slice x.A x.n x.c], .int .i64 n] W fun e' W' => e' = .returned (.bool true) ∧ Env w e W' := by
  have HX := Lib.hid hx
  have TX := Lib.hid tx
  have HE := Lib.hid ((h.alloc (.cells #[.bool b, .slice x.A x.n x.c] 25)).step (Below.refl _ _).drew)
  have B1 := Lib.hid (Box2.new W 25 (.bool b) (.slice x.A x.n x.c))
  obtain ⟨c1, c2, -, -⟩ := B1.out.cells
  obtain ⟨W0, hW0⟩ : ∃ W0, (W.alloc (.cells #[.bool b, .slice x.A x.n x.c] 25)).drew = W0 := ⟨_, rfl⟩
  have EO := Lib.hid (rOf5_E (w := W0) (e := e) (Env.start (by rw [← hW0]; exact HE.out.2)) hn)
  have hs : W0.heap.size = W.heap.size + 1 := by rw [← hW0]; simp [World.drew]
  have B0 := Lib.hid (show Box2 W0 W.heap.size 25 (.bool b) (.slice x.A x.n x.c) from by rw [← hW0]; exact B1.out)
  have HB0 := Lib.hid (show Below w.heap.size w W0 by rw [← hW0]; exact HE.out.1)
  rw [← hW0] at EO
  have HW := Lib.hid hW0
  clear h hx tx hW0 HE
  go_enter Tryz.func29, Tryz.ntmps29
  go_wp2
  go_region_with (first
    | (go_at_call 18; (with_reducible refine EO.out.mono ?_); rintro e' W1 ⟨r, rfl, rN, rn, hE1⟩; rw [HW.out] at hE1; replace hE1 := Lib.hid hE1; replace rN := Lib.hid rN; replace rn := Lib.hid rn; have B2 := Lib.hid (B0.out.below hE1.out.1 (by omega)); have d1 := B2.out.cells.1; have d2 := B2.out.cells.2.1)
    | (go_at_call 40; (with_reducible refine (rTold_E (w := W0) hE1.out (by simp [HX.out]) (by simp) TX.out (told_of rN.out rn.out)).mono ?_); rintro e' W2 ⟨rfl, hE2⟩; replace hE2 := Lib.hid hE2))
  all_goals
    go_wp2
    go_ret
    exact ⟨rfl, (hE2.out.over HB0.out).pick (fun z hz => by simp [hz])⟩
end Go.Proofs.YtolldhfcnbbelaaGreatDoor

/- Contract of straitlaw05.wakes, over what the program's functions answer. -/
namespace Go.Proofs.YtolldhfcnbbelaaGreatDoor
open Go Go.RowKit

theorem len_small {Z : Int} {x : Num} (hn : -9223372036854775808 ≤ Z ∧ Z ≤ 9223372036854775807) (h : x.n = lenL Z.natAbs) : x.n ≤ 10000 := by
  have := len_u64 (show Z.natAbs < 18446744073709551616 by omega)
  omega
theorem z_told {Z : Int} {x : Num} (h : x.N = Z.natAbs) : zOf (decide (Z < 0)) x.N = Z := by rw [h, zOf_told]

set_option maxRecDepth 100000 in
set_option maxHeartbeats 4000000 in
theorem wakes5_E {w W : World} {e : List Num} (S : SintTold w) (h : Env w e W) :
    Calls Tryz.prog 5 #[] W fun e' W' => e' = .returned (.bool true) ∧ Env w e W' := by
  have hE0 := Lib.hid h.here
  replace S := S.later h.1
  have hW := Lib.hid h.1
  clear h
  go_enter Tryz.func5, Tryz.ntmps5
  go_wp2_with fail
  refine (S.of _ _ _ (-7) hE0.out.1 hE0.out (by omega)).mono ?_
  rintro e' V1 ⟨a, rfl, aN, an, hE1⟩
  replace hE1 := Lib.hid hE1
  replace aN := Lib.hid aN
  replace an := Lib.hid an
  go_wp2_with fail
  refine (S.of _ _ _ 2 hE1.out.1 hE1.out (by omega)).mono ?_
  rintro e' V2 ⟨b, rfl, bN, bn, hE2⟩
  replace hE2 := Lib.hid hE2
  replace bN := Lib.hid bN
  replace bn := Lib.hid bn
  go_wp2_with fail
  refine (S.div _ _ _ _ a _ b (-7) 2 hE2.out.1 hE2.out (by simp) (by simp) (len_small (by omega) an.out) (len_small (by omega) bn.out) (z_told aN.out) (z_told bN.out)).mono ?_
  rintro e' V3 ⟨q, r, rfl, qN, qn, rN, rn, hE3⟩
  replace hE3 := Lib.hid hE3
  replace qN := Lib.hid qN
  replace qn := Lib.hid qn
  replace rN := Lib.hid rN
  replace rn := Lib.hid rn
  have e1 : (-7 : Int).fdiv 2 = -4 := by decide
  have e2 : (if (2 : Int) = 0 then 0 else (-7 : Int).fmod 2) = 1 := by decide
  have e3 : (if (2 : Int) = 0 then (30 : Int) else 0) = 0 := by decide
  rw [e1, e2, e3]
  rw [e1] at qN qn
  rw [e2] at rN rn
  clear e1 e2 e3
  have B1 := Lib.hid ((Box2.new V3 25 (.bool true) (.slice q.A q.n q.c)).alloc (.cells #[.bool false, .slice r.A r.n r.c] 25))
  have B2 := Lib.hid (Box2.new (V3.alloc (.cells #[.bool true, .slice q.A q.n q.c] 25)) 25 (.bool false) (.slice r.A r.n r.c))
  rw [World.size_alloc] at B2
  have hE4 := Lib.hid ((hE3.out.alloc (.cells #[.bool true, .slice q.A q.n q.c] 25)).alloc (.cells #[.bool false, .slice r.A r.n r.c] 25))
  go_wp2_with fail
  obtain ⟨V4, hV4⟩ : ∃ V4, (V3.alloc (.cells #[.bool true, .slice q.A q.n q.c] 25)).alloc (.cells #[.bool false, .slice r.A r.n r.c] 25) = V4 := ⟨_, rfl⟩
  rw [hV4] at B1 B2 hE4 ⊢
  have s4 : V4.heap.size = V3.heap.size + 2 := by rw [← hV4]; simp
  clear hV4 hE0 hE1 hE2 hE3
  replace S := S.later hE4.out.1
  refine (S.of _ _ _ 7 hE4.out.here.1 hE4.out.here (by omega)).mono ?_
  rintro e' V5 ⟨c, rfl, cN, cn, hE5⟩
  replace hE5 := Lib.hid hE5
  replace cN := Lib.hid cN
  replace cn := Lib.hid cn
  go_wp2_with fail
  refine (S.of _ _ _ (-2) hE5.out.1 hE5.out (by omega)).mono ?_
  rintro e' V6 ⟨d, rfl, dN, dn, hE6⟩
  replace hE6 := Lib.hid hE6
  replace dN := Lib.hid dN
  replace dn := Lib.hid dn
  go_wp2_with fail
  refine (S.div _ _ _ _ c _ d 7 (-2) hE6.out.1 hE6.out (by simp) (by simp) (len_small (by omega) cn.out) (len_small (by omega) dn.out) (z_told cN.out) (z_told dN.out)).mono ?_
  rintro e' V7 ⟨p, s, rfl, pN, pn, sN, sn, hE7⟩
  have e1 : (7 : Int).fdiv (-2) = -4 := by decide
  have e2 : (if (-2 : Int) = 0 then 0 else (7 : Int).fmod (-2)) = -1 := by decide
  have e3 : (if (-2 : Int) = 0 then (30 : Int) else 0) = 0 := by decide
  rw [e1, e2, e3]
  rw [e1] at pN pn
  rw [e2] at sN sn
  clear e1 e2 e3
  replace hE7 := Lib.hid hE7
  replace pN := Lib.hid pN
  replace pn := Lib.hid pn
  replace sN := Lib.hid sN
  replace sn := Lib.hid sn
  have B3 := Lib.hid ((Box2.new V7 25 (.bool true) (.slice p.A p.n p.c)).alloc (.cells #[.bool true, .slice s.A s.n s.c] 25))
  have B4 := Lib.hid (Box2.new (V7.alloc (.cells #[.bool true, .slice p.A p.n p.c] 25)) 25 (.bool true) (.slice s.A s.n s.c))
  rw [World.size_alloc] at B4
  have hE8 := Lib.hid ((hE7.out.alloc (.cells #[.bool true, .slice p.A p.n p.c] 25)).alloc (.cells #[.bool true, .slice s.A s.n s.c] 25))
  go_wp2_with fail
  obtain ⟨V8, hV8⟩ : ∃ V8, (V7.alloc (.cells #[.bool true, .slice p.A p.n p.c] 25)).alloc (.cells #[.bool true, .slice s.A s.n s.c] 25) = V8 := ⟨_, rfl⟩
  rw [hV8] at B3 B4 hE8 ⊢
  have s8 : V8.heap.size = V7.heap.size + 2 := by rw [← hV8]; simp
  replace B1 := Lib.hid (B1.out.below hE8.out.1 (by omega))
  replace B2 := Lib.hid (B2.out.below hE8.out.1 (by omega))
  have s47 := hE7.out.1.size
  clear hV8 hE5 hE6 hE7
  replace S := S.later hE8.out.1
  refine (S.of _ _ _ (-9223372036854775808) hE8.out.here.1 hE8.out.here (by omega)).mono ?_
  rintro e' V9 ⟨m, rfl, mN, mn, hE9⟩
  replace hE9 := Lib.hid hE9
  replace mN := Lib.hid mN
  replace mn := Lib.hid mn
  go_wp2_with fail
  refine (S.small _ _ _ _ m (-9223372036854775808) hE9.out.1 hE9.out (by simp) (len_small (by omega) mn.out) (z_told mN.out)).mono ?_
  rintro e' V10 ⟨rfl, hE10⟩
  replace hE10 := Lib.hid hE10
  have e1 : fitsZ (-9223372036854775808) = true := by decide
  dsimp only
  rw [e1]
  have C0 := Lib.hid (B1.out.below hE10.out.1 (by omega))
  obtain ⟨x0, y0, -, -⟩ := C0.out.cells
  go_wp2_with fail
  refine (small5_E (x := q) (b := true) (n := -4) hE10.out (by simp) (by omega) ⟨by decide, qN.out, qn.out⟩).mono ?_
  rintro e' V11 ⟨rfl, hE11⟩
  replace hE11 := Lib.hid hE11
  have C1 := Lib.hid (B2.out.below hE11.out.1 (by omega))
  obtain ⟨x1, y1, -, -⟩ := C1.out.cells
  go_wp2_with fail
  refine (small5_E (x := r) (b := false) (n := 1) hE11.out (by simp) (by omega) ⟨by decide, rN.out, rn.out⟩).mono ?_
  rintro e' V12 ⟨rfl, hE12⟩
  replace hE12 := Lib.hid hE12
  have C2 := Lib.hid (B3.out.below hE12.out.1 (by omega))
  obtain ⟨x2, y2, -, -⟩ := C2.out.cells
  go_wp2_with fail
  refine (small5_E (x := p) (b := true) (n := -4) hE12.out (by simp) (by omega) ⟨by decide, pN.out, pn.out⟩).mono ?_
  rintro e' V13 ⟨rfl, hE13⟩
  replace hE13 := Lib.hid hE13
  have C3 := Lib.hid (B4.out.below hE13.out.1 (by omega))
  obtain ⟨x3, y3, -, -⟩ := C3.out.cells
  go_wp2_with fail
  refine (small5_E (x := s) (b := true) (n := -1) hE13.out (by simp) (by omega) ⟨by decide, sN.out, sn.out⟩).mono ?_
  rintro e' V14 ⟨rfl, hE14⟩
  replace hE14 := Lib.hid hE14
  go_wp2_with fail
  refine (S.of _ _ _ 5 hE14.out.1 hE14.out (by omega)).mono ?_
  rintro e' V15 ⟨u, rfl, uN, un, hE15⟩
  replace hE15 := Lib.hid hE15
  replace uN := Lib.hid uN
  replace un := Lib.hid un
  go_wp2_with fail
  refine (S.of _ _ _ (-8) hE15.out.1 hE15.out (by omega)).mono ?_
  rintro e' V16 ⟨v, rfl, vN, vn, hE16⟩
  replace hE16 := Lib.hid hE16
  replace vN := Lib.hid vN
  replace vn := Lib.hid vn
  go_wp2_with fail
  refine (sAdd2_E S (x := u) (y := v) (Z := 5) (Z' := -8) hE16.out (by simp) (by simp) rfl (len_small (by omega) un.out) (len_small (by omega) vn.out) (z_told uN.out) (z_told vN.out)).mono ?_
  rintro e' V17 ⟨t, rfl, tN, tn, hE17⟩
  rw [show (5 : Int) + -8 = -3 by decide] at tN tn
  replace hE17 := Lib.hid hE17
  replace tN := Lib.hid tN
  replace tn := Lib.hid tn
  go_wp2_with fail
  refine (small5_E (x := t) (b := true) (n := -3) hE17.out (by simp) (by omega) ⟨by decide, tN.out, tn.out⟩).mono ?_
  rintro e' V18 ⟨rfl, hE18⟩
  replace hE18 := Lib.hid hE18
  go_wp2_with fail
  refine (S.sign _ _ _ true ⟨none, 0, 0, 0⟩ 0 hE18.out.1 hE18.out.nought (by simp) (by simp) rfl).mono ?_
  rintro e' V19 ⟨rfl, hE19⟩
  replace hE19 := Lib.hid hE19
  dsimp only
  rw [show Int.sign 0 = 0 from rfl]
  go_wp2
  go_ret
  refine ⟨by rfl, ?_⟩
  have k1 := hE4.out.1
  have k2 := hE8.out.1
  have k3 : Env w (_ :: _) V19 := ((hE19.out.over k2).over k1).over hW.out
  exact k3.pick (fun z hz => by simp [hz])
end Go.Proofs.YtolldhfcnbbelaaGreatDoor

/- Contract of the reference's Great of layer 5. -/
namespace Go.Proofs.YtolldhfcnbbelaaGreatDoor
open Go Go.RowKit

/-- What 'Great' has counted. -/
def cnt5 (l : List Num) (k : Nat) : Nat := ((l.take k).map (fun x => min x.n 1000)).sum
theorem cnt5_succ {l : List Num} {k : Nat} (h : k < l.length) : cnt5 l (k + 1) = cnt5 l k + min l[k].n 1000 := by
  unfold cnt5
  rw [List.take_succ_eq_append_getElem h, List.map_append, List.sum_append]
  simp
theorem cnt5_le (l : List Num) (k : Nat) : cnt5 l k ≤ k * 1000 := by
  induction k with
  | zero => simp [cnt5]
  | succ k ih =>
    rcases Nat.lt_or_ge k l.length with h | h
    · rw [cnt5_succ h]; omega
    · have : cnt5 l (k + 1) = cnt5 l k := by unfold cnt5; rw [List.take_of_length_le h, List.take_of_length_le (by omega)]
      omega
def great5 (l : List Num) : Bool := decide (20 < l.length) || decide (60 < cnt5 l (min l.length 21))
theorem sum_min5 (l : List Num) (h : (l.map (fun x => min x.n 1000)).sum ≤ 60) : (l.map Num.n).sum ≤ 60 := by
  have : (l.map Num.n).sum = (l.map (fun x => min x.n 1000)).sum := by
    induction l with
    | nil => rfl
    | cons x l ih =>
      simp only [List.map_cons, List.sum_cons] at h ⊢
      rw [ih (by omega)]
      omega
  omega
/-- Numbers that are not too great: at most 20 of them, of 60 limbs together. -/
theorem great5_false {l : List Num} (h : great5 l = false) : l.length ≤ 20 ∧ sizeN l ≤ 60 := by
  simp only [great5, Bool.or_eq_false_iff, decide_eq_false_iff_not, Nat.not_lt] at h
  refine ⟨h.1, sum_min5 l ?_⟩
  have := h.2
  rw [Nat.min_eq_left (by omega)] at this
  unfold cnt5 at this
  rwa [List.take_length] at this

set_option maxHeartbeats 1000000 in
theorem great5_any (w : World) (hi : Nat) (A : Option Addr) (c : Nat) (l : List (Bool × Num)) (h : ZRds w hi A l) (hl : l.length ≤ 100000000000000) :
    Calls Tryz.prog 4 #[.slice A l.length c] w fun e w' => e = .returned (.bool (great5 (l.map Prod.snd))) ∧ w = w' := by
  go_enter Tryz.func4, Tryz.ntmps4
  go_wp2
  go_loop [3, 4] (fun m i => ∃ k : Nat, k ≤ l.length ∧ k ≤ 21 ∧ i = .int .i64 k ∧ m = .int .i64 (cnt5 (l.map Prod.snd) k : Nat)) (fun _ i => 21 - (intOf i).toNat)
  case atStart => exact ⟨0, Nat.zero_le _, by omega, rfl, rfl⟩
  case round =>
    obtain ⟨k, hk, hk2, rfl, rfl⟩ := hrel
    have hcb := cnt5_le (l.map Prod.snd) k
    by_cases hlt : k < l.length ∧ k ≤ 20
    · obtain ⟨h1, h2⟩ := hlt
      obtain ⟨⟨ad, rfl, _, _, hc⟩, hr, hr1, hr2, hr3⟩ := h k h1
      rw [add_field] at hc
      have HT := Lib.hid (show cnt5 (l.map Prod.snd) (k + 1) = cnt5 (l.map Prod.snd) k + min l[k].2.n 1000 by rw [cnt5_succ (by simpa using h1)]; simp)
      go_wp2
      all_goals
        go_round
        case rel => exact ⟨k + 1, by omega, by omega, by go_num, by rw [HT.out]; go_num⟩
        case measure => simp [intOf]; omega
    · have hend : (k = l.length ∨ (k < l.length ∧ k = 21)) := by omega
      have hmin : min l.length 21 = k := by omega
      clear hlt
      by_cases hbig : 20 < l.length
      · have HG := Lib.hid (show great5 (l.map Prod.snd) = true by simp [great5, hbig])
        rcases hend with h1 | ⟨h1, h2⟩
        · clear hmin
          obtain rfl : k = l.length := h1
          go_wp2
          all_goals (go_ret; exact ⟨by rw [HG.out]; rfl, rfl⟩)
        · have h3 : 20 < k := by omega
          clear h2 hmin
          go_wp2
          all_goals (go_ret; exact ⟨by rw [HG.out]; rfl, rfl⟩)
      · obtain rfl : k = l.length := by omega
        have HG := Lib.hid (show (decide (20 < (l.length : Int)) || decide (60 < (cnt5 (l.map Prod.snd) l.length : Int))) = great5 (l.map Prod.snd) by
          simp only [great5, List.length_map, hmin]
          congr 1
          · exact decide_eq_decide.2 (by omega)
          · exact decide_eq_decide.2 (by omega))
        clear hend hmin
        go_wp2
        all_goals (go_ret; exact ⟨ret_bool HG.out, rfl⟩)


section
variable {w W : World} {e : List Num} {x y z : Num} {b b' b'' : Bool} {g : Nat}
theorem great5_E2 (h : Env w e W) (hx : x ∈ e) (hy : y ∈ e) (hg : W.heap.size = g) :
    Calls Tryz.prog 4 #[.slice (some ⟨g, 0, none⟩) 2 2] (W.alloc (.cells #[.bool b, .slice x.A x.n x.c, .bool b', .slice y.A y.n y.c] 25)) fun e' W' => e' = .returned (.bool (great5 [x, y])) ∧ Env w e W' := by
  subst hg
  refine (great5_any _ _ _ 2 [(b, x), (b', y)] (ZRds.two b b' h hx hy) (by simp)).mono fun e' w' ⟨he, hw⟩ => ⟨he, ?_⟩
  rw [← hw]
  exact h.alloc _
theorem great5_E3 (h : Env w e W) (hx : x ∈ e) (hy : y ∈ e) (hz : z ∈ e) (hg : W.heap.size = g) :
    Calls Tryz.prog 4 #[.slice (some ⟨g, 0, none⟩) 3 3] (W.alloc (.cells #[.bool b, .slice x.A x.n x.c, .bool b', .slice y.A y.n y.c, .bool b'', .slice z.A z.n z.c] 25)) fun e' W' => e' = .returned (.bool (great5 [x, y, z])) ∧ Env w e W' := by
  subst hg
  refine (great5_any _ _ _ 3 [(b, x), (b', y), (b'', z)] (ZRds.three b b' b'' h hx hy hz) (by simp)).mono fun e' w' ⟨he, hw⟩ => ⟨he, ?_⟩
  rw [← hw]
  exact h.alloc _
theorem great5_EL {A : Option Addr} {c : Nat} {l : List (Bool × Num)} (h : Env w e W) (hR : ZRds W W.heap.size A l) (hl : l.length ≤ 100000000000000) :
    Calls Tryz.prog 4 #[.slice A l.length c] W fun e' W' => e' = .returned (.bool (great5 (l.map Prod.snd))) ∧ Env w e W' :=
  (great5_any W _ A c l hR hl).mono fun _ _ ⟨he, hw⟩ => ⟨he, by rw [← hw]; exact h⟩
end
theorem size5_2 {x y : Num} (h : great5 [x, y] = false) : x.n ≤ 60 ∧ y.n ≤ 60 := by
  have := (great5_false h).2
  simp [sizeN] at this
  omega
theorem size5_3 {x y z : Num} (h : great5 [x, y, z] = false) : x.n ≤ 60 ∧ y.n ≤ 60 ∧ z.n ≤ 60 := by
  have := (great5_false h).2
  simp [sizeN] at this
  omega
end Go.Proofs.YtolldhfcnbbelaaGreatDoor
