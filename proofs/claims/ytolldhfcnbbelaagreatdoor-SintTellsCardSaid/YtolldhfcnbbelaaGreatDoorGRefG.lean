/- Contracts of the reference's Neg, Sub, Cmp, Same of layer 5. -/
import Derived.Test.YtolldhfcnbbelaaGreatDoorGRefF
import Derived.Test.YtolldhfcnbbelaaGreatDoorRDiv
import Derived.Test.YtolldhfcnbbelaaGreatDoorGSintF
import Derived.Test.YtolldhfcnbbelaaGreatDoorRSmall
namespace Go.Proofs.YtolldhfcnbbelaaGreatDoor
open Go Go.RowKit
variable {w W : World} {e : List Num} {x y : Num}

set_option maxRecDepth 100000 in
set_option maxHeartbeats 2000000 in
theorem rNeg5_E {b : Bool} {Z Y : Int} (h : Env w e W) (hx : x ∈ e) (hz : zOf b x.N = Z) (hY : -Z = Y) :
    Calls Tryz.prog 22 #[.agg #[.bool b, .slice x.A x.n x.c]] W (Zs w e Y) := by
  have HE := (h.alloc (.cells #[.bool b, .slice x.A x.n x.c] 25)).alloc (.cells #[.bool false, .slice none 0 0] 25)
  have hs := h.1.size
  have B1 := (Box2.new W 25 (.bool b) (.slice x.A x.n x.c)).alloc (.cells #[.bool false, .slice none 0 0] 25)
  have B2 := Box2.new (W.alloc (.cells #[.bool b, .slice x.A x.n x.c] 25)) 25 (.bool false) (.slice none 0 0)
  rw [World.size_alloc] at B2
  obtain ⟨W1, hW1⟩ : ∃ W1, (W.alloc (.cells #[.bool b, .slice x.A x.n x.c] 25)).alloc (.cells #[.bool false, .slice none 0 0] 25) = W1 := ⟨_, rfl⟩
  rw [hW1] at HE B1 B2
  have HO := Lib.hid HE.1
  have EN := rNorm_E (!b) HE.here hx
  rw [show zOf (!b) x.N = Y by rw [← hY, ← hz]; cases b <;> simp [zOf]] at EN
  replace EN := Lib.hid EN
  replace HE := Lib.hid HE.here
  replace B2 := Lib.hid B2
  obtain ⟨c1, c2, -, -⟩ := B1.cells
  clear h hx hz hY B1
  go_enter Tryz.func22, Tryz.ntmps22
  go_wp2_with fail
  clear hW1
  refine EN.out.mono ?_
  rintro e2 W3 ⟨r, rfl, rN, rn, hE3⟩
  have hB3 := B2.out.below hE3.1 B2.out.lt
  obtain ⟨d1, d2, d3, d4⟩ := hB3.cells
  have HB3 := Lib.hid hB3
  have HZ := Lib.hid (zs_box HO.out HE.out hE3.1 (hE3.2 r (by simp)) hB3 (by omega) rN rn)
  clear hB3 hE3 rN rn c1 c2
  go_wp2
  exact bodyPost_ret (ret_box2 (HB3.out.set _ _) rfl rfl) rfl HZ.out

set_option maxRecDepth 100000 in
set_option maxHeartbeats 4000000 in
theorem rSub5_E {b b' : Bool} {Z Z' D : Int} (h : Env w e W) (hx : x ∈ e) (hy : y ∈ e) (lx : x.n ≤ 800) (ly : y.n ≤ 800) (hz : zOf b x.N = Z) (hz' : zOf b' y.N = Z') (hD : Z - Z' = D) :
    Calls Tryz.prog 28 #[.agg #[.bool b, .slice x.A x.n x.c], .agg #[.bool b', .slice y.A y.n y.c]] W (Zs w e D) := by
  obtain ⟨W1, hW1⟩ : ∃ W1, ((W.alloc (.cells #[.bool b, .slice x.A x.n x.c] 25)).alloc (.cells #[.bool b', .slice y.A y.n y.c] 25)).alloc (.cells #[.bool false, .slice none 0 0] 25) = W1 := ⟨_, rfl⟩
  have HE := ((h.alloc (.cells #[.bool b, .slice x.A x.n x.c] 25)).alloc (.cells #[.bool b', .slice y.A y.n y.c] 25)).alloc (.cells #[.bool false, .slice none 0 0] 25)
  have hs := h.1.size
  have B1 := ((Box2.new W 25 (.bool b) (.slice x.A x.n x.c)).alloc (.cells #[.bool b', .slice y.A y.n y.c] 25)).alloc (.cells #[.bool false, .slice none 0 0] 25)
  have B2 := (Box2.new (W.alloc (.cells #[.bool b, .slice x.A x.n x.c] 25)) 25 (.bool b') (.slice y.A y.n y.c)).alloc (.cells #[.bool false, .slice none 0 0] 25)
  have B4 := Box2.new ((W.alloc (.cells #[.bool b, .slice x.A x.n x.c] 25)).alloc (.cells #[.bool b', .slice y.A y.n y.c] 25)) 25 (.bool false) (.slice none 0 0)
  rw [World.size_alloc] at B2
  rw [World.size_alloc, World.size_alloc] at B4
  rw [hW1] at HE B1 B2 B4
  have HO := Lib.hid HE.1
  replace HE := Lib.hid HE.here
  replace B1 := Lib.hid B1
  replace B2 := Lib.hid B2
  replace B4 := Lib.hid B4
  have OX := Lib.hid (fun V (hb : Below W1.heap.size W1 V) => (HE.out.2 x hx).later hb)
  have OY := Lib.hid (fun V (hb : Below W1.heap.size W1 V) => (HE.out.2 y hy).later hb)
  have HLY := Lib.hid (show lenL Z'.natAbs ≤ 800 by rw [← hz', zOf_abs]; exact Nat.le_trans (lenL_le.2 (h.2 y hy).1.1) ly)
  have HPX := Lib.hid hz
  have HPY := Lib.hid hz'
  have HD := Lib.hid hD
  have HB := Lib.hid (And.intro lx ly)
  clear h hx hy hz hz' hD lx ly
  go_enter Tryz.func28, Tryz.ntmps28
  go_wp2
  clear hW1
  refine wp_region_facts 5 [5, 6, 7, 8, 9] (fun i v V => match i with
      | 0 => v = .agg #[.bool b, .slice x.A x.n x.c]
      | 1 => v = .agg #[.bool b', .slice y.A y.n y.c]
      | 2 => RepT (-Z') v V
      | 3 => RepRowK 800 [Z, -Z'] v V
      | _ => RepT D v V) (fun V => Below W1.heap.size W1 V) (by kernel_rfl) (by kernel_rfl) rfl (by decide) (by first | (simp; done) | (simp; done)) (Below.refl _ _).drew ?_ ?_ ?_
  · intro i v V V2 hf hb _
    match i, hf with
    | 0, hf => exact hf
    | 1, hf => exact hf
    | 2, hf => exact RepT.keep hf hb
    | 3, hf => exact RepRowK.keep hf hb
    | _ + 4, hf => exact RepT.keep hf hb
  · intro i t ht a V hC hF hd
    match i, ht with
    | 0, ht =>
      cases ht
      have h2 : a.tmps[2]?.getD undef = .pointer (some ⟨W.heap.size, 0, none⟩) := (hF.at_ 2 (by decide)).trans rfl
      obtain ⟨c00, c01, -, -⟩ := (B1.out.below hC B1.out.lt).cells
      obtain ⟨c10, c11, -, -⟩ := (B2.out.below hC B2.out.lt).cells
      exact step_value (v := .agg #[.bool b, .slice x.A x.n x.c]) rfl rfl (wanted_free rfl) (by go_simp) hC rfl
    | 1, ht =>
      cases ht
      have h3 : a.tmps[3]?.getD undef = .pointer (some ⟨W.heap.size + 1, 0, none⟩) := (hF.at_ 3 (by decide)).trans rfl
      obtain ⟨c00, c01, -, -⟩ := (B1.out.below hC B1.out.lt).cells
      obtain ⟨c10, c11, -, -⟩ := (B2.out.below hC B2.out.lt).cells
      exact step_value (v := .agg #[.bool b', .slice y.A y.n y.c]) rfl rfl (wanted_free rfl) (by go_simp) hC rfl
    | 2, ht =>
      cases ht
      have h6 : a.tmps[6]?.getD undef = .agg #[.bool b', .slice y.A y.n y.c] := (slot_eq a 6).symm.trans (hd 1 6 rfl (by kernel_rfl))
      have EN := rNeg5_E (w := V) (W := V) (e := [y]) (x := y) (b := b') (Z := Z') (Y := -Z') (Env.start (by simp only [List.mem_singleton, forall_eq]; exact OY.out V hC)) (by simp) HPY.out rfl
      refine step_call rfl rfl (wanted_free rfl) (call1_run ⟨_, rfl⟩ h6 (enters_of Tryz.func22 (by kernel_rfl) rfl)) (EN.mono ?_)
      rintro e2 V2 ⟨q, rfl, q1, q2, hE2⟩
      exact ⟨_, rfl, ⟨q, rfl, q1, q2, hE2.2 q (by simp)⟩, hE2.1, hC.trans (hE2.1.mono hC.size)⟩
    | 3, ht =>
      cases ht
      have h5 : a.tmps[5]?.getD undef = .agg #[.bool b, .slice x.A x.n x.c] := (slot_eq a 5).symm.trans (hd 0 5 rfl (by kernel_rfl))
      have r7 : RepT (-Z') (a.tmps.getD 7 undef) V := hd 2 7 rfl (by kernel_rfl)
      have h7 : a.tmps[7]?.getD undef = a.tmps.getD 7 undef := (slot_eq a 7).symm
      exact fk_two rfl rfl (wanted_free rfl) rfl h5 h7 ⟨b, x, rfl, HPX.out, HB.out.1, OX.out V hC⟩ (r7.zk (by rw [Int.natAbs_neg]; exact HLY.out)) (fun V2 hb => hC.trans (hb.mono hC.size))
    | 4, ht =>
      cases ht
      have r8 : RepRowK 800 [Z, -Z'] (a.tmps.getD 8 undef) V := hd 3 8 rfl (by kernel_rfl)
      have h8 : a.tmps[8]?.getD undef = a.tmps.getD 8 undef := (slot_eq a 8).symm
      exact fk_add rfl rfl (wanted_free rfl) (fun V2 hb => hC.trans (hb.mono hC.size)) (call1_run ⟨_, rfl⟩ h8 (enters_of Tryz.func24 (by kernel_rfl) rfl)) r8 (Nat.le_refl _) (by have := HD.out; simp; omega)
    | k + 5, ht => simp at ht
  · intro a2 V2 hC hF hf
    have p2 : a2.tmps[4]?.getD undef = .pointer (some ⟨W.heap.size + 1 + 1, 0, none⟩) := (hF.at_ 4 (by decide)).trans rfl
    obtain ⟨r, p8, n1, n2, hk⟩ := (hf 4 9 rfl : RepT D (a2.tmps.getD 9 undef) V2)
    rw [slot_eq] at p8
    have hdf : a2.defers = [] := hF.defers
    have hB2 := B4.out.below hC B4.out.lt
    obtain ⟨c1, c2, c3, c4⟩ := hB2.cells
    replace n1 := Lib.hid n1
    replace n2 := Lib.hid n2
    clear hf hF
    show wpList _ _ _ [_] a2 V2
    go_wp2
    exact bodyPost_ret (ret_box2 (hB2.set _ _) rfl (by simpa using p2)) (by first | exact hdf | simp | simpa using hdf) (zs_box HO.out HE.out hC hk hB2 (by omega) n1.out n2.out)

theorem sign_sub5 (a b : Int) : Int.sign (a - b) = cmpZ a b := by
  unfold cmpZ
  split
  · exact Int.sign_eq_neg_one_of_neg (by omega)
  · split
    · exact Int.sign_eq_one_of_pos (by omega)
    · rw [show a - b = 0 by omega]; rfl
set_option maxRecDepth 100000 in
set_option maxHeartbeats 2000000 in
theorem rCmp5_E {b b' : Bool} {Z Z' : Int} (h : Env w e W) (hx : x ∈ e) (hy : y ∈ e) (lx : x.n ≤ 800) (ly : y.n ≤ 800) (hz : zOf b x.N = Z) (hz' : zOf b' y.N = Z') :
    Calls Tryz.prog 14 #[.agg #[.bool b, .slice x.A x.n x.c], .agg #[.bool b', .slice y.A y.n y.c]] W fun e' W' => e' = .returned (.int .i64 (cmpZ Z Z')) ∧ Env w e W' := by
  obtain ⟨D, hD⟩ : ∃ D, Z - Z' = D := ⟨_, rfl⟩
  have HQ := Lib.hid (show D.sign = cmpZ Z Z' by rw [← hD]; exact sign_sub5 Z Z')
  have HE := ((h.alloc (.cells #[.bool b, .slice x.A x.n x.c] 25)).alloc (.cells #[.bool b', .slice y.A y.n y.c] 25))
  have ES := Lib.hid (rSub5_E HE hx hy lx ly hz hz' hD)
  clear h hx hy hz hz' hD HE lx ly
  go_enter Tryz.func14, Tryz.ntmps14
  go_wp2_with fail
  refine ES.out.mono ?_
  rintro e1 W2 ⟨r, rfl, rN, rn, hE2⟩
  have EG := Lib.hid (rSign5_E (b := decide (D < 0)) (Z := D) hE2 (x := r) (by simp) (by rw [rN, zOf_told]))
  clear rN rn hE2
  go_wp2_with fail
  refine EG.out.mono ?_
  rintro e2 W3 ⟨rfl, hE3⟩
  have HE3 := Lib.hid (hE3.pick (e' := e) (fun z hz => by simp [hz]))
  clear hE3
  go_wp2
  go_ret
  exact ⟨by rw [← HQ.out]; rfl, HE3.out⟩
theorem cmpZ_eq5 {Z Z' : Int} : (cmpZ Z Z' == 0) = decide (Z = Z') := by
  unfold cmpZ
  split
  · rw [decide_eq_false (by omega)]; rfl
  · split
    · rw [decide_eq_false (by omega)]; rfl
    · rw [decide_eq_true (by omega)]; rfl
set_option maxRecDepth 100000 in
set_option maxHeartbeats 1000000 in
theorem rSame5_E {b b' : Bool} {Z Z' : Int} (h : Env w e W) (hx : x ∈ e) (hy : y ∈ e) (lx : x.n ≤ 800) (ly : y.n ≤ 800) (hz : zOf b x.N = Z) (hz' : zOf b' y.N = Z') :
    Calls Tryz.prog 16 #[.agg #[.bool b, .slice x.A x.n x.c], .agg #[.bool b', .slice y.A y.n y.c]] W fun e' W' => e' = .returned (.bool (decide (Z = Z'))) ∧ Env w e W' := by
  have HE := ((h.alloc (.cells #[.bool b, .slice x.A x.n x.c] 25)).alloc (.cells #[.bool b', .slice y.A y.n y.c] 25))
  have EC := Lib.hid (rCmp5_E HE hx hy lx ly hz hz')
  have HQ := Lib.hid (cmpZ_eq5 (Z := Z) (Z' := Z'))
  clear h hx hy hz hz' HE lx ly
  go_enter Tryz.func16, Tryz.ntmps16
  go_wp2_with fail
  refine EC.out.mono ?_
  rintro e1 W2 ⟨rfl, hE2⟩
  have HE2 := Lib.hid hE2
  clear hE2
  go_wp2
  go_ret
  exact ⟨by rw [← HQ.out]; rfl, HE2.out⟩
end Go.Proofs.YtolldhfcnbbelaaGreatDoor

/- Contract of the reference's Div of layer 5: divided downwards. -/
namespace Go.Proofs.YtolldhfcnbbelaaGreatDoor
open Go Go.RowKit
variable {w W : World} {e : List Num} {x y : Num}

/-- The signs as they are told, and the quotient towards nought. -/
theorem trunc_same {Z Z' : Int} (h0 : Z' ≠ 0) (hc : ¬ ((decide (Z < 0) != decide (Z' < 0)) = true ∧ 0 < Z.natAbs % Z'.natAbs)) : zOf (decide (Z < 0) != decide (Z' < 0)) (Z.natAbs / Z'.natAbs) = Z.fdiv Z' := by
  by_cases hz : Z = 0
  · subst hz
    have e : Int.natAbs 0 / Z'.natAbs = 0 := by simp
    rw [e, show Int.fdiv 0 Z' = 0 by simp]
    unfold zOf
    split <;> rfl
  · have hu : unlk Z Z' = (decide (Z < 0) != decide (Z' < 0)) := by
      have h := unlk_cases Z Z'
      by_cases a : Z < 0 <;> by_cases b : Z' < 0
      · rw [decide_eq_true a, decide_eq_true b]
        cases hb : unlk Z Z'
        · rfl
        · have := h.1 hb; omega
      · rw [decide_eq_true a, decide_eq_false b]
        exact h.2 (by omega)
      · rw [decide_eq_false a, decide_eq_true b]
        exact h.2 (by omega)
      · rw [decide_eq_false a, decide_eq_false b]
        cases hb : unlk Z Z'
        · rfl
        · have := h.1 hb; omega
    rw [← hu] at hc ⊢
    exact (floor_same h0 hc).1
theorem trunc_more {Z Z' : Int} (h0 : Z' ≠ 0) (hc : (decide (Z < 0) != decide (Z' < 0)) = true) (hr : 0 < Z.natAbs % Z'.natAbs) : zOf true (Z.natAbs / Z'.natAbs) - 1 = Z.fdiv Z' := by
  have hz : Z ≠ 0 := by rintro rfl; simp at hr
  have hu : unlk Z Z' = true := by
    refine (unlk_cases Z Z').2 ?_
    by_cases a : Z < 0 <;> by_cases b : Z' < 0
    · rw [decide_eq_true a, decide_eq_true b] at hc; cases hc
    · omega
    · omega
    · rw [decide_eq_false a, decide_eq_false b] at hc; cases hc
  have := (floor_more h0 hu hr).1
  rw [hu, zOf_true] at this
  rw [zOf_true, ← this]
  omega
theorem floor_rest (Z Z' : Int) : Z - Z.fdiv Z' * Z' = Z.fmod Z' := by rw [Int.fmod_def, Int.mul_comm]
theorem fdiv_len {Z Z' : Int} {k : Nat} (h : lenL Z.natAbs ≤ k) : lenL (Z.fdiv Z').natAbs ≤ k + 1 := by
  have h1 := lenL_le.1 h
  rw [lenL_le]
  have h2 : (Z.fdiv Z').natAbs ≤ Z.natAbs + 1 := by
    by_cases h0 : Z' = 0
    · subst h0; simp
    have h1 := Nat.div_le_self Z.natAbs Z'.natAbs
    by_cases h : unlk Z Z' = true ∧ 0 < Z.natAbs % Z'.natAbs
    · rw [← (floor_more h0 h.1 h.2).1, zOf_abs]; omega
    · rw [← (floor_same h0 h).1, zOf_abs]; omega
  have := pow_pos_Bw k
  rw [Nat.pow_succ, Bw_eq] at *
  omega

set_option maxRecDepth 100000 in
set_option maxHeartbeats 16000000 in
theorem rDiv5_E {b b' : Bool} {Z Z' : Int} (h : Env w e W) (hx : x ∈ e) (hy : y ∈ e) (lx : x.n ≤ 100) (ly : y.n ≤ 100) (hz : zOf b x.N = Z) (hz' : zOf b' y.N = Z') :
    Calls Tryz.prog 9 #[.agg #[.bool b, .slice x.A x.n x.c], .agg #[.bool b', .slice y.A y.n y.c]] W fun e' W' =>
      ∃ q r : Num, e' = .returned (.tuple #[.agg #[.bool (decide (Z.fdiv Z' < 0)), .slice q.A q.n q.c], .agg #[.bool (decide ((if Z' = 0 then 0 else Z.fmod Z') < 0)), .slice r.A r.n r.c], .int .i64 (if Z' = 0 then 30 else 0)]) ∧
        q.N = (Z.fdiv Z').natAbs ∧ q.n = lenL (Z.fdiv Z').natAbs ∧ r.N = (if Z' = 0 then 0 else Z.fmod Z').natAbs ∧ r.n = lenL (if Z' = 0 then 0 else Z.fmod Z').natAbs ∧ Env w (q :: r :: e) W' := by
  obtain ⟨W1, hW1⟩ : ∃ W1, (((W.alloc (.cells #[.bool b, .slice x.A x.n x.c] 25)).alloc (.cells #[.bool b', .slice y.A y.n y.c] 25)).alloc (.cells #[.bool false, .slice none 0 0] 25)).alloc (.cells #[.bool false, .slice none 0 0] 25) = W1 := ⟨_, rfl⟩
  have HE := (((h.here.alloc (.cells #[.bool b, .slice x.A x.n x.c] 25)).alloc (.cells #[.bool b', .slice y.A y.n y.c] 25)).alloc (.cells #[.bool false, .slice none 0 0] 25)).alloc (.cells #[.bool false, .slice none 0 0] 25)
  have hs := h.1.size
  have B1 := (((Box2.new W 25 (.bool b) (.slice x.A x.n x.c)).alloc (.cells #[.bool b', .slice y.A y.n y.c] 25)).alloc (.cells #[.bool false, .slice none 0 0] 25)).alloc (.cells #[.bool false, .slice none 0 0] 25)
  have B2 := ((Box2.new (W.alloc (.cells #[.bool b, .slice x.A x.n x.c] 25)) 25 (.bool b') (.slice y.A y.n y.c)).alloc (.cells #[.bool false, .slice none 0 0] 25)).alloc (.cells #[.bool false, .slice none 0 0] 25)
  have B4 := (Box2.new ((W.alloc (.cells #[.bool b, .slice x.A x.n x.c] 25)).alloc (.cells #[.bool b', .slice y.A y.n y.c] 25)) 25 (.bool false) (.slice none 0 0)).alloc (.cells #[.bool false, .slice none 0 0] 25)
  have B5 := Box2.new (((W.alloc (.cells #[.bool b, .slice x.A x.n x.c] 25)).alloc (.cells #[.bool b', .slice y.A y.n y.c] 25)).alloc (.cells #[.bool false, .slice none 0 0] 25)) 25 (.bool false) (.slice none 0 0)
  rw [World.size_alloc] at B2
  rw [World.size_alloc, World.size_alloc] at B4
  rw [World.size_alloc, World.size_alloc, World.size_alloc] at B5
  rw [hW1] at HE B1 B2 B4 B5
  have HWW := Lib.hid HE.1
  have HO := Lib.hid h.1
  have HEW := Lib.hid h.here
  replace HE := Lib.hid HE.here
  have ED := rDiv_E HE.out hx hy (by omega) (by omega)
  replace B1 := Lib.hid B1
  replace B2 := Lib.hid B2
  replace B4 := Lib.hid B4
  replace B5 := Lib.hid B5
  have HPX := Lib.hid hz
  have HPY := Lib.hid hz'
  have HX := Lib.hid (And.intro hx hy)
  have HLZ := Lib.hid (show lenL Z.natAbs ≤ 100 ∧ lenL Z'.natAbs ≤ 100 by rw [← hz, ← hz', zOf_abs, zOf_abs]; exact ⟨Nat.le_trans (lenL_le.2 (h.2 x hx).1.1) lx, Nat.le_trans (lenL_le.2 (h.2 y hy).1.1) ly⟩)
  obtain ⟨c1, c2, -, -⟩ := B1.out.cells
  obtain ⟨c3, c4, -, -⟩ := B2.out.cells
  clear h hx hy hz hz' lx ly
  by_cases hy0 : y.N = 0
  · rw [show zeroE y.N = 30 by rw [hy0]; rfl] at ED
    have hZ0 : Z' = 0 := by rw [← HPY.out, hy0]; cases b' <;> rfl
    subst hZ0
    clear hy0
    replace ED := Lib.hid ED
    go_enter Tryz.func9, Tryz.ntmps9
    go_wp2_with fail
    clear hW1
    refine ED.out.mono ?_
    rintro e1 W5 ⟨q, r, rfl, -, -, -, -, hE5⟩
    have HC5 := HWW.out.trans (hE5.1.mono HWW.out.size)
    have hB4 := B4.out.below hE5.1 B4.out.lt
    have hB5 := B5.out.below hE5.1 B5.out.lt
    have hEn := hE5.nought
    obtain ⟨X, hX, hEX, x4, x5⟩ := div_box (q := ⟨none, 0, 0, 0⟩) (r := ⟨none, 0, 0, 0⟩) (b := false) (b' := false) HO.out HEW.out HC5 (hEn.2 _ (by simp)) (hEn.2 _ (by simp)) hB4 hB5 (by omega) (by omega) (by omega)
    have hB5b := hB5.keptset (g := W.heap.size + 1 + 1) (by omega) (.bool false) (.slice none 0 0)
    obtain ⟨p1, p2, p3, p4⟩ := hB4.cells
    obtain ⟨q1, q2, q3, q4⟩ := hB5b.cells
    obtain ⟨r1, r2, r3, r4⟩ := hB5.cells
    have HEX := Lib.hid hEX
    replace x4 := Lib.hid x4
    replace x5 := Lib.hid x5
    clear hE5 HC5 hB4 hB5 hEn hEX hB5b ED c1 c2 c3 c4
    dsimp only at hX
    go_wp2
    try rw [hX]
    refine bodyPost_ret (ret_div x4.out x5.out rfl rfl rfl rfl) rfl ?_
    exact ⟨⟨none, 0, 0, 0⟩, ⟨none, 0, 0, 0⟩, by simp, by simp, by simp [lenL_zero], by simp, by simp [lenL_zero], HEX.out⟩
  · have hm : y.N = Z'.natAbs := by rw [← HPY.out, zOf_abs]
    have hn : x.N = Z.natAbs := by rw [← HPX.out, zOf_abs]
    have hZ0 : Z' ≠ 0 := by intro h; rw [h] at hm; exact hy0 hm
    rw [show zeroE y.N = 0 by simp [zeroE, hy0], restN_pos hy0, hn, hm] at ED
    replace ED := Lib.hid ED
    have HZ := Lib.hid hZ0
    clear hy0 hm hn hZ0
    go_enter Tryz.func9, Tryz.ntmps9
    go_wp2_with fail
    clear hW1
    refine ED.out.mono ?_
    rintro e1 W5 ⟨q, r, rfl, qN, qn, rN, rn, hE5⟩
    have HC5 := Lib.hid (HWW.out.trans (hE5.1.mono HWW.out.size))
    replace B1 := Lib.hid (B1.out.below hE5.1 B1.out.lt)
    replace B2 := Lib.hid (B2.out.below hE5.1 B2.out.lt)
    replace B4 := Lib.hid (B4.out.below hE5.1 B4.out.lt)
    replace B5 := Lib.hid (B5.out.below hE5.1 B5.out.lt)
    have HE5 := Lib.hid hE5.here
    have HEW5 := Lib.hid (hE5.over HWW.out)
    replace qN := Lib.hid qN
    replace qn := Lib.hid qn
    replace rN := Lib.hid rN
    replace rn := Lib.hid rn
    have OX := Lib.hid (fun V (hb : Below W5.heap.size W5 V) => (HE5.out.2 x (by simp [HX.out.1])).later hb)
    have OY := Lib.hid (fun V (hb : Below W5.heap.size W5 V) => (HE5.out.2 y (by simp [HX.out.2])).later hb)
    clear hE5 ED c1 c2 c3 c4 HE
    go_wp2
    refine wp_region_facts 4 [25, 26, 27, 28] (fun i v V => match i with
        | 0 => v = .agg #[.bool b, .slice x.A x.n x.c]
        | 1 => RepT Z v V
        | 2 => v = .agg #[.bool b', .slice y.A y.n y.c]
        | _ => RepT Z' v V) (fun V => Below W5.heap.size W5 V) (by kernel_rfl) (by kernel_rfl) rfl (by decide) (by first | (simp; done) | (simp; done)) (Below.refl _ _).drew ?_ ?_ ?_
    · intro i v V V2 hf hb _
      match i, hf with
      | 0, hf => exact hf
      | 1, hf => exact RepT.keep hf hb
      | 2, hf => exact hf
      | _ + 3, hf => exact RepT.keep hf hb
    · intro i t ht a V hC hF hd
      match i, ht with
      | 0, ht =>
        cases ht
        have h2 : a.tmps[2]?.getD undef = .pointer (some ⟨W.heap.size, 0, none⟩) := (hF.at_ 2 (by decide)).trans rfl
        obtain ⟨c00, c01, -, -⟩ := (B1.out.below hC B1.out.lt).cells
        obtain ⟨c10, c11, -, -⟩ := (B2.out.below hC B2.out.lt).cells
        exact step_value (v := .agg #[.bool b, .slice x.A x.n x.c]) rfl rfl (wanted_free rfl) (by go_simp) hC rfl
      | 1, ht =>
        cases ht
        have h25 : a.tmps[25]?.getD undef = .agg #[.bool b, .slice x.A x.n x.c] := (slot_eq a 25).symm.trans (hd 0 25 rfl (by kernel_rfl))
        have EN := rNorm_E b (w := V) (W := V) (e := [x]) (x := x) (Env.start (by simp only [List.mem_singleton, forall_eq]; exact OX.out V hC)) (by simp)
        rw [HPX.out] at EN
        refine step_call rfl rfl (wanted_free rfl) (call1_run ⟨_, rfl⟩ h25 (enters_of Tryz.func20 (by kernel_rfl) rfl)) (EN.mono ?_)
        rintro e2 V2 ⟨q, rfl, q1, q2, hE2⟩
        exact ⟨_, rfl, ⟨q, rfl, q1, q2, hE2.2 q (by simp)⟩, hE2.1, hC.trans (hE2.1.mono hC.size)⟩
      | 2, ht =>
        cases ht
        have h3 : a.tmps[3]?.getD undef = .pointer (some ⟨W.heap.size + 1, 0, none⟩) := (hF.at_ 3 (by decide)).trans rfl
        obtain ⟨c00, c01, -, -⟩ := (B1.out.below hC B1.out.lt).cells
        obtain ⟨c10, c11, -, -⟩ := (B2.out.below hC B2.out.lt).cells
        exact step_value (v := .agg #[.bool b', .slice y.A y.n y.c]) rfl rfl (wanted_free rfl) (by go_simp) hC rfl
      | 3, ht =>
        cases ht
        have h27 : a.tmps[27]?.getD undef = .agg #[.bool b', .slice y.A y.n y.c] := (slot_eq a 27).symm.trans (hd 2 27 rfl (by kernel_rfl))
        have EN := rNorm_E b' (w := V) (W := V) (e := [y]) (x := y) (Env.start (by simp only [List.mem_singleton, forall_eq]; exact OY.out V hC)) (by simp)
        rw [HPY.out] at EN
        refine step_call rfl rfl (wanted_free rfl) (call1_run ⟨_, rfl⟩ h27 (enters_of Tryz.func20 (by kernel_rfl) rfl)) (EN.mono ?_)
        rintro e2 V2 ⟨q, rfl, q1, q2, hE2⟩
        exact ⟨_, rfl, ⟨q, rfl, q1, q2, hE2.2 q (by simp)⟩, hE2.1, hC.trans (hE2.1.mono hC.size)⟩
      | k + 4, ht => simp at ht
    · intro a2 V2 hC hF hf
      obtain ⟨p, pp, p1, p2, pk⟩ := (hf 1 26 rfl : RepT Z (a2.tmps.getD 26 undef) V2)
      obtain ⟨s, ps, s1, s2, sk⟩ := (hf 3 28 rfl : RepT Z' (a2.tmps.getD 28 undef) V2)
      have hlit := act_eq (a := a2) [.agg #[.bool b, .slice x.A x.n x.c], .agg #[.bool b', .slice y.A y.n y.c], .pointer (some ⟨W.heap.size, 0, none⟩), .pointer (some ⟨W.heap.size + 1, 0, none⟩), .pointer (some ⟨W.heap.size + 1 + 1, 0, none⟩), .pointer (some ⟨W.heap.size + 1 + 1 + 1, 0, none⟩), .int .i64 0, .slice q.A q.n q.c, .slice r.A r.n r.c, .int .i64 0, undef, .tuple #[.slice q.A q.n q.c, .slice r.A r.n r.c, .int .i64 0], .pointer (some ⟨W.heap.size, 1, none⟩), .slice x.A x.n x.c, .pointer (some ⟨W.heap.size + 1, 1, none⟩), .slice y.A y.n y.c, .tuple #[.slice q.A q.n q.c, .slice r.A r.n r.c, .int .i64 0], .slice q.A q.n q.c, .slice r.A r.n r.c, .int .i64 0, .int .i64 0, .bool false, undef, undef, undef, .agg #[.bool b, .slice x.A x.n x.c], .agg #[.bool (decide (Z < 0)), .slice p.A p.n p.c], .agg #[.bool b', .slice y.A y.n y.c], .agg #[.bool (decide (Z' < 0)), .slice s.A s.n s.c], undef, undef, undef, undef, undef, undef, undef, undef, undef, undef, undef, undef, undef, undef, undef, undef, undef, undef, undef, undef, undef, undef, undef, undef, undef, undef, undef, undef] (by simpa using hF.size) hF.defers (fun i hi => match i, hi with
        | 0, _ => (hF.same 0 (by decide)).trans rfl
        | 1, _ => (hF.same 1 (by decide)).trans rfl
        | 2, _ => (hF.same 2 (by decide)).trans rfl
        | 3, _ => (hF.same 3 (by decide)).trans rfl
        | 4, _ => (hF.same 4 (by decide)).trans rfl
        | 5, _ => (hF.same 5 (by decide)).trans rfl
        | 6, _ => (hF.same 6 (by decide)).trans rfl
        | 7, _ => (hF.same 7 (by decide)).trans rfl
        | 8, _ => (hF.same 8 (by decide)).trans rfl
        | 9, _ => (hF.same 9 (by decide)).trans rfl
        | 10, _ => (hF.same 10 (by decide)).trans rfl
        | 11, _ => (hF.same 11 (by decide)).trans rfl
        | 12, _ => (hF.same 12 (by decide)).trans rfl
        | 13, _ => (hF.same 13 (by decide)).trans rfl
        | 14, _ => (hF.same 14 (by decide)).trans rfl
        | 15, _ => (hF.same 15 (by decide)).trans rfl
        | 16, _ => (hF.same 16 (by decide)).trans rfl
        | 17, _ => (hF.same 17 (by decide)).trans rfl
        | 18, _ => (hF.same 18 (by decide)).trans rfl
        | 19, _ => (hF.same 19 (by decide)).trans rfl
        | 20, _ => (hF.same 20 (by decide)).trans rfl
        | 21, _ => (hF.same 21 (by decide)).trans rfl
        | 22, _ => (hF.same 22 (by decide)).trans rfl
        | 23, _ => (hF.same 23 (by decide)).trans rfl
        | 24, _ => (hF.same 24 (by decide)).trans rfl
        | 25, _ => (hf 0 25 rfl : a2.tmps.getD 25 undef = _)
        | 26, _ => pp
        | 27, _ => (hf 2 27 rfl : a2.tmps.getD 27 undef = _)
        | 28, _ => ps
        | 29, _ => (hF.same 29 (by decide)).trans rfl
        | 30, _ => (hF.same 30 (by decide)).trans rfl
        | 31, _ => (hF.same 31 (by decide)).trans rfl
        | 32, _ => (hF.same 32 (by decide)).trans rfl
        | 33, _ => (hF.same 33 (by decide)).trans rfl
        | 34, _ => (hF.same 34 (by decide)).trans rfl
        | 35, _ => (hF.same 35 (by decide)).trans rfl
        | 36, _ => (hF.same 36 (by decide)).trans rfl
        | 37, _ => (hF.same 37 (by decide)).trans rfl
        | 38, _ => (hF.same 38 (by decide)).trans rfl
        | 39, _ => (hF.same 39 (by decide)).trans rfl
        | 40, _ => (hF.same 40 (by decide)).trans rfl
        | 41, _ => (hF.same 41 (by decide)).trans rfl
        | 42, _ => (hF.same 42 (by decide)).trans rfl
        | 43, _ => (hF.same 43 (by decide)).trans rfl
        | 44, _ => (hF.same 44 (by decide)).trans rfl
        | 45, _ => (hF.same 45 (by decide)).trans rfl
        | 46, _ => (hF.same 46 (by decide)).trans rfl
        | 47, _ => (hF.same 47 (by decide)).trans rfl
        | 48, _ => (hF.same 48 (by decide)).trans rfl
        | 49, _ => (hF.same 49 (by decide)).trans rfl
        | 50, _ => (hF.same 50 (by decide)).trans rfl
        | 51, _ => (hF.same 51 (by decide)).trans rfl
        | 52, _ => (hF.same 52 (by decide)).trans rfl
        | 53, _ => (hF.same 53 (by decide)).trans rfl
        | 54, _ => (hF.same 54 (by decide)).trans rfl
        | 55, _ => (hF.same 55 (by decide)).trans rfl
        | 56, _ => (hF.same 56 (by decide)).trans rfl
        | _ + 57, h => absurd h (by simp only [List.length_cons, List.length_nil]; omega))
      subst hlit
      have hB1 := B1.out.below hC B1.out.lt
      have hB2 := B2.out.below hC B2.out.lt
      have hB2b := hB2.keptset (g := W.heap.size) (by omega) (.bool (decide (Z < 0))) (.slice p.A p.n p.c)
      have hb4 := ((B4.out.below hC B4.out.lt).keptset (g := W.heap.size) (by omega) (.bool (decide (Z < 0))) (.slice p.A p.n p.c)).keptset (g := W.heap.size + 1) (by omega) (.bool (decide (Z' < 0))) (.slice s.A s.n s.c)
      have hb5 := ((B5.out.below hC B5.out.lt).keptset (g := W.heap.size) (by omega) (.bool (decide (Z < 0))) (.slice p.A p.n p.c)).keptset (g := W.heap.size + 1) (by omega) (.bool (decide (Z' < 0))) (.slice s.A s.n s.c)
      have hb1 := (hB1.set (.bool (decide (Z < 0))) (.slice p.A p.n p.c)).keptset (g := W.heap.size + 1) (by omega) (.bool (decide (Z' < 0))) (.slice s.A s.n s.c)
      have hb2 := hB2b.set (.bool (decide (Z' < 0))) (.slice s.A s.n s.c)
      have hEV : Env W (p :: s :: q :: r :: e) V2 := ⟨HC5.out.trans (hC.mono HC5.out.size), fun z hz => by
        rcases List.mem_cons.1 hz with rfl | hz
        · exact pk
        rcases List.mem_cons.1 hz with rfl | hz
        · exact sk
        · exact (HE5.out.2 z hz).later hC⟩
      have hEX := (hEV.setbox hB1 (Nat.le_refl _) (decide (Z < 0)) (.slice p.A p.n p.c)).setbox hB2b (by omega) (decide (Z' < 0)) (.slice s.A s.n s.c)
      obtain ⟨X, hX⟩ : ∃ X, (((V2.setCell ⟨W.heap.size, 0, none⟩ (.bool (decide (Z < 0)))).setCell ⟨W.heap.size, 1, none⟩ (.slice p.A p.n p.c)).setCell ⟨W.heap.size + 1, 0, none⟩ (.bool (decide (Z' < 0)))).setCell ⟨W.heap.size + 1, 1, none⟩ (.slice s.A s.n s.c) = X := ⟨_, rfl⟩
      rw [hX] at hb4 hb5 hb1 hb2 hEX
      obtain ⟨c1, c2, c3, c4⟩ := hB1.cells
      obtain ⟨d1, d2, d3, d4⟩ := hB2b.cells
      obtain ⟨f1, f2, f3, f4⟩ := hB2.cells
      obtain ⟨g1, g2, -, -⟩ := hb1.cells
      obtain ⟨g3, g4, -, -⟩ := hb2.cells
      have X1 := Lib.hid hb1
      have X2 := Lib.hid hb2
      have X4 := Lib.hid hb4
      have X5 := Lib.hid hb5
      have HEX := Lib.hid hEX
      replace p1 := Lib.hid p1
      replace p2 := Lib.hid p2
      replace s1 := Lib.hid s1
      replace s2 := Lib.hid s2
      have hlt := lenL_eq_zero (N := r.N)
      have hrl : r.n = lenL r.N := by rw [rn.out, rN.out]
      have HLQ := Lib.hid (fdiv_len (Z' := Z') HLZ.out.1)
      have HFR := Lib.hid (floor_rest Z Z')
      obtain ⟨Q, hQ⟩ : ∃ Q, Z.fdiv Z' = Q := ⟨_, rfl⟩
      obtain ⟨R, hR⟩ : ∃ R, Z.fmod Z' = R := ⟨_, rfl⟩
      have x2' : (if Z' = 0 then 0 else Z.fmod Z') = R := by rw [if_neg HZ.out, hR]
      have x3' : (if Z' = 0 then (30 : Int) else 0) = 0 := if_neg HZ.out
      have POST : ∀ (u v : Num) (X9 : World), u.N = Q.natAbs → u.n = lenL Q.natAbs → v.N = R.natAbs → v.n = lenL R.natAbs → Env w (u :: v :: e) X9 → ∃ q r : Num, Ending.returned (.tuple #[.agg #[.bool (decide (Q < 0)), .slice u.A u.n u.c], .agg #[.bool (decide (R < 0)), .slice v.A v.n v.c], .int .i64 0]) = .returned (.tuple #[.agg #[.bool (decide (Z.fdiv Z' < 0)), .slice q.A q.n q.c], .agg #[.bool (decide ((if Z' = 0 then 0 else Z.fmod Z') < 0)), .slice r.A r.n r.c], .int .i64 (if Z' = 0 then 30 else 0)]) ∧
          q.N = (Z.fdiv Z').natAbs ∧ q.n = lenL (Z.fdiv Z').natAbs ∧ r.N = (if Z' = 0 then 0 else Z.fmod Z').natAbs ∧ r.n = lenL (if Z' = 0 then 0 else Z.fmod Z').natAbs ∧ Env w (q :: r :: e) X9 := fun u v X9 h1 h2 h3 h4 h5 => by
        rw [x2', x3', hQ]
        exact ⟨u, v, rfl, h1, h2, h3, h4, h5⟩
      replace POST := Lib.hid POST
      rw [hQ] at HLQ HFR
      rw [hR] at HFR
      have hXd := HEX.out.1.size
      have hX2 : W.heap.size + 3 < X.heap.size := X5.out.lt
      clear hf hF hC hB1 hB2 hB2b hb1 hb2 hb4 hb5 hEV hEX pk sk pp ps B1 B2 B4 B5 HE5 HEW5 OX OY x2' x3'
      show wpList _ _ _ [_, _] _ V2
      by_cases hcc : (decide (Z < 0) != decide (Z' < 0)) = true ∧ 0 < Z.natAbs % Z'.natAbs
      · have hmr := trunc_more HZ.out hcc.1 hcc.2
        have hr0 : 0 < r.n := by have := rN.out; have := hcc.2; omega
        have EN0 := rNorm_E true HEX.out.here (x := q) (by simp)
        obtain ⟨T, hT⟩ : ∃ T, zOf true (Z.natAbs / Z'.natAbs) = T := ⟨_, rfl⟩
        rw [qN.out, hT] at EN0
        rw [hT, hQ] at hmr
        have HMR := Lib.hid hmr
        have hct : (decide (Z < 0) == decide (Z' < 0)) = false := by have := hcc.1; revert this; generalize decide (Z < 0) = d1; generalize decide (Z' < 0) = d2; cases d1 <;> cases d2 <;> simp
        replace EN0 := Lib.hid EN0
        clear hcc hmr hT hlt hrl hQ hR
        go_wp2_with fail
        clear hX
        refine EN0.out.mono ?_
        rintro e2 W7 ⟨u, rfl, uN, un, hE7⟩
        have hY1 := ((X1.out.below hE7.1 X1.out.lt).alloc (.cells #[.bool (decide (T < 0)), .slice u.A u.n u.c] 25))
        have hY2 := ((X2.out.below hE7.1 X2.out.lt).alloc (.cells #[.bool (decide (T < 0)), .slice u.A u.n u.c] 25))
        have hY4 := ((X4.out.below hE7.1 X4.out.lt).alloc (.cells #[.bool (decide (T < 0)), .slice u.A u.n u.c] 25))
        have hY5 := ((X5.out.below hE7.1 X5.out.lt).alloc (.cells #[.bool (decide (T < 0)), .slice u.A u.n u.c] 25))
        have hYV := Box2.new W7 25 (.bool (decide (T < 0))) (.slice u.A u.n u.c)
        have hEY := (hE7.over HEX.out.1).alloc (.cells #[.bool (decide (T < 0)), .slice u.A u.n u.c] 25)
        have hg7 := hE7.1.size
        obtain ⟨g7, hg⟩ : ∃ g7, W7.heap.size = g7 := ⟨_, rfl⟩
        obtain ⟨Y, hY⟩ : ∃ Y, W7.alloc (.cells #[.bool (decide (T < 0)), .slice u.A u.n u.c] 25) = Y := ⟨_, rfl⟩
        rw [hY] at hY1 hY2 hY4 hY5 hYV hEY
        rw [hg] at hYV hg7
        have Y1 := Lib.hid hY1
        have Y2 := Lib.hid hY2
        have Y4 := Lib.hid hY4
        have Y5 := Lib.hid hY5
        have YV := Lib.hid hYV
        have HEY := Lib.hid hEY
        replace uN := Lib.hid uN
        replace un := Lib.hid un
        clear hY1 hY2 hY4 hY5 hYV hEY hE7
        have m1 := (Y1.out.cells).1
        have m3 := (Y2.out.cells).1
        go_wp2
        clear hY m1 m3
        have HTL := Lib.hid (show lenL T.natAbs ≤ 800 by have h1 := lenL_le.1 HLQ.out; have h2 := HMR.out; have h3 : lenL T.natAbs ≤ 102 := (by rw [lenL_le, Nat.pow_succ, Bw_eq]; rw [Bw_eq] at h1; omega); omega)
        refine wp_region_facts 3 [47, 48, 49] (fun i v V => match i with
            | 0 => v = .agg #[.bool (decide (T < 0)), .slice u.A u.n u.c]
            | 1 => RepT 1 v V
            | _ => RepT Q v V) (fun V => Below Y.heap.size Y V) (by kernel_rfl) (by kernel_rfl) rfl (by decide) (by first | (simp; done) | (simp; done)) (Below.refl _ _).drew ?_ ?_ ?_
        · intro i v V V2 hf hb _
          match i, hf with
          | 0, hf => exact hf
          | 1, hf => exact RepT.keep hf hb
          | _ + 2, hf => exact RepT.keep hf hb
        · intro i t ht a V hC hF hd
          match i, ht with
          | 0, ht =>
            cases ht
            have h10 : a.tmps[10]?.getD undef = .pointer (some ⟨g7, 0, none⟩) := (hF.at_ 10 (by decide)).trans rfl
            obtain ⟨c00, c01, -, -⟩ := (YV.out.below hC YV.out.lt).cells
            exact step_value (v := .agg #[.bool (decide (T < 0)), .slice u.A u.n u.c]) rfl rfl (wanted_free rfl) (by go_simp) hC rfl
          | 1, ht =>
            cases ht
            refine step_call rfl rfl (wanted_free rfl) (callc_run ⟨_, rfl⟩ (enters_of Tryz.func18 (by kernel_rfl) rfl)) ((rOf5_E (w := V) (W := V) (e := []) (n := 1) (Env.start (by simp)) (by omega)).mono ?_)
            rintro e2 V2 ⟨o, rfl, o1, o2, hE2⟩
            exact ⟨_, rfl, ⟨o, rfl, o1, o2, hE2.2 o (by simp)⟩, hE2.1, hC.trans (hE2.1.mono hC.size)⟩
          | 2, ht =>
            cases ht
            have h47 : a.tmps[47]?.getD undef = .agg #[.bool (decide (T < 0)), .slice u.A u.n u.c] := (slot_eq a 47).symm.trans (hd 0 47 rfl (by kernel_rfl))
            have r48 : RepT 1 (a.tmps.getD 48 undef) V := hd 1 48 rfl (by kernel_rfl)
            have h48 : a.tmps[48]?.getD undef = a.tmps.getD 48 undef := (slot_eq a 48).symm
            obtain ⟨o, ho1, o1, o2, ok⟩ := r48
            rw [ho1] at h48
            have hu := (HEY.out.2 u (by simp)).later hC
            have ES := rSub5_E (w := V) (W := V) (e := [u, o]) (x := u) (y := o) (b := decide (T < 0)) (b' := decide ((1 : Int) < 0)) (Z := T) (Z' := 1) (D := Q) (Env.start (by simp [hu, ok])) (by simp) (by simp) (by rw [un.out]; exact HTL.out) (by rw [o2]; decide) (by rw [uN.out, zOf_told]) (by rw [o1, zOf_told]) HMR.out
            refine step_call rfl rfl (wanted_free rfl) (call2_run ⟨_, rfl⟩ h47 h48 (enters_of Tryz.func28 (by kernel_rfl) rfl)) (ES.mono ?_)
            rintro e2 V2 ⟨v, rfl, v1, v2, hE2⟩
            exact ⟨_, rfl, ⟨v, rfl, v1, v2, hE2.2 v (by simp)⟩, hE2.1, hC.trans (hE2.1.mono hC.size)⟩
          | k + 3, ht => simp at ht
        · intro a7 V7 hC hF hf
          have e10 : a7.tmps[10]?.getD undef = .pointer (some ⟨g7, 0, none⟩) := (hF.at_ 10 (by decide)).trans rfl
          have e2 : a7.tmps[2]?.getD undef = .pointer (some ⟨W.heap.size, 0, none⟩) := (hF.at_ 2 (by decide)).trans rfl
          have e3 : a7.tmps[3]?.getD undef = .pointer (some ⟨W.heap.size + 1, 0, none⟩) := (hF.at_ 3 (by decide)).trans rfl
          have e4 : a7.tmps[4]?.getD undef = .pointer (some ⟨W.heap.size + 1 + 1, 0, none⟩) := (hF.at_ 4 (by decide)).trans rfl
          have e5 : a7.tmps[5]?.getD undef = .pointer (some ⟨W.heap.size + 1 + 1 + 1, 0, none⟩) := (hF.at_ 5 (by decide)).trans rfl
          obtain ⟨v0, pv, v1, v2, vk⟩ := (hf 2 49 rfl : RepT Q (a7.tmps.getD 49 undef) V7)
          rw [slot_eq] at pv
          have hdf : a7.defers = [] := hF.defers
          have HSZ := Lib.hid (show a7.tmps.size = 57 from hF.size)
          have hbV := YV.out.below hC YV.out.lt
          have hY1 := (Y1.out.below hC Y1.out.lt).keptset (g := g7) (by omega) (.bool (decide (Q < 0))) (.slice v0.A v0.n v0.c)
          have hY2 := (Y2.out.below hC Y2.out.lt).keptset (g := g7) (by omega) (.bool (decide (Q < 0))) (.slice v0.A v0.n v0.c)
          have hY4 := (Y4.out.below hC Y4.out.lt).keptset (g := g7) (by omega) (.bool (decide (Q < 0))) (.slice v0.A v0.n v0.c)
          have hY5 := (Y5.out.below hC Y5.out.lt).keptset (g := g7) (by omega) (.bool (decide (Q < 0))) (.slice v0.A v0.n v0.c)
          have hYV := hbV.set (.bool (decide (Q < 0))) (.slice v0.A v0.n v0.c)
          have hEV : Env W (v0 :: u :: p :: s :: q :: r :: e) V7 := ⟨HEY.out.1.trans (hC.mono HEY.out.1.size), fun z hz => by
            rcases List.mem_cons.1 hz with rfl | hz
            · exact vk
            · exact (HEY.out.2 z hz).later hC⟩
          have hEY := hEV.setbox hbV (by omega) (decide (Q < 0)) (.slice v0.A v0.n v0.c)
          obtain ⟨Y9, hY9⟩ : ∃ Y9, (V7.setCell ⟨g7, 0, none⟩ (.bool (decide (Q < 0)))).setCell ⟨g7, 1, none⟩ (.slice v0.A v0.n v0.c) = Y9 := ⟨_, rfl⟩
          rw [hY9] at hY1 hY2 hY4 hY5 hYV hEY
          obtain ⟨c1, c2, c3, c4⟩ := hbV.cells
          replace Y1 := Lib.hid hY1
          replace Y2 := Lib.hid hY2
          replace Y4 := Lib.hid hY4
          replace Y5 := Lib.hid hY5
          replace YV := Lib.hid hYV
          replace HEY := Lib.hid (hEY.pick (e' := v0 :: p :: s :: q :: r :: e) (fun z hz => by simp only [List.mem_cons] at hz ⊢; rcases hz with rfl | rfl | rfl | rfl | rfl | hz <;> simp [*]))
          replace v1 := Lib.hid v1
          replace v2 := Lib.hid v2
          clear hf hF hC hbV hY1 hY2 hY4 hY5 hYV hEV hEY vk
          show wpList _ _ _ [_] a7 V7
          go_wp2
          try rw [hY9]
          clear hY9 c1 c2 c3 c4 pv
          have HPL := Lib.hid (show lenL (Q * Z').natAbs ≤ 800 by have h1 : Lb 101 Q := lenL_le.1 HLQ.out; have h2 : Lb 100 Z' := lenL_le.1 HLZ.out.2; have := lenL_le.2 (lb_mul h1 h2); omega)
          refine wp_region_facts 7 [50, 51, 52, 53, 54, 55, 56] (fun i v V => match i with
              | 0 => v = .agg #[.bool (decide (Q < 0)), .slice v0.A v0.n v0.c]
              | 1 => v = .agg #[.bool (decide (Z < 0)), .slice p.A p.n p.c]
              | 2 => v = .agg #[.bool (decide (Q < 0)), .slice v0.A v0.n v0.c]
              | 3 => v = .agg #[.bool (decide (Z' < 0)), .slice s.A s.n s.c]
              | 4 => RepRowK 130 [Q, Z'] v V
              | 5 => RepT (Q * Z') v V
              | _ => RepT R v V) (fun V => Below Y9.heap.size Y9 V) (by kernel_rfl) (by kernel_rfl) rfl (by decide) (by first | (simp; done) | (rw [HSZ.out]; decide)) (Below.refl _ _).drew ?_ ?_ ?_
          · intro i v V V2 hf hb _
            match i, hf with
            | 0, hf => exact hf
            | 1, hf => exact hf
            | 2, hf => exact hf
            | 3, hf => exact hf
            | 4, hf => exact RepRowK.keep hf hb
            | 5, hf => exact RepT.keep hf hb
            | _ + 6, hf => exact RepT.keep hf hb
          · intro i t ht a V hC hF hd
            match i, ht with
            | 0, ht =>
              cases ht
              have h10 : a.tmps[10]?.getD undef = .pointer (some ⟨g7, 0, none⟩) := (hF.at_ 10 (by decide)).trans e10
              obtain ⟨c00, c01, -, -⟩ := (YV.out.below hC YV.out.lt).cells
              obtain ⟨c10, c11, -, -⟩ := (Y1.out.below hC Y1.out.lt).cells
              obtain ⟨c20, c21, -, -⟩ := (Y2.out.below hC Y2.out.lt).cells
              exact step_value (v := .agg #[.bool (decide (Q < 0)), .slice v0.A v0.n v0.c]) rfl rfl (wanted_free rfl) (by go_simp) hC rfl
            | 1, ht =>
              cases ht
              have h2 : a.tmps[2]?.getD undef = .pointer (some ⟨W.heap.size, 0, none⟩) := (hF.at_ 2 (by decide)).trans e2
              obtain ⟨c00, c01, -, -⟩ := (YV.out.below hC YV.out.lt).cells
              obtain ⟨c10, c11, -, -⟩ := (Y1.out.below hC Y1.out.lt).cells
              obtain ⟨c20, c21, -, -⟩ := (Y2.out.below hC Y2.out.lt).cells
              exact step_value (v := .agg #[.bool (decide (Z < 0)), .slice p.A p.n p.c]) rfl rfl (wanted_free rfl) (by go_simp) hC rfl
            | 2, ht =>
              cases ht
              have h10 : a.tmps[10]?.getD undef = .pointer (some ⟨g7, 0, none⟩) := (hF.at_ 10 (by decide)).trans e10
              obtain ⟨c00, c01, -, -⟩ := (YV.out.below hC YV.out.lt).cells
              obtain ⟨c10, c11, -, -⟩ := (Y1.out.below hC Y1.out.lt).cells
              obtain ⟨c20, c21, -, -⟩ := (Y2.out.below hC Y2.out.lt).cells
              exact step_value (v := .agg #[.bool (decide (Q < 0)), .slice v0.A v0.n v0.c]) rfl rfl (wanted_free rfl) (by go_simp) hC rfl
            | 3, ht =>
              cases ht
              have h3 : a.tmps[3]?.getD undef = .pointer (some ⟨W.heap.size + 1, 0, none⟩) := (hF.at_ 3 (by decide)).trans e3
              obtain ⟨c00, c01, -, -⟩ := (YV.out.below hC YV.out.lt).cells
              obtain ⟨c10, c11, -, -⟩ := (Y1.out.below hC Y1.out.lt).cells
              obtain ⟨c20, c21, -, -⟩ := (Y2.out.below hC Y2.out.lt).cells
              exact step_value (v := .agg #[.bool (decide (Z' < 0)), .slice s.A s.n s.c]) rfl rfl (wanted_free rfl) (by go_simp) hC rfl
            | 4, ht =>
              cases ht
              have h52 : a.tmps[52]?.getD undef = .agg #[.bool (decide (Q < 0)), .slice v0.A v0.n v0.c] := (slot_eq a 52).symm.trans (hd 2 52 rfl (by kernel_rfl))
              have h53 : a.tmps[53]?.getD undef = .agg #[.bool (decide (Z' < 0)), .slice s.A s.n s.c] := (slot_eq a 53).symm.trans (hd 3 53 rfl (by kernel_rfl))
              exact fk_two rfl rfl (wanted_free rfl) rfl h52 h53 (RepT.zk (show RepT Q (.agg #[.bool (decide (Q < 0)), .slice v0.A v0.n v0.c]) V from ⟨v0, rfl, v1.out, v2.out, (HEY.out.2 v0 (by simp)).later hC⟩) (Nat.le_trans HLQ.out (by omega))) (RepT.zk (show RepT Z' (.agg #[.bool (decide (Z' < 0)), .slice s.A s.n s.c]) V from ⟨s, rfl, s1.out, s2.out, (HEY.out.2 s (by simp)).later hC⟩) (Nat.le_trans HLZ.out.2 (by omega))) (fun V2 hb => hC.trans (hb.mono hC.size))
            | 5, ht =>
              cases ht
              have r54 : RepRowK 130 [Q, Z'] (a.tmps.getD 54 undef) V := hd 4 54 rfl (by kernel_rfl)
              have h54 : a.tmps[54]?.getD undef = a.tmps.getD 54 undef := (slot_eq a 54).symm
              exact fk_mul rfl rfl (wanted_free rfl) (fun V2 hb => hC.trans (hb.mono hC.size)) (call1_run ⟨_, rfl⟩ h54 (enters_of Tryz.func26 (by kernel_rfl) rfl)) r54 (Nat.le_refl _) (by simp)
            | 6, ht =>
              cases ht
              have h51 : a.tmps[51]?.getD undef = .agg #[.bool (decide (Z < 0)), .slice p.A p.n p.c] := (slot_eq a 51).symm.trans (hd 1 51 rfl (by kernel_rfl))
              have r55 : RepT (Q * Z') (a.tmps.getD 55 undef) V := hd 5 55 rfl (by kernel_rfl)
              have h55 : a.tmps[55]?.getD undef = a.tmps.getD 55 undef := (slot_eq a 55).symm
              obtain ⟨o, ho1, o1, o2, ok⟩ := r55
              rw [ho1] at h55
              have hp := (HEY.out.2 p (by simp)).later hC
              have ES := rSub5_E (w := V) (W := V) (e := [p, o]) (x := p) (y := o) (b := decide (Z < 0)) (b' := decide (Q * Z' < 0)) (Z := Z) (Z' := Q * Z') (D := R) (Env.start (by simp [hp, ok])) (by simp) (by simp) (by rw [p2.out]; have := HLZ.out.1; omega) (by rw [o2]; exact HPL.out) (by rw [p1.out, zOf_told]) (by rw [o1, zOf_told]) HFR.out
              refine step_call rfl rfl (wanted_free rfl) (call2_run ⟨_, rfl⟩ h51 h55 (enters_of Tryz.func28 (by kernel_rfl) rfl)) (ES.mono ?_)
              rintro e2 V2 ⟨v9, rfl, w1, w2, hE2⟩
              exact ⟨_, rfl, ⟨v9, rfl, w1, w2, hE2.2 v9 (by simp)⟩, hE2.1, hC.trans (hE2.1.mono hC.size)⟩
            | k + 7, ht => simp at ht
          · intro a9 V9 hC hF hf
            have p4 : a9.tmps[4]?.getD undef = .pointer (some ⟨W.heap.size + 1 + 1, 0, none⟩) := (hF.at_ 4 (by decide)).trans e4
            have p5 : a9.tmps[5]?.getD undef = .pointer (some ⟨W.heap.size + 1 + 1 + 1, 0, none⟩) := (hF.at_ 5 (by decide)).trans e5
            have p50 : a9.tmps[50]?.getD undef = .agg #[.bool (decide (Q < 0)), .slice v0.A v0.n v0.c] := (slot_eq a9 50).symm.trans (hf 0 50 rfl)
            obtain ⟨r9, p56, n1, n2, hm⟩ := (hf 6 56 rfl : RepT R (a9.tmps.getD 56 undef) V9)
            rw [slot_eq] at p56
            have hdf9 : a9.defers = [] := hF.defers.trans hdf
            have HSZ9 := Lib.hid (show a9.tmps.size = 57 from hF.size.trans HSZ.out)
            have HC9 := HEY.out.1.trans (hC.mono HEY.out.1.size)
            have hB4 := Y4.out.below hC Y4.out.lt
            have hB5 := Y5.out.below hC Y5.out.lt
            obtain ⟨X9, hX9, hEX9, x4, x5⟩ := div_box (q := v0) (r := r9) (b := decide (Q < 0)) (b' := decide (R < 0)) HO.out HEW.out HC9 ((HEY.out.2 v0 (by simp)).later hC) hm hB4 hB5 (by omega) (by omega) (by omega)
            have hB5b := hB5.keptset (g := W.heap.size + 1 + 1) (by omega) (.bool (decide (Q < 0))) (.slice v0.A v0.n v0.c)
            obtain ⟨k1, k2, k3, k4⟩ := hB4.cells
            obtain ⟨l1, l2, l3, l4⟩ := hB5b.cells
            obtain ⟨j1, j2, j3, j4⟩ := hB5.cells
            have PF := Lib.hid (POST.out v0 r9 X9 v1.out v2.out n1 n2 hEX9)
            replace x4 := Lib.hid x4
            replace x5 := Lib.hid x5
            clear hf hF hC hB4 hB5 hEX9 hB5b HC9 n1 n2 hm
            show wpList _ _ _ [_, _, _] a9 V9
            go_wp2
            try rw [hX9]
            refine bodyPost_ret (ret_div (z := .int .i64 0) x4.out x5.out rfl ?_ ?_ ?_) (by first | exact hdf9 | simp | simpa using hdf9) ?_
            · have hsz := HSZ9.out
              simp [hsz] at p4 ⊢
              exact p4
            · have hsz := HSZ9.out
              simp [hsz] at p5 ⊢
              exact p5
            · have hsz := HSZ9.out
              simp [hsz]
            · have pf := PF.out
              first
                | exact pf
                | (simp only [if_neg HZ.out] at pf; exact pf)
      · have hsame := trunc_same HZ.out hcc
        rw [hQ] at hsame
        cases hd : (decide (Z < 0) != decide (Z' < 0)) with
        | true =>
          have hr0 : ¬ 0 < r.n := by have := rN.out; have h2 : ¬ 0 < Z.natAbs % Z'.natAbs := fun h => hcc ⟨hd, h⟩; omega
          have EN0 := rNorm_E true HEX.out.here (x := q) (by simp)
          rw [hd] at hsame
          rw [qN.out, hsame] at EN0
          have hct : (decide (Z < 0) == decide (Z' < 0)) = false := by revert hd; generalize decide (Z < 0) = d1; generalize decide (Z' < 0) = d2; cases d1 <;> cases d2 <;> simp
          replace EN0 := Lib.hid EN0
          clear hcc hsame hlt hrl hQ hR hd
          go_wp2_with fail
          clear hX
          refine EN0.out.mono ?_
          rintro e2 W7 ⟨u, rfl, uN, un, hE7⟩
          have hY1 := ((X1.out.below hE7.1 X1.out.lt).alloc (.cells #[.bool (decide (Q < 0)), .slice u.A u.n u.c] 25))
          have hY2 := ((X2.out.below hE7.1 X2.out.lt).alloc (.cells #[.bool (decide (Q < 0)), .slice u.A u.n u.c] 25))
          have hY4 := ((X4.out.below hE7.1 X4.out.lt).alloc (.cells #[.bool (decide (Q < 0)), .slice u.A u.n u.c] 25))
          have hY5 := ((X5.out.below hE7.1 X5.out.lt).alloc (.cells #[.bool (decide (Q < 0)), .slice u.A u.n u.c] 25))
          have hYV := Box2.new W7 25 (.bool (decide (Q < 0))) (.slice u.A u.n u.c)
          have hEY := (hE7.over HEX.out.1).alloc (.cells #[.bool (decide (Q < 0)), .slice u.A u.n u.c] 25)
          have hg7 := hE7.1.size
          obtain ⟨g7, hg⟩ : ∃ g7, W7.heap.size = g7 := ⟨_, rfl⟩
          obtain ⟨Y, hY⟩ : ∃ Y, W7.alloc (.cells #[.bool (decide (Q < 0)), .slice u.A u.n u.c] 25) = Y := ⟨_, rfl⟩
          rw [hY] at hY1 hY2 hY4 hY5 hYV hEY
          rw [hg] at hYV hg7
          have Y1 := Lib.hid hY1
          have Y2 := Lib.hid hY2
          have Y4 := Lib.hid hY4
          have Y5 := Lib.hid hY5
          have YV := Lib.hid hYV
          have HEY := Lib.hid hEY
          replace uN := Lib.hid uN
          replace un := Lib.hid un
          clear hY1 hY2 hY4 hY5 hYV hEY hE7
          have m1 := (Y1.out.cells).1
          have m3 := (Y2.out.cells).1
          go_wp2
          clear hY m1 m3
          have HPL := Lib.hid (show lenL (Q * Z').natAbs ≤ 800 by have h1 : Lb 101 Q := lenL_le.1 HLQ.out; have h2 : Lb 100 Z' := lenL_le.1 HLZ.out.2; have := lenL_le.2 (lb_mul h1 h2); omega)
          refine wp_region_facts 7 [50, 51, 52, 53, 54, 55, 56] (fun i v V => match i with
              | 0 => v = .agg #[.bool (decide (Q < 0)), .slice u.A u.n u.c]
              | 1 => v = .agg #[.bool (decide (Z < 0)), .slice p.A p.n p.c]
              | 2 => v = .agg #[.bool (decide (Q < 0)), .slice u.A u.n u.c]
              | 3 => v = .agg #[.bool (decide (Z' < 0)), .slice s.A s.n s.c]
              | 4 => RepRowK 130 [Q, Z'] v V
              | 5 => RepT (Q * Z') v V
              | _ => RepT R v V) (fun V => Below Y.heap.size Y V) (by kernel_rfl) (by kernel_rfl) rfl (by decide) (by first | (simp; done) | (rw [HSZ.out]; decide)) (Below.refl _ _).drew ?_ ?_ ?_
          · intro i v V V2 hf hb _
            match i, hf with
            | 0, hf => exact hf
            | 1, hf => exact hf
            | 2, hf => exact hf
            | 3, hf => exact hf
            | 4, hf => exact RepRowK.keep hf hb
            | 5, hf => exact RepT.keep hf hb
            | _ + 6, hf => exact RepT.keep hf hb
          · intro i t ht a V hC hF hd
            match i, ht with
            | 0, ht =>
              cases ht
              have h10 : a.tmps[10]?.getD undef = .pointer (some ⟨g7, 0, none⟩) := (hF.at_ 10 (by decide)).trans rfl
              obtain ⟨c00, c01, -, -⟩ := (YV.out.below hC YV.out.lt).cells
              obtain ⟨c10, c11, -, -⟩ := (Y1.out.below hC Y1.out.lt).cells
              obtain ⟨c20, c21, -, -⟩ := (Y2.out.below hC Y2.out.lt).cells
              exact step_value (v := .agg #[.bool (decide (Q < 0)), .slice u.A u.n u.c]) rfl rfl (wanted_free rfl) (by go_simp) hC rfl
            | 1, ht =>
              cases ht
              have h2 : a.tmps[2]?.getD undef = .pointer (some ⟨W.heap.size, 0, none⟩) := (hF.at_ 2 (by decide)).trans rfl
              obtain ⟨c00, c01, -, -⟩ := (YV.out.below hC YV.out.lt).cells
              obtain ⟨c10, c11, -, -⟩ := (Y1.out.below hC Y1.out.lt).cells
              obtain ⟨c20, c21, -, -⟩ := (Y2.out.below hC Y2.out.lt).cells
              exact step_value (v := .agg #[.bool (decide (Z < 0)), .slice p.A p.n p.c]) rfl rfl (wanted_free rfl) (by go_simp) hC rfl
            | 2, ht =>
              cases ht
              have h10 : a.tmps[10]?.getD undef = .pointer (some ⟨g7, 0, none⟩) := (hF.at_ 10 (by decide)).trans rfl
              obtain ⟨c00, c01, -, -⟩ := (YV.out.below hC YV.out.lt).cells
              obtain ⟨c10, c11, -, -⟩ := (Y1.out.below hC Y1.out.lt).cells
              obtain ⟨c20, c21, -, -⟩ := (Y2.out.below hC Y2.out.lt).cells
              exact step_value (v := .agg #[.bool (decide (Q < 0)), .slice u.A u.n u.c]) rfl rfl (wanted_free rfl) (by go_simp) hC rfl
            | 3, ht =>
              cases ht
              have h3 : a.tmps[3]?.getD undef = .pointer (some ⟨W.heap.size + 1, 0, none⟩) := (hF.at_ 3 (by decide)).trans rfl
              obtain ⟨c00, c01, -, -⟩ := (YV.out.below hC YV.out.lt).cells
              obtain ⟨c10, c11, -, -⟩ := (Y1.out.below hC Y1.out.lt).cells
              obtain ⟨c20, c21, -, -⟩ := (Y2.out.below hC Y2.out.lt).cells
              exact step_value (v := .agg #[.bool (decide (Z' < 0)), .slice s.A s.n s.c]) rfl rfl (wanted_free rfl) (by go_simp) hC rfl
            | 4, ht =>
              cases ht
              have h52 : a.tmps[52]?.getD undef = .agg #[.bool (decide (Q < 0)), .slice u.A u.n u.c] := (slot_eq a 52).symm.trans (hd 2 52 rfl (by kernel_rfl))
              have h53 : a.tmps[53]?.getD undef = .agg #[.bool (decide (Z' < 0)), .slice s.A s.n s.c] := (slot_eq a 53).symm.trans (hd 3 53 rfl (by kernel_rfl))
              exact fk_two rfl rfl (wanted_free rfl) rfl h52 h53 (RepT.zk (show RepT Q (.agg #[.bool (decide (Q < 0)), .slice u.A u.n u.c]) V from ⟨u, rfl, uN.out, un.out, (HEY.out.2 u (by simp)).later hC⟩) (Nat.le_trans HLQ.out (by omega))) (RepT.zk (show RepT Z' (.agg #[.bool (decide (Z' < 0)), .slice s.A s.n s.c]) V from ⟨s, rfl, s1.out, s2.out, (HEY.out.2 s (by simp)).later hC⟩) (Nat.le_trans HLZ.out.2 (by omega))) (fun V2 hb => hC.trans (hb.mono hC.size))
            | 5, ht =>
              cases ht
              have r54 : RepRowK 130 [Q, Z'] (a.tmps.getD 54 undef) V := hd 4 54 rfl (by kernel_rfl)
              have h54 : a.tmps[54]?.getD undef = a.tmps.getD 54 undef := (slot_eq a 54).symm
              exact fk_mul rfl rfl (wanted_free rfl) (fun V2 hb => hC.trans (hb.mono hC.size)) (call1_run ⟨_, rfl⟩ h54 (enters_of Tryz.func26 (by kernel_rfl) rfl)) r54 (Nat.le_refl _) (by simp)
            | 6, ht =>
              cases ht
              have h51 : a.tmps[51]?.getD undef = .agg #[.bool (decide (Z < 0)), .slice p.A p.n p.c] := (slot_eq a 51).symm.trans (hd 1 51 rfl (by kernel_rfl))
              have r55 : RepT (Q * Z') (a.tmps.getD 55 undef) V := hd 5 55 rfl (by kernel_rfl)
              have h55 : a.tmps[55]?.getD undef = a.tmps.getD 55 undef := (slot_eq a 55).symm
              obtain ⟨o, ho1, o1, o2, ok⟩ := r55
              rw [ho1] at h55
              have hp := (HEY.out.2 p (by simp)).later hC
              have ES := rSub5_E (w := V) (W := V) (e := [p, o]) (x := p) (y := o) (b := decide (Z < 0)) (b' := decide (Q * Z' < 0)) (Z := Z) (Z' := Q * Z') (D := R) (Env.start (by simp [hp, ok])) (by simp) (by simp) (by rw [p2.out]; have := HLZ.out.1; omega) (by rw [o2]; exact HPL.out) (by rw [p1.out, zOf_told]) (by rw [o1, zOf_told]) HFR.out
              refine step_call rfl rfl (wanted_free rfl) (call2_run ⟨_, rfl⟩ h51 h55 (enters_of Tryz.func28 (by kernel_rfl) rfl)) (ES.mono ?_)
              rintro e2 V2 ⟨v9, rfl, w1, w2, hE2⟩
              exact ⟨_, rfl, ⟨v9, rfl, w1, w2, hE2.2 v9 (by simp)⟩, hE2.1, hC.trans (hE2.1.mono hC.size)⟩
            | k + 7, ht => simp at ht
          · intro a9 V9 hC hF hf
            have p4 : a9.tmps[4]?.getD undef = .pointer (some ⟨W.heap.size + 1 + 1, 0, none⟩) := (hF.at_ 4 (by decide)).trans rfl
            have p5 : a9.tmps[5]?.getD undef = .pointer (some ⟨W.heap.size + 1 + 1 + 1, 0, none⟩) := (hF.at_ 5 (by decide)).trans rfl
            have p50 : a9.tmps[50]?.getD undef = .agg #[.bool (decide (Q < 0)), .slice u.A u.n u.c] := (slot_eq a9 50).symm.trans (hf 0 50 rfl)
            obtain ⟨r9, p56, n1, n2, hm⟩ := (hf 6 56 rfl : RepT R (a9.tmps.getD 56 undef) V9)
            rw [slot_eq] at p56
            have hdf9 : a9.defers = [] := hF.defers
            have HSZ9 := Lib.hid (show a9.tmps.size = 57 from hF.size)
            have HC9 := HEY.out.1.trans (hC.mono HEY.out.1.size)
            have hB4 := Y4.out.below hC Y4.out.lt
            have hB5 := Y5.out.below hC Y5.out.lt
            obtain ⟨X9, hX9, hEX9, x4, x5⟩ := div_box (q := u) (r := r9) (b := decide (Q < 0)) (b' := decide (R < 0)) HO.out HEW.out HC9 ((HEY.out.2 u (by simp)).later hC) hm hB4 hB5 (by omega) (by omega) (by omega)
            have hB5b := hB5.keptset (g := W.heap.size + 1 + 1) (by omega) (.bool (decide (Q < 0))) (.slice u.A u.n u.c)
            obtain ⟨k1, k2, k3, k4⟩ := hB4.cells
            obtain ⟨l1, l2, l3, l4⟩ := hB5b.cells
            obtain ⟨j1, j2, j3, j4⟩ := hB5.cells
            have PF := Lib.hid (POST.out u r9 X9 uN.out un.out n1 n2 hEX9)
            replace x4 := Lib.hid x4
            replace x5 := Lib.hid x5
            clear hf hF hC hB4 hB5 hEX9 hB5b HC9 n1 n2 hm
            show wpList _ _ _ [_, _, _] a9 V9
            go_wp2
            try rw [hX9]
            refine bodyPost_ret (ret_div (z := .int .i64 0) x4.out x5.out rfl ?_ ?_ ?_) (by first | exact hdf9 | simp | simpa using hdf9) ?_
            · have hsz := HSZ9.out
              simp [hsz] at p4 ⊢
              exact p4
            · have hsz := HSZ9.out
              simp [hsz] at p5 ⊢
              exact p5
            · have hsz := HSZ9.out
              simp [hsz]
            · have pf := PF.out
              first
                | exact pf
                | (simp only [if_neg HZ.out] at pf; exact pf)
        | false =>
          have EN0 := rNorm_E false HEX.out.here (x := q) (by simp)
          rw [hd] at hsame
          rw [qN.out, hsame] at EN0
          have hct : (decide (Z < 0) == decide (Z' < 0)) = true := by revert hd; generalize decide (Z < 0) = d1; generalize decide (Z' < 0) = d2; cases d1 <;> cases d2 <;> simp
          replace EN0 := Lib.hid EN0
          clear hcc hsame hlt hrl hQ hR hd
          go_wp2_with fail
          clear hX
          refine EN0.out.mono ?_
          rintro e2 W7 ⟨u, rfl, uN, un, hE7⟩
          have hY1 := ((X1.out.below hE7.1 X1.out.lt).alloc (.cells #[.bool (decide (Q < 0)), .slice u.A u.n u.c] 25))
          have hY2 := ((X2.out.below hE7.1 X2.out.lt).alloc (.cells #[.bool (decide (Q < 0)), .slice u.A u.n u.c] 25))
          have hY4 := ((X4.out.below hE7.1 X4.out.lt).alloc (.cells #[.bool (decide (Q < 0)), .slice u.A u.n u.c] 25))
          have hY5 := ((X5.out.below hE7.1 X5.out.lt).alloc (.cells #[.bool (decide (Q < 0)), .slice u.A u.n u.c] 25))
          have hYV := Box2.new W7 25 (.bool (decide (Q < 0))) (.slice u.A u.n u.c)
          have hEY := (hE7.over HEX.out.1).alloc (.cells #[.bool (decide (Q < 0)), .slice u.A u.n u.c] 25)
          have hg7 := hE7.1.size
          obtain ⟨g7, hg⟩ : ∃ g7, W7.heap.size = g7 := ⟨_, rfl⟩
          obtain ⟨Y, hY⟩ : ∃ Y, W7.alloc (.cells #[.bool (decide (Q < 0)), .slice u.A u.n u.c] 25) = Y := ⟨_, rfl⟩
          rw [hY] at hY1 hY2 hY4 hY5 hYV hEY
          rw [hg] at hYV hg7
          have Y1 := Lib.hid hY1
          have Y2 := Lib.hid hY2
          have Y4 := Lib.hid hY4
          have Y5 := Lib.hid hY5
          have YV := Lib.hid hYV
          have HEY := Lib.hid hEY
          replace uN := Lib.hid uN
          replace un := Lib.hid un
          clear hY1 hY2 hY4 hY5 hYV hEY hE7
          have m1 := (Y1.out.cells).1
          have m3 := (Y2.out.cells).1
          go_wp2
          clear hY m1 m3
          have HPL := Lib.hid (show lenL (Q * Z').natAbs ≤ 800 by have h1 : Lb 101 Q := lenL_le.1 HLQ.out; have h2 : Lb 100 Z' := lenL_le.1 HLZ.out.2; have := lenL_le.2 (lb_mul h1 h2); omega)
          refine wp_region_facts 7 [50, 51, 52, 53, 54, 55, 56] (fun i v V => match i with
              | 0 => v = .agg #[.bool (decide (Q < 0)), .slice u.A u.n u.c]
              | 1 => v = .agg #[.bool (decide (Z < 0)), .slice p.A p.n p.c]
              | 2 => v = .agg #[.bool (decide (Q < 0)), .slice u.A u.n u.c]
              | 3 => v = .agg #[.bool (decide (Z' < 0)), .slice s.A s.n s.c]
              | 4 => RepRowK 130 [Q, Z'] v V
              | 5 => RepT (Q * Z') v V
              | _ => RepT R v V) (fun V => Below Y.heap.size Y V) (by kernel_rfl) (by kernel_rfl) rfl (by decide) (by first | (simp; done) | (rw [HSZ.out]; decide)) (Below.refl _ _).drew ?_ ?_ ?_
          · intro i v V V2 hf hb _
            match i, hf with
            | 0, hf => exact hf
            | 1, hf => exact hf
            | 2, hf => exact hf
            | 3, hf => exact hf
            | 4, hf => exact RepRowK.keep hf hb
            | 5, hf => exact RepT.keep hf hb
            | _ + 6, hf => exact RepT.keep hf hb
          · intro i t ht a V hC hF hd
            match i, ht with
            | 0, ht =>
              cases ht
              have h10 : a.tmps[10]?.getD undef = .pointer (some ⟨g7, 0, none⟩) := (hF.at_ 10 (by decide)).trans rfl
              obtain ⟨c00, c01, -, -⟩ := (YV.out.below hC YV.out.lt).cells
              obtain ⟨c10, c11, -, -⟩ := (Y1.out.below hC Y1.out.lt).cells
              obtain ⟨c20, c21, -, -⟩ := (Y2.out.below hC Y2.out.lt).cells
              exact step_value (v := .agg #[.bool (decide (Q < 0)), .slice u.A u.n u.c]) rfl rfl (wanted_free rfl) (by go_simp) hC rfl
            | 1, ht =>
              cases ht
              have h2 : a.tmps[2]?.getD undef = .pointer (some ⟨W.heap.size, 0, none⟩) := (hF.at_ 2 (by decide)).trans rfl
              obtain ⟨c00, c01, -, -⟩ := (YV.out.below hC YV.out.lt).cells
              obtain ⟨c10, c11, -, -⟩ := (Y1.out.below hC Y1.out.lt).cells
              obtain ⟨c20, c21, -, -⟩ := (Y2.out.below hC Y2.out.lt).cells
              exact step_value (v := .agg #[.bool (decide (Z < 0)), .slice p.A p.n p.c]) rfl rfl (wanted_free rfl) (by go_simp) hC rfl
            | 2, ht =>
              cases ht
              have h10 : a.tmps[10]?.getD undef = .pointer (some ⟨g7, 0, none⟩) := (hF.at_ 10 (by decide)).trans rfl
              obtain ⟨c00, c01, -, -⟩ := (YV.out.below hC YV.out.lt).cells
              obtain ⟨c10, c11, -, -⟩ := (Y1.out.below hC Y1.out.lt).cells
              obtain ⟨c20, c21, -, -⟩ := (Y2.out.below hC Y2.out.lt).cells
              exact step_value (v := .agg #[.bool (decide (Q < 0)), .slice u.A u.n u.c]) rfl rfl (wanted_free rfl) (by go_simp) hC rfl
            | 3, ht =>
              cases ht
              have h3 : a.tmps[3]?.getD undef = .pointer (some ⟨W.heap.size + 1, 0, none⟩) := (hF.at_ 3 (by decide)).trans rfl
              obtain ⟨c00, c01, -, -⟩ := (YV.out.below hC YV.out.lt).cells
              obtain ⟨c10, c11, -, -⟩ := (Y1.out.below hC Y1.out.lt).cells
              obtain ⟨c20, c21, -, -⟩ := (Y2.out.below hC Y2.out.lt).cells
              exact step_value (v := .agg #[.bool (decide (Z' < 0)), .slice s.A s.n s.c]) rfl rfl (wanted_free rfl) (by go_simp) hC rfl
            | 4, ht =>
              cases ht
              have h52 : a.tmps[52]?.getD undef = .agg #[.bool (decide (Q < 0)), .slice u.A u.n u.c] := (slot_eq a 52).symm.trans (hd 2 52 rfl (by kernel_rfl))
              have h53 : a.tmps[53]?.getD undef = .agg #[.bool (decide (Z' < 0)), .slice s.A s.n s.c] := (slot_eq a 53).symm.trans (hd 3 53 rfl (by kernel_rfl))
              exact fk_two rfl rfl (wanted_free rfl) rfl h52 h53 (RepT.zk (show RepT Q (.agg #[.bool (decide (Q < 0)), .slice u.A u.n u.c]) V from ⟨u, rfl, uN.out, un.out, (HEY.out.2 u (by simp)).later hC⟩) (Nat.le_trans HLQ.out (by omega))) (RepT.zk (show RepT Z' (.agg #[.bool (decide (Z' < 0)), .slice s.A s.n s.c]) V from ⟨s, rfl, s1.out, s2.out, (HEY.out.2 s (by simp)).later hC⟩) (Nat.le_trans HLZ.out.2 (by omega))) (fun V2 hb => hC.trans (hb.mono hC.size))
            | 5, ht =>
              cases ht
              have r54 : RepRowK 130 [Q, Z'] (a.tmps.getD 54 undef) V := hd 4 54 rfl (by kernel_rfl)
              have h54 : a.tmps[54]?.getD undef = a.tmps.getD 54 undef := (slot_eq a 54).symm
              exact fk_mul rfl rfl (wanted_free rfl) (fun V2 hb => hC.trans (hb.mono hC.size)) (call1_run ⟨_, rfl⟩ h54 (enters_of Tryz.func26 (by kernel_rfl) rfl)) r54 (Nat.le_refl _) (by simp)
            | 6, ht =>
              cases ht
              have h51 : a.tmps[51]?.getD undef = .agg #[.bool (decide (Z < 0)), .slice p.A p.n p.c] := (slot_eq a 51).symm.trans (hd 1 51 rfl (by kernel_rfl))
              have r55 : RepT (Q * Z') (a.tmps.getD 55 undef) V := hd 5 55 rfl (by kernel_rfl)
              have h55 : a.tmps[55]?.getD undef = a.tmps.getD 55 undef := (slot_eq a 55).symm
              obtain ⟨o, ho1, o1, o2, ok⟩ := r55
              rw [ho1] at h55
              have hp := (HEY.out.2 p (by simp)).later hC
              have ES := rSub5_E (w := V) (W := V) (e := [p, o]) (x := p) (y := o) (b := decide (Z < 0)) (b' := decide (Q * Z' < 0)) (Z := Z) (Z' := Q * Z') (D := R) (Env.start (by simp [hp, ok])) (by simp) (by simp) (by rw [p2.out]; have := HLZ.out.1; omega) (by rw [o2]; exact HPL.out) (by rw [p1.out, zOf_told]) (by rw [o1, zOf_told]) HFR.out
              refine step_call rfl rfl (wanted_free rfl) (call2_run ⟨_, rfl⟩ h51 h55 (enters_of Tryz.func28 (by kernel_rfl) rfl)) (ES.mono ?_)
              rintro e2 V2 ⟨v9, rfl, w1, w2, hE2⟩
              exact ⟨_, rfl, ⟨v9, rfl, w1, w2, hE2.2 v9 (by simp)⟩, hE2.1, hC.trans (hE2.1.mono hC.size)⟩
            | k + 7, ht => simp at ht
          · intro a9 V9 hC hF hf
            have p4 : a9.tmps[4]?.getD undef = .pointer (some ⟨W.heap.size + 1 + 1, 0, none⟩) := (hF.at_ 4 (by decide)).trans rfl
            have p5 : a9.tmps[5]?.getD undef = .pointer (some ⟨W.heap.size + 1 + 1 + 1, 0, none⟩) := (hF.at_ 5 (by decide)).trans rfl
            have p50 : a9.tmps[50]?.getD undef = .agg #[.bool (decide (Q < 0)), .slice u.A u.n u.c] := (slot_eq a9 50).symm.trans (hf 0 50 rfl)
            obtain ⟨r9, p56, n1, n2, hm⟩ := (hf 6 56 rfl : RepT R (a9.tmps.getD 56 undef) V9)
            rw [slot_eq] at p56
            have hdf9 : a9.defers = [] := hF.defers
            have HSZ9 := Lib.hid (show a9.tmps.size = 57 from hF.size)
            have HC9 := HEY.out.1.trans (hC.mono HEY.out.1.size)
            have hB4 := Y4.out.below hC Y4.out.lt
            have hB5 := Y5.out.below hC Y5.out.lt
            obtain ⟨X9, hX9, hEX9, x4, x5⟩ := div_box (q := u) (r := r9) (b := decide (Q < 0)) (b' := decide (R < 0)) HO.out HEW.out HC9 ((HEY.out.2 u (by simp)).later hC) hm hB4 hB5 (by omega) (by omega) (by omega)
            have hB5b := hB5.keptset (g := W.heap.size + 1 + 1) (by omega) (.bool (decide (Q < 0))) (.slice u.A u.n u.c)
            obtain ⟨k1, k2, k3, k4⟩ := hB4.cells
            obtain ⟨l1, l2, l3, l4⟩ := hB5b.cells
            obtain ⟨j1, j2, j3, j4⟩ := hB5.cells
            have PF := Lib.hid (POST.out u r9 X9 uN.out un.out n1 n2 hEX9)
            replace x4 := Lib.hid x4
            replace x5 := Lib.hid x5
            clear hf hF hC hB4 hB5 hEX9 hB5b HC9 n1 n2 hm
            show wpList _ _ _ [_, _, _] a9 V9
            go_wp2
            try rw [hX9]
            refine bodyPost_ret (ret_div (z := .int .i64 0) x4.out x5.out rfl ?_ ?_ ?_) (by first | exact hdf9 | simp | simpa using hdf9) ?_
            · have hsz := HSZ9.out
              simp [hsz] at p4 ⊢
              exact p4
            · have hsz := HSZ9.out
              simp [hsz] at p5 ⊢
              exact p5
            · have hsz := HSZ9.out
              simp [hsz]
            · have pf := PF.out
              first
                | exact pf
                | (simp only [if_neg HZ.out] at pf; exact pf)
end Go.Proofs.YtolldhfcnbbelaaGreatDoor

/- Contract of the reference's Small of layer 5. -/
namespace Go.Proofs.YtolldhfcnbbelaaGreatDoor
open Go Go.RowKit
variable {w W : World} {e : List Num} {x y : Num}

set_option maxRecDepth 100000 in
set_option maxHeartbeats 4000000 in
theorem rSmall5_E {b : Bool} {Z : Int} (h : Env w e W) (hx : x ∈ e) (hz : zOf b x.N = Z) :
    Calls Tryz.prog 7 #[.agg #[.bool b, .slice x.A x.n x.c]] W fun e' W' => e' = .returned (.tuple #[.int .i64 (if fitsZ Z then Z else 0), .bool (fitsZ Z)]) ∧ Env w e W' := by
  have HE := h.alloc (.cells #[.bool b, .slice x.A x.n x.c] 25)
  have HO := Lib.hid HE.1
  have hs := h.1.size
  have B1 := Lib.hid (Box2.new W 25 (.bool b) (.slice x.A x.n x.c))
  have EN := rNorm_E b HE.here hx
  rw [hz] at EN
  obtain ⟨d, hd⟩ : ∃ d, decide (Z < 0) = d := ⟨_, rfl⟩
  replace EN : Calls Tryz.prog 20 #[.agg #[.bool b, .slice x.A x.n x.c]] (W.alloc (.cells #[.bool b, .slice x.A x.n x.c] 25)) fun e' W' => ∃ r : Num, e' = .returned (.agg #[.bool d, .slice r.A r.n r.c]) ∧ r.N = Z.natAbs ∧ r.n = lenL Z.natAbs ∧ Env (W.alloc (.cells #[.bool b, .slice x.A x.n x.c] 25)) (r :: e) W' := by
    refine EN.mono ?_
    rintro e' W' ⟨r, h1, h2⟩
    exact ⟨r, by rw [h1, hd], h2⟩
  replace EN := Lib.hid EN
  obtain ⟨R, hR⟩ : ∃ R : Value, (.tuple #[.int .i64 (if fitsZ Z then Z else 0), .bool (fitsZ Z)]) = R := ⟨_, rfl⟩
  rw [hR]
  have RE : ∀ (f : Bool) (v : Int), fitsZ Z = f → (f = true → v = Z) → (f = false → v = 0) → Ending.returned (.tuple #[.int .i64 v, .bool f]) = .returned R := by
    intro f v hf h1 h2
    rw [← hR, hf]
    cases f
    · rw [h2 rfl]; rfl
    · rw [h1 rfl]; rfl
  replace RE := Lib.hid RE
  obtain ⟨c1, c2, -, -⟩ := B1.out.cells
  clear h hx hz HE hR
  go_enter Tryz.func7, Tryz.ntmps7
  go_wp2_with fail
  refine EN.out.mono ?_
  rintro e1 W2 ⟨r, rfl, rN, -, hE2⟩
  have hB2 := B1.out.below hE2.1 B1.out.lt
  obtain ⟨d1, d2, d3, d4⟩ := hB2.cells
  obtain ⟨X, hX⟩ : ∃ X, (W2.setCell ⟨W.heap.size, 0, none⟩ (.bool d)).setCell ⟨W.heap.size, 1, none⟩ (.slice r.A r.n r.c) = X := ⟨_, rfl⟩
  have hbX := hB2.set (.bool d) (.slice r.A r.n r.c)
  have hEX := (hE2.over HO.out).setbox hB2 (by omega) d (.slice r.A r.n r.c)
  rw [hX] at hbX hEX
  obtain ⟨f1, f2, -, -⟩ := hbX.cells
  have HBX := Lib.hid hbX
  have HEX := Lib.hid hEX
  obtain ⟨k1, k2, k3, k4⟩ := hEX.2 r (by simp)
  have FIN : ∀ X', Below X.heap.size X X' → Env w e X' := fun X' hb => (HEX.out.step hb).pick (fun z hz => by simp [hz])
  replace FIN := Lib.hid FIN
  clear hB2 hbX hEX hE2 c1 c2
  by_cases hN : r.N < 18446744073709551616
  · have EY := Lib.hid (rSmall_yes X _ _ _ _ k1 k2 k3 k4 hN)
    clear k1 k2 k3 k4
    have RN := Lib.hid rN
    clear rN
    by_cases g1 : 9223372036854775808 < (r.N : Int)
    · have HD := Lib.hid (show fitsZ Z = false by have := RN.out; unfold fitsZ; rw [decide_eq_false_iff_not]; omega)
      clear hd hN
      go_wp2_with fail
      refine EY.out.mono ?_
      rintro e2 W3 ⟨rfl, hb⟩
      have HF := Lib.hid (FIN.out _ hb)
      clear hb
      go_wp2
      go_ret2
      exact ⟨RE.out false 0 HD.out (fun h => by cases h) (fun _ => rfl), HF.out⟩
    by_cases g2 : r.N = 9223372036854775808
    · cases d
      · have HD := Lib.hid (show fitsZ Z = false by have := RN.out; have := of_decide_eq_false hd; unfold fitsZ; rw [decide_eq_false_iff_not]; omega)
        clear hd hN
        go_wp2_with fail
        refine EY.out.mono ?_
        rintro e2 W3 ⟨rfl, hb⟩
        have HF := Lib.hid (FIN.out _ hb)
        obtain ⟨p1, p2, -, -⟩ := (HBX.out.below hb HBX.out.lt).cells
        clear hb
        go_wp2
        go_ret2
        exact ⟨RE.out false 0 HD.out (fun h => by cases h) (fun _ => rfl), HF.out⟩
      · have HD := Lib.hid (show fitsZ Z = true ∧ Z = -9223372036854775808 by have := RN.out; have := of_decide_eq_true hd; refine ⟨?_, by omega⟩; unfold fitsZ; rw [decide_eq_true_eq]; omega)
        clear hd hN
        go_wp2_with fail
        refine EY.out.mono ?_
        rintro e2 W3 ⟨rfl, hb⟩
        have HF := Lib.hid (FIN.out _ hb)
        obtain ⟨p1, p2, -, -⟩ := (HBX.out.below hb HBX.out.lt).cells
        clear hb
        go_wp2
        go_ret2
        exact ⟨RE.out true (-9223372036854775808) HD.out.1 (fun _ => HD.out.2.symm) (fun h => by cases h), HF.out⟩
    · have w1 : IntKind.i64.wrap (r.N : Int) = r.N := by rw [IntKind.wrap_i64]; omega
      cases d
      · have HD := Lib.hid (show fitsZ Z = true ∧ (r.N : Int) = Z by have := RN.out; have := of_decide_eq_false hd; refine ⟨?_, by omega⟩; unfold fitsZ; rw [decide_eq_true_eq]; omega)
        clear hd hN
        go_wp2_with fail
        refine EY.out.mono ?_
        rintro e2 W3 ⟨rfl, hb⟩
        have HF := Lib.hid (FIN.out _ hb)
        obtain ⟨p1, p2, -, -⟩ := (HBX.out.below hb HBX.out.lt).cells
        clear hb
        go_wp2
        go_ret2
        exact ⟨RE.out true r.N HD.out.1 (fun _ => HD.out.2) (fun h => by cases h), HF.out⟩
      · have HD := Lib.hid (show fitsZ Z = true ∧ -(r.N : Int) = Z by have := RN.out; have := of_decide_eq_true hd; refine ⟨?_, by omega⟩; unfold fitsZ; rw [decide_eq_true_eq]; omega)
        have w2 : IntKind.i64.wrap (-(r.N : Int)) = -(r.N : Int) := by rw [IntKind.wrap_i64]; omega
        clear hd hN
        go_wp2_with fail
        refine EY.out.mono ?_
        rintro e2 W3 ⟨rfl, hb⟩
        have HF := Lib.hid (FIN.out _ hb)
        obtain ⟨p1, p2, -, -⟩ := (HBX.out.below hb HBX.out.lt).cells
        clear hb
        go_wp2
        go_ret2
        exact ⟨RE.out true (-(r.N : Int)) HD.out.1 (fun _ => HD.out.2) (fun h => by cases h), HF.out⟩
  · have EY := Lib.hid (rSmall_no X _ _ _ _ k1 k2 k3 k4 hN)
    have HD := Lib.hid (show fitsZ Z = false by unfold fitsZ; rw [decide_eq_false_iff_not]; omega)
    clear k1 k2 k3 k4 rN hd hN
    go_wp2_with fail
    refine EY.out.mono ?_
    rintro e2 W3 ⟨rfl, hb⟩
    have HF := Lib.hid (FIN.out _ hb)
    clear hb
    go_wp2
    go_ret2
    exact ⟨RE.out false 0 HD.out (fun h => by cases h) (fun _ => rfl), HF.out⟩
end Go.Proofs.YtolldhfcnbbelaaGreatDoor
