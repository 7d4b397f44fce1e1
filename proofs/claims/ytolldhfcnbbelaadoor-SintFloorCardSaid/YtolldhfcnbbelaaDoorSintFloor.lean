/- SintFloor, over what the program's functions answer: quotient times divisor and rest are the number, the rest being less than the divisor, on its side of nought. -/
import Derived.Test.YtolldhfcnbbelaaDoorGRefE
import Derived.Test.YtolldhfcnbbelaaDoorGRefF
import Derived.Test.YtolldhfcnbbelaaDoorGSintB
import Derived.Test.YtolldhfcnbbelaaDoorGSintF
import Derived.Test.YtolldhfcnbbelaaDoorGRefA
import Derived.Test.YtolldhfcnbbelaaDoorLaw
namespace Go.Proofs.YtolldhfcnbbelaaDoor
open Go Go.ChangeShapes Go.WideShapes Go.ChangeAt Go.RowKit Go.Deep

theorem fmod_side {Z Z' : Int} (h : Z' ≠ 0) : (Z.fmod Z').natAbs < Z'.natAbs ∧ (Z.fmod Z' = 0 ∨ (Z.fmod Z').sign = Z'.sign) := by
  rcases Int.lt_trichotomy Z' 0 with h1 | h1 | h1
  · have := (Int.fdiv_fmod_unique' (a := Z) (q := Z.fdiv Z') (r := Z.fmod Z') h1).1 ⟨rfl, rfl⟩
    refine ⟨by omega, ?_⟩
    by_cases h2 : Z.fmod Z' = 0
    · exact .inl h2
    · exact .inr (by rw [Int.sign_eq_neg_one_of_neg h1, Int.sign_eq_neg_one_of_neg (by omega)])
  · exact absurd h1 h
  · have := (Int.fdiv_fmod_unique (a := Z) (q := Z.fdiv Z') (r := Z.fmod Z') h1).1 ⟨rfl, rfl⟩
    refine ⟨by omega, ?_⟩
    by_cases h2 : Z.fmod Z' = 0
    · exact .inl h2
    · exact .inr (by rw [Int.sign_eq_one_of_pos h1, Int.sign_eq_one_of_pos (by omega)])
theorem fdiv_le (Z Z' : Int) : (Z.fdiv Z').natAbs ≤ Z.natAbs + 1 := by
  by_cases h0 : Z' = 0
  · subst h0; simp
  have h1 := Nat.div_le_self Z.natAbs Z'.natAbs
  by_cases h : unlk Z Z' = true ∧ 0 < Z.natAbs % Z'.natAbs
  · rw [← (floor_more h0 h.1 h.2).1, zOf_abs]; omega
  · rw [← (floor_same h0 h).1, zOf_abs]; omega
theorem floor_sum (Z Z' : Int) : Z.fdiv Z' * Z' + Z.fmod Z' = Z := by rw [Int.fmod_def, Int.mul_comm Z' (Z.fdiv Z')]; omega
theorem lb_of_le {A B : Int} {k : Nat} (h : Lb k B) (hl : A.natAbs ≤ B.natAbs + 1) : Lb (k + 1) A := by
  unfold Lb at *
  have := pow_pos_Bw k
  rw [Nat.pow_succ, Bw_eq] at *
  omega

set_option maxRecDepth 100000 in
set_option maxHeartbeats 8000000 in
theorem sfloor_any (w : World) (S : SintTold w) (x y : Num) (bx by1 : Bool) (hx : x.ok w w.heap.size) (hy : y.ok w w.heap.size) :
    Calls Tryd.prog 4 #[.agg #[.bool bx, .slice x.A x.n x.c], .agg #[.bool by1, .slice y.A y.n y.c]] w fun e w' => e = .returned (.bool true) ∧ Below w.heap.size w w' := by
  obtain ⟨Za, hZa⟩ : ∃ Za, zOf bx x.N = Za := ⟨_, rfl⟩
  obtain ⟨Zb, hZb⟩ : ∃ Zb, zOf by1 y.N = Zb := ⟨_, rfl⟩
  have hE0 : Env w [x, y] w := Env.start (by simp [hx, hy])
  have HE := (hE0.alloc (.cells #[.bool bx, .slice x.A x.n x.c] 25)).alloc (.cells #[.bool by1, .slice y.A y.n y.c] 25)
  have P3 := (Box2.new w 25 (.bool bx) (.slice x.A x.n x.c)).alloc (.cells #[.bool by1, .slice y.A y.n y.c] 25)
  have P4 := Box2.new (w.alloc (.cells #[.bool bx, .slice x.A x.n x.c] 25)) 25 (.bool by1) (.slice y.A y.n y.c)
  rw [World.size_alloc] at P4
  obtain ⟨W1, hW1⟩ : ∃ W1, (w.alloc (.cells #[.bool bx, .slice x.A x.n x.c] 25)).alloc (.cells #[.bool by1, .slice y.A y.n y.c] 25) = W1 := ⟨_, rfl⟩
  rw [hW1] at HE P3 P4
  have EG := great5_E2 (b := bx) (b' := by1) HE.here (x := x) (y := y) (by simp) (by simp) rfl
  have H1 := Lib.hid HE.1
  replace P3 := Lib.hid P3
  replace P4 := Lib.hid P4
  have S1 := S.later HE.1
  obtain ⟨c1, c2, -, -⟩ := P3.out.cells
  obtain ⟨c3, c4, -, -⟩ := P4.out.cells
  clear hE0 HE
  cases hg : great5 [x, y] with
  | true =>
    rw [hg] at EG
    replace EG := Lib.hid EG
    go_enter Tryd.func4, Tryd.ntmps4
    go_wp2_with fail
    clear hW1
    refine EG.out.mono ?_
    rintro e' W0 ⟨rfl, hE⟩
    go_wp2_with fail
    refine (wakes5_E S1 hE).mono ?_
    rintro e' W2 ⟨rfl, hE2⟩
    have HF := Lib.hid (H1.out.trans (hE2.1.mono H1.out.size))
    clear hE hE2
    go_wp2
    go_ret
    exact ⟨rfl, HF.out⟩
  | false =>
    obtain ⟨lx, ly⟩ := size5_2 hg
    rw [hg] at EG
    replace EG := Lib.hid EG
    have La : Lb 60 Za := lb_of hx.1.1 lx hZa
    have Lb1 : Lb 60 Zb := lb_of hy.1.1 ly hZb
    have HL := Lib.hid (And.intro lx ly)
    have HLL := Lib.hid (And.intro La Lb1)
    clear hg lx ly La Lb1
    go_enter Tryd.func4, Tryd.ntmps4
    go_wp2_with fail
    clear hW1
    refine EG.out.mono ?_
    rintro e' W0 ⟨rfl, hE⟩
    have S0 := S1.later hE.1
    have H0 := Lib.hid (H1.out.trans (hE.1.mono H1.out.size))
    have B3 := Lib.hid (P3.out.below hE.1 P3.out.lt)
    have B4 := Lib.hid (P4.out.below hE.1 P4.out.lt)
    have HE0 := Lib.hid hE.here
    clear hE EG P3 P4 c1 c2 c3 c4
    obtain ⟨c1, c2, -, -⟩ := B3.out.cells
    obtain ⟨c3, c4, -, -⟩ := B4.out.cells
    go_wp2_with fail
    refine (S0.div _ _ _ bx x by1 y Za Zb HE0.out.1 HE0.out (by simp) (by simp) (by have := HL.out.1; omega) (by have := HL.out.2; omega) hZa hZb).mono ?_
    rintro e' W2 ⟨q, r, rfl, qN, qn, rN, rn, hE2⟩
    clear c1 c2 c3 c4
    by_cases hb0 : Zb = 0
    · have x2 : (if Zb = 0 then 0 else Za.fmod Zb) = 0 := if_pos hb0
      have x3 : (if Zb = 0 then (30 : Int) else 0) = 30 := if_pos hb0
      have x4 : Za.fdiv Zb = 0 := by rw [hb0]; simp
      rw [x2, x3, x4]
      rw [x4] at qN qn
      rw [x2] at rN rn
      clear x2 x3 x4
      have hEV := (hE2.alloc (.cells #[.bool false, .slice q.A q.n q.c] 25)).alloc (.cells #[.bool false, .slice r.A r.n r.c] 25)
      have B5 := (Box2.new W2 25 (.bool false) (.slice q.A q.n q.c)).alloc (.cells #[.bool false, .slice r.A r.n r.c] 25)
      have B6 := Box2.new (W2.alloc (.cells #[.bool false, .slice q.A q.n q.c] 25)) 25 (.bool false) (.slice r.A r.n r.c)
      rw [World.size_alloc] at B6
      obtain ⟨V, hV⟩ : ∃ V, (W2.alloc (.cells #[.bool false, .slice q.A q.n q.c] 25)).alloc (.cells #[.bool false, .slice r.A r.n r.c] 25) = V := ⟨_, rfl⟩
      rw [hV] at hEV B5 B6
      have ESg := Lib.hid (rSign5_E (b := by1) (Z := Zb) hEV.here (x := y) (by simp) hZb)
      rw [hb0] at ESg
      have SV := S0.later hEV.1
      have HV := Lib.hid (H0.out.trans (hEV.1.mono H0.out.size))
      obtain ⟨c3, c4, -, -⟩ := (B4.out.below hEV.1 B4.out.lt).cells
      have TQ := Lib.hid (show ToldZ 0 false q from ⟨rfl, qN, qn⟩)
      have TR := Lib.hid (show ToldZ 0 false r from ⟨rfl, rN, rn⟩)
      replace B5 := Lib.hid B5
      replace B6 := Lib.hid B6
      clear hE2 hEV qN qn rN rn hb0
      go_wp2_with fail
      clear hV
      refine ESg.out.mono ?_
      rintro e' V3 ⟨rfl, hE3⟩
      rw [Int.sign_zero]
      obtain ⟨d1, d2, -, -⟩ := (B5.out.below hE3.1 B5.out.lt).cells
      have HE3 := Lib.hid hE3
      clear hE3 c3 c4
      go_wp2_with fail
      refine (small5_E (x := q) (b := false) (n := 0) HE3.out (by simp) (by omega) TQ.out).mono ?_
      rintro e' V4 ⟨rfl, hE4⟩
      obtain ⟨f1, f2, -, -⟩ := (B6.out.below hE4.1 B6.out.lt).cells
      have HE4 := Lib.hid hE4
      clear hE4 d1 d2
      go_wp2_with fail
      refine (small5_E (x := r) (b := false) (n := 0) HE4.out (by simp) (by omega) TR.out).mono ?_
      rintro e' V5 ⟨rfl, hE5⟩
      go_wp2_with fail
      refine (wakes5_E SV hE5).mono ?_
      rintro e' V6 ⟨rfl, hE6⟩
      have HF := Lib.hid (HV.out.trans (hE6.1.mono HV.out.size))
      clear hE5 hE6
      go_wp2
      go_ret
      exact ⟨rfl, HF.out⟩
    · have x2 : (if Zb = 0 then 0 else Za.fmod Zb) = Za.fmod Zb := if_neg hb0
      have x3 : (if Zb = 0 then (30 : Int) else 0) = 0 := if_neg hb0
      rw [x2, x3]
      rw [x2] at rN rn
      clear x2 x3
      obtain ⟨hm1, hm2⟩ := fmod_side (Z := Za) hb0
      have hq1 := fdiv_le Za Zb
      have hsm := floor_sum Za Zb
      have hb1 : ¬ Zb.sign = 0 := fun h => hb0 (Int.sign_eq_zero_iff_zero.1 h)
      obtain ⟨Q, hQ⟩ : ∃ Q, Za.fdiv Zb = Q := ⟨_, rfl⟩
      obtain ⟨R, hR⟩ : ∃ R, Za.fmod Zb = R := ⟨_, rfl⟩
      rw [hQ] at qN qn hq1 hsm ⊢
      rw [hR] at rN rn hm1 hm2 hsm ⊢
      clear hQ hR
      have LQ := Lib.hid (lb_of_le HLL.out.1 hq1)
      have LR := Lib.hid (show Lb 60 R from Nat.lt_trans hm1 HLL.out.2)
      have HSM := Lib.hid hsm
      have HM1 := Lib.hid hm1
      have HM2 := Lib.hid hm2
      have HQ := Lib.hid (told_of qN qn)
      have HR := Lib.hid (told_of rN rn)
      have hEV := (hE2.alloc (.cells #[.bool (decide (Q < 0)), .slice q.A q.n q.c] 25)).alloc (.cells #[.bool (decide (R < 0)), .slice r.A r.n r.c] 25)
      have B5 := (Box2.new W2 25 (.bool (decide (Q < 0))) (.slice q.A q.n q.c)).alloc (.cells #[.bool (decide (R < 0)), .slice r.A r.n r.c] 25)
      have B6 := Box2.new (W2.alloc (.cells #[.bool (decide (Q < 0)), .slice q.A q.n q.c] 25)) 25 (.bool (decide (R < 0))) (.slice r.A r.n r.c)
      rw [World.size_alloc] at B6
      obtain ⟨V, hV⟩ : ∃ V, (W2.alloc (.cells #[.bool (decide (Q < 0)), .slice q.A q.n q.c] 25)).alloc (.cells #[.bool (decide (R < 0)), .slice r.A r.n r.c] 25) = V := ⟨_, rfl⟩
      rw [hV] at hEV B5 B6
      have ESg := Lib.hid (rSign5_E (b := by1) (Z := Zb) hEV.here (x := y) (by simp) hZb)
      have SV := S0.later hEV.1
      have HV := Lib.hid (H0.out.trans (hEV.1.mono H0.out.size))
      have B4V := Lib.hid (B4.out.below hEV.1 B4.out.lt)
      have B3V := Lib.hid (B3.out.below hEV.1 B3.out.lt)
      obtain ⟨c3, c4, -, -⟩ := B4V.out.cells
      replace B5 := Lib.hid B5
      replace B6 := Lib.hid B6
      clear hE2 hEV qN qn rN rn hm1 hm2 hq1 hsm B3 B4
      go_wp2_with fail
      clear hV
      refine ESg.out.mono ?_
      rintro e' V3 ⟨rfl, hE3⟩
      have HE3 := Lib.hid hE3.here
      have S3 := SV.later hE3.1
      have H3 := Lib.hid (HV.out.trans (hE3.1.mono HV.out.size))
      replace B3V := Lib.hid (B3V.out.below hE3.1 B3V.out.lt)
      replace B4V := Lib.hid (B4V.out.below hE3.1 B4V.out.lt)
      replace B5 := Lib.hid (B5.out.below hE3.1 B5.out.lt)
      replace B6 := Lib.hid (B6.out.below hE3.1 B6.out.lt)
      clear hE3 c3 c4 ESg
      have HZ := Lib.hid (And.intro hZa hZb)
      have RX := Lib.hid (fun V (hb : Below V3.heap.size V3 V) => (⟨bx, x, rfl, hZa, by have := HL.out.1; omega, (HE3.out.2 x (by simp)).later hb⟩ : RepZK 130 Za (.agg #[.bool bx, .slice x.A x.n x.c]) V))
      have RY := Lib.hid (fun V (hb : Below V3.heap.size V3 V) => (⟨by1, y, rfl, hZb, by have := HL.out.2; omega, (HE3.out.2 y (by simp)).later hb⟩ : RepZK 130 Zb (.agg #[.bool by1, .slice y.A y.n y.c]) V))
      have RQ := Lib.hid (fun V (hb : Below V3.heap.size V3 V) => (⟨q, rfl, HQ.out.2.1, HQ.out.2.2, (HE3.out.2 q (by simp)).later hb⟩ : RepT Q (.agg #[.bool (decide (Q < 0)), .slice q.A q.n q.c]) V))
      have RR := Lib.hid (fun V (hb : Below V3.heap.size V3 V) => (⟨r, rfl, HR.out.2.1, HR.out.2.2, (HE3.out.2 r (by simp)).later hb⟩ : RepT R (.agg #[.bool (decide (R < 0)), .slice r.A r.n r.c]) V))
      go_wp2
      refine wp_region_facts 15 [37, 38, 39, 40, 41, 42, 43, 44, 45, 46, 47, 48, 49, 50, 51] (fun i v V => match i with
          | 0 => v = .int .i64 0
          | 1 => v = .bool false
          | 2 => v = .bool false
          | 3 => v = .agg #[.bool (decide (Q < 0)), .slice q.A q.n q.c]
          | 4 => v = .agg #[.bool by1, .slice y.A y.n y.c]
          | 5 => RepRowK 130 [Q, Zb] v V
          | 6 => RepT (Q * Zb) v V
          | 7 => v = .agg #[.bool (decide (R < 0)), .slice r.A r.n r.c]
          | 8 => RepRowK 130 [Q * Zb, R] v V
          | 9 => RepT Za v V
          | 10 => v = .agg #[.bool bx, .slice x.A x.n x.c]
          | 11 => RepT Za v V
          | 12 => v = .bool true
          | 13 => v = .bool false
          | _ => v = .bool false) (fun V => Below V3.heap.size V3 V) (by kernel_rfl) (by kernel_rfl) rfl (by decide) (by first | (simp; done) | (simp; done)) (Below.refl _ _).drew ?_ ?_ ?_
      · intro i v V V2 hf hb _
        match i, hf with
        | 0, hf => exact hf
        | 1, hf => exact hf
        | 2, hf => exact hf
        | 3, hf => exact hf
        | 4, hf => exact hf
        | 5, hf => exact RepRowK.keep hf hb
        | 6, hf => exact RepT.keep hf hb
        | 7, hf => exact hf
        | 8, hf => exact RepRowK.keep hf hb
        | 9, hf => exact RepT.keep hf hb
        | 10, hf => exact hf
        | 11, hf => exact RepT.keep hf hb
        | 12, hf => exact hf
        | 13, hf => exact hf
        | _ + 14, hf => exact hf
      · intro i t ht a V hC hF hd
        match i, ht with
        | 0, ht =>
          cases ht
          have h7 : a.tmps[7]?.getD undef = .int .i64 0 := (hF.at_ 7 (by decide)).trans rfl
          exact step_value (v := .int .i64 0) rfl rfl (wanted_free rfl) (by go_simp) hC rfl
        | 1, ht =>
          cases ht
          have h37 : a.tmps[37]?.getD undef = .int .i64 0 := (slot_eq a 37).symm.trans (hd 0 37 rfl (by kernel_rfl))
          exact step_value (v := .bool false) rfl rfl (wanted_free rfl) (by go_simp) hC rfl
        | 2, ht =>
          cases ht
          have h38 : a.tmps[38]?.getD undef = .bool false := (slot_eq a 38).symm.trans (hd 1 38 rfl (by kernel_rfl))
          exact step_value (v := .bool false) rfl rfl (wanted_free rfl) (by go_simp) hC rfl
        | 3, ht =>
          cases ht
          have gk : a.tmps.getD 39 undef = .bool false := hd 2 39 rfl (by kernel_rfl)
          have h5 : a.tmps[5]?.getD undef = .pointer (some ⟨W2.heap.size, 0, none⟩) := (hF.at_ 5 (by decide)).trans rfl
          obtain ⟨c00, c01, -, -⟩ := (B5.out.below hC B5.out.lt).cells
          obtain ⟨c10, c11, -, -⟩ := (B6.out.below hC B6.out.lt).cells
          obtain ⟨c20, c21, -, -⟩ := (B3V.out.below hC B3V.out.lt).cells
          obtain ⟨c30, c31, -, -⟩ := (B4V.out.below hC B4V.out.lt).cells
          exact step_value (v := .agg #[.bool (decide (Q < 0)), .slice q.A q.n q.c]) rfl rfl ((wanted_if rfl rfl rfl gk).trans rfl) (by go_simp) hC rfl
        | 4, ht =>
          cases ht
          have gk : a.tmps.getD 39 undef = .bool false := hd 2 39 rfl (by kernel_rfl)
          have h3 : a.tmps[3]?.getD undef = .pointer (some ⟨w.heap.size + 1, 0, none⟩) := (hF.at_ 3 (by decide)).trans rfl
          obtain ⟨c00, c01, -, -⟩ := (B5.out.below hC B5.out.lt).cells
          obtain ⟨c10, c11, -, -⟩ := (B6.out.below hC B6.out.lt).cells
          obtain ⟨c20, c21, -, -⟩ := (B3V.out.below hC B3V.out.lt).cells
          obtain ⟨c30, c31, -, -⟩ := (B4V.out.below hC B4V.out.lt).cells
          exact step_value (v := .agg #[.bool by1, .slice y.A y.n y.c]) rfl rfl ((wanted_if rfl rfl rfl gk).trans rfl) (by go_simp) hC rfl
        | 5, ht =>
          cases ht
          have gk : a.tmps.getD 39 undef = .bool false := hd 2 39 rfl (by kernel_rfl)
          have h40 : a.tmps[40]?.getD undef = .agg #[.bool (decide (Q < 0)), .slice q.A q.n q.c] := (slot_eq a 40).symm.trans (hd 3 40 rfl (by kernel_rfl))
          have h41 : a.tmps[41]?.getD undef = .agg #[.bool by1, .slice y.A y.n y.c] := (slot_eq a 41).symm.trans (hd 4 41 rfl (by kernel_rfl))
          exact fk_two rfl rfl ((wanted_if rfl rfl rfl gk).trans rfl) rfl h40 h41 (RepT.zk (RQ.out V hC) (Nat.le_trans (lenL_le.2 LQ.out) (by omega))) (RY.out V hC) (fun V2 hb => hC.trans (hb.mono hC.size))
        | 6, ht =>
          cases ht
          have gk : a.tmps.getD 39 undef = .bool false := hd 2 39 rfl (by kernel_rfl)
          have r42 : RepRowK 130 [Q, Zb] (a.tmps.getD 42 undef) V := hd 5 42 rfl (by kernel_rfl)
          have h42 : a.tmps[42]?.getD undef = a.tmps.getD 42 undef := (slot_eq a 42).symm
          exact fk_mul rfl rfl ((wanted_if rfl rfl rfl gk).trans rfl) (fun V2 hb => hC.trans (hb.mono hC.size)) (call1_run ⟨_, rfl⟩ h42 (enters_of Tryd.func20 (by kernel_rfl) rfl)) r42 (Nat.le_refl _) (by simp)
        | 7, ht =>
          cases ht
          have gk : a.tmps.getD 39 undef = .bool false := hd 2 39 rfl (by kernel_rfl)
          have h6 : a.tmps[6]?.getD undef = .pointer (some ⟨W2.heap.size + 1, 0, none⟩) := (hF.at_ 6 (by decide)).trans rfl
          obtain ⟨c00, c01, -, -⟩ := (B5.out.below hC B5.out.lt).cells
          obtain ⟨c10, c11, -, -⟩ := (B6.out.below hC B6.out.lt).cells
          obtain ⟨c20, c21, -, -⟩ := (B3V.out.below hC B3V.out.lt).cells
          obtain ⟨c30, c31, -, -⟩ := (B4V.out.below hC B4V.out.lt).cells
          exact step_value (v := .agg #[.bool (decide (R < 0)), .slice r.A r.n r.c]) rfl rfl ((wanted_if rfl rfl rfl gk).trans rfl) (by go_simp) hC rfl
        | 8, ht =>
          cases ht
          have gk : a.tmps.getD 39 undef = .bool false := hd 2 39 rfl (by kernel_rfl)
          have r43 : RepT (Q * Zb) (a.tmps.getD 43 undef) V := hd 6 43 rfl (by kernel_rfl)
          have h43 : a.tmps[43]?.getD undef = a.tmps.getD 43 undef := (slot_eq a 43).symm
          have h44 : a.tmps[44]?.getD undef = .agg #[.bool (decide (R < 0)), .slice r.A r.n r.c] := (slot_eq a 44).symm.trans (hd 7 44 rfl (by kernel_rfl))
          exact fk_two rfl rfl ((wanted_if rfl rfl rfl gk).trans rfl) rfl h43 h44 (r43.zk (Nat.le_trans (lenL_le.2 (lb_mul LQ.out HLL.out.2)) (by omega))) (RepT.zk (RR.out V hC) (Nat.le_trans (lenL_le.2 LR.out) (by omega))) (fun V2 hb => hC.trans (hb.mono hC.size))
        | 9, ht =>
          cases ht
          have gk : a.tmps.getD 39 undef = .bool false := hd 2 39 rfl (by kernel_rfl)
          have r45 : RepRowK 130 [Q * Zb, R] (a.tmps.getD 45 undef) V := hd 8 45 rfl (by kernel_rfl)
          have h45 : a.tmps[45]?.getD undef = a.tmps.getD 45 undef := (slot_eq a 45).symm
          exact fk_add rfl rfl ((wanted_if rfl rfl rfl gk).trans rfl) (fun V2 hb => hC.trans (hb.mono hC.size)) (call1_run ⟨_, rfl⟩ h45 (enters_of Tryd.func19 (by kernel_rfl) rfl)) r45 (by omega) (by have := HSM.out; simp; omega)
        | 10, ht =>
          cases ht
          have gk : a.tmps.getD 39 undef = .bool false := hd 2 39 rfl (by kernel_rfl)
          have h2 : a.tmps[2]?.getD undef = .pointer (some ⟨w.heap.size, 0, none⟩) := (hF.at_ 2 (by decide)).trans rfl
          obtain ⟨c00, c01, -, -⟩ := (B5.out.below hC B5.out.lt).cells
          obtain ⟨c10, c11, -, -⟩ := (B6.out.below hC B6.out.lt).cells
          obtain ⟨c20, c21, -, -⟩ := (B3V.out.below hC B3V.out.lt).cells
          obtain ⟨c30, c31, -, -⟩ := (B4V.out.below hC B4V.out.lt).cells
          exact step_value (v := .agg #[.bool bx, .slice x.A x.n x.c]) rfl rfl ((wanted_if rfl rfl rfl gk).trans rfl) (by go_simp) hC rfl
        | 11, ht =>
          cases ht
          have gk : a.tmps.getD 39 undef = .bool false := hd 2 39 rfl (by kernel_rfl)
          have h47 : a.tmps[47]?.getD undef = .agg #[.bool bx, .slice x.A x.n x.c] := (slot_eq a 47).symm.trans (hd 10 47 rfl (by kernel_rfl))
          exact fk_norm (K := 130) rfl rfl ((wanted_if rfl rfl rfl gk).trans rfl) (fun V2 hb => hC.trans (hb.mono hC.size)) (call1_run ⟨_, rfl⟩ h47 (enters_of Tryd.func21 (by kernel_rfl) rfl)) (RX.out V hC)
        | 12, ht =>
          cases ht
          have gk : a.tmps.getD 39 undef = .bool false := hd 2 39 rfl (by kernel_rfl)
          have r46 : RepT Za (a.tmps.getD 46 undef) V := hd 9 46 rfl (by kernel_rfl)
          have h46 : a.tmps[46]?.getD undef = a.tmps.getD 46 undef := (slot_eq a 46).symm
          have r48 : RepT Za (a.tmps.getD 48 undef) V := hd 11 48 rfl (by kernel_rfl)
          have h48 : a.tmps[48]?.getD undef = a.tmps.getD 48 undef := (slot_eq a 48).symm
          exact fz_same rfl rfl ((wanted_if rfl rfl rfl gk).trans rfl) (fun V2 hb => hC.trans (hb.mono hC.size)) rfl (call2_run ⟨_, rfl⟩ h46 h48 (enters_of Tryd.func11 (by kernel_rfl) rfl)) r46 r48 rfl (fun _ => rfl)
        | 13, ht =>
          cases ht
          have gk : a.tmps.getD 39 undef = .bool false := hd 2 39 rfl (by kernel_rfl)
          have h49 : a.tmps[49]?.getD undef = .bool true := (slot_eq a 49).symm.trans (hd 12 49 rfl (by kernel_rfl))
          exact step_value (v := .bool false) rfl rfl ((wanted_if rfl rfl rfl gk).trans rfl) (by go_simp) hC rfl
        | 14, ht =>
          cases ht
          have h39 : a.tmps[39]?.getD undef = .bool false := (slot_eq a 39).symm.trans (hd 2 39 rfl (by kernel_rfl))
          have h50 : a.tmps[50]?.getD undef = .bool false := (slot_eq a 50).symm.trans (hd 13 50 rfl (by kernel_rfl))
          exact step_value (v := .bool false) rfl rfl (wanted_free rfl) (by go_simp) hC rfl
        | k + 15, ht => simp at ht
      · intro a2 V9 hC hF hf
        obtain ⟨A1, k1, l1, p42, -⟩ := (hf 5 42 rfl : RepRowK 130 [Q, Zb] (a2.tmps.getD 42 undef) V9)
        obtain ⟨z1, p43, -⟩ := (hf 6 43 rfl : RepT (Q * Zb) (a2.tmps.getD 43 undef) V9)
        obtain ⟨A2, k2, l2, p45, -⟩ := (hf 8 45 rfl : RepRowK 130 [Q * Zb, R] (a2.tmps.getD 45 undef) V9)
        obtain ⟨z2, p46, -⟩ := (hf 9 46 rfl : RepT Za (a2.tmps.getD 46 undef) V9)
        obtain ⟨z3, p48, -⟩ := (hf 11 48 rfl : RepT Za (a2.tmps.getD 48 undef) V9)
        have hlit := act_eq (a := a2) [.agg #[.bool bx, .slice x.A x.n x.c], .agg #[.bool by1, .slice y.A y.n y.c], .pointer (some ⟨w.heap.size, 0, none⟩), .pointer (some ⟨w.heap.size + 1, 0, none⟩), .bool false, .pointer (some ⟨W2.heap.size, 0, none⟩), .pointer (some ⟨W2.heap.size + 1, 0, none⟩), .int .i64 0, undef, .agg #[.bool bx, .slice x.A x.n x.c], .agg #[.bool by1, .slice y.A y.n y.c], .slice (some ⟨W1.heap.size, 0, none⟩) 2 2, .bool false, undef, .tuple #[.agg #[.bool (decide (Q < 0)), .slice q.A q.n q.c], .agg #[.bool (decide (R < 0)), .slice r.A r.n r.c], .int .i64 0], .agg #[.bool bx, .slice x.A x.n x.c], .agg #[.bool by1, .slice y.A y.n y.c], .tuple #[.agg #[.bool (decide (Q < 0)), .slice q.A q.n q.c], .agg #[.bool (decide (R < 0)), .slice r.A r.n r.c], .int .i64 0], .agg #[.bool (decide (Q < 0)), .slice q.A q.n q.c], .agg #[.bool (decide (R < 0)), .slice r.A r.n r.c], .int .i64 0, .agg #[.bool by1, .slice y.A y.n y.c], .int .i64 Zb.sign, .bool (Zb.sign == 0), undef, undef, undef, undef, undef, undef, undef, undef, undef, undef, undef, undef, undef, .int .i64 0, .bool false, .bool false, .agg #[.bool (decide (Q < 0)), .slice q.A q.n q.c], .agg #[.bool by1, .slice y.A y.n y.c], .slice A1 l1.length k1, .agg #[.bool (decide (Q * Zb < 0)), .slice z1.A z1.n z1.c], .agg #[.bool (decide (R < 0)), .slice r.A r.n r.c], .slice A2 l2.length k2, .agg #[.bool (decide (Za < 0)), .slice z2.A z2.n z2.c], .agg #[.bool bx, .slice x.A x.n x.c], .agg #[.bool (decide (Za < 0)), .slice z3.A z3.n z3.c], .bool true, .bool false, .bool false, undef, undef, undef, undef, undef, undef, undef, undef, undef, undef, undef, undef, undef, undef, undef, undef, undef, undef, undef, undef, undef] (by simpa using hF.size) hF.defers (fun i hi => match i, hi with
          | 0, _ => (hF.same 0 (by decide)).trans rfl
          | 1, _ => (hF.same 1 (by decide)).trans rfl
          | 2, _ => (hF.same 2 (by decide)).trans rfl
          | 3, _ => (hF.same 3 (by decide)).trans rfl
          | 4, _ => (hF.same 4 (by decide)).trans rfl
          | 5, _ => (hF.same 5 (by decide)).trans rfl
          | 6, _ => (hF.same 6 (by decide)).trans rfl
          | 7, _ => (hF.same 7 (by decide)).trans rfl
          | 8, _ => (hF.same 8 (by decide)).trans rfl
          | 9, _ => (hF.same 9 (by decide)).trans rfl
          | 10, _ => (hF.same 10 (by decide)).trans rfl
          | 11, _ => (hF.same 11 (by decide)).trans rfl
          | 12, _ => (hF.same 12 (by decide)).trans rfl
          | 13, _ => (hF.same 13 (by decide)).trans rfl
          | 14, _ => (hF.same 14 (by decide)).trans rfl
          | 15, _ => (hF.same 15 (by decide)).trans rfl
          | 16, _ => (hF.same 16 (by decide)).trans rfl
          | 17, _ => (hF.same 17 (by decide)).trans rfl
          | 18, _ => (hF.same 18 (by decide)).trans rfl
          | 19, _ => (hF.same 19 (by decide)).trans rfl
          | 20, _ => (hF.same 20 (by decide)).trans rfl
          | 21, _ => (hF.same 21 (by decide)).trans rfl
          | 22, _ => (hF.same 22 (by decide)).trans rfl
          | 23, _ => (hF.same 23 (by decide)).trans rfl
          | 24, _ => (hF.same 24 (by decide)).trans rfl
          | 25, _ => (hF.same 25 (by decide)).trans rfl
          | 26, _ => (hF.same 26 (by decide)).trans rfl
          | 27, _ => (hF.same 27 (by decide)).trans rfl
          | 28, _ => (hF.same 28 (by decide)).trans rfl
          | 29, _ => (hF.same 29 (by decide)).trans rfl
          | 30, _ => (hF.same 30 (by decide)).trans rfl
          | 31, _ => (hF.same 31 (by decide)).trans rfl
          | 32, _ => (hF.same 32 (by decide)).trans rfl
          | 33, _ => (hF.same 33 (by decide)).trans rfl
          | 34, _ => (hF.same 34 (by decide)).trans rfl
          | 35, _ => (hF.same 35 (by decide)).trans rfl
          | 36, _ => (hF.same 36 (by decide)).trans rfl
          | 37, _ => (hf 0 37 rfl : a2.tmps.getD 37 undef = _)
          | 38, _ => (hf 1 38 rfl : a2.tmps.getD 38 undef = _)
          | 39, _ => (hf 2 39 rfl : a2.tmps.getD 39 undef = _)
          | 40, _ => (hf 3 40 rfl : a2.tmps.getD 40 undef = _)
          | 41, _ => (hf 4 41 rfl : a2.tmps.getD 41 undef = _)
          | 42, _ => p42
          | 43, _ => p43
          | 44, _ => (hf 7 44 rfl : a2.tmps.getD 44 undef = _)
          | 45, _ => p45
          | 46, _ => p46
          | 47, _ => (hf 10 47 rfl : a2.tmps.getD 47 undef = _)
          | 48, _ => p48
          | 49, _ => (hf 12 49 rfl : a2.tmps.getD 49 undef = _)
          | 50, _ => (hf 13 50 rfl : a2.tmps.getD 50 undef = _)
          | 51, _ => (hf 14 51 rfl : a2.tmps.getD 51 undef = _)
          | 52, _ => (hF.same 52 (by decide)).trans rfl
          | 53, _ => (hF.same 53 (by decide)).trans rfl
          | 54, _ => (hF.same 54 (by decide)).trans rfl
          | 55, _ => (hF.same 55 (by decide)).trans rfl
          | 56, _ => (hF.same 56 (by decide)).trans rfl
          | 57, _ => (hF.same 57 (by decide)).trans rfl
          | 58, _ => (hF.same 58 (by decide)).trans rfl
          | 59, _ => (hF.same 59 (by decide)).trans rfl
          | 60, _ => (hF.same 60 (by decide)).trans rfl
          | 61, _ => (hF.same 61 (by decide)).trans rfl
          | 62, _ => (hF.same 62 (by decide)).trans rfl
          | 63, _ => (hF.same 63 (by decide)).trans rfl
          | 64, _ => (hF.same 64 (by decide)).trans rfl
          | 65, _ => (hF.same 65 (by decide)).trans rfl
          | 66, _ => (hF.same 66 (by decide)).trans rfl
          | 67, _ => (hF.same 67 (by decide)).trans rfl
          | 68, _ => (hF.same 68 (by decide)).trans rfl
          | 69, _ => (hF.same 69 (by decide)).trans rfl
          | 70, _ => (hF.same 70 (by decide)).trans rfl
          | 71, _ => (hF.same 71 (by decide)).trans rfl
          | 72, _ => (hF.same 72 (by decide)).trans rfl
          | _ + 73, h => absurd h (by simp only [List.length_cons, List.length_nil]; omega))
        subst hlit
        have hE9 := HE3.out.step hC
        have ESr := Lib.hid (rSign5_E (b := decide (R < 0)) (Z := R) hE9 (x := r) (by simp) HR.out.z)
        obtain ⟨d1, d2, -, -⟩ := (B6.out.below hC B6.out.lt).cells
        clear hf hF p42 p43 p45 p46 p48 hE9 hC
        show wpList _ _ _ [] _ V9
        by_cases hr0 : R = 0
        · rw [hr0, Int.sign_zero] at ESr
          have hrd : decide (R < 0) = false := by rw [hr0]; rfl
          go_wp2_with fail
          refine ESr.out.mono ?_
          rintro e' V10 ⟨rfl, hE10⟩
          have EC := rCmp_E hE10 (x := r) (y := y) (by simp) (by simp)
          rw [cmpN_lt (by rw [HR.out.2.1, ← zOf_abs by1 y.N, HZ.out.2]; exact HM1.out)] at EC
          replace EC := Lib.hid EC
          obtain ⟨f1, f2, -, -⟩ := (B6.out.below hE10.1 B6.out.lt).cells
          obtain ⟨f3, f4, -, -⟩ := (B4V.out.below hE10.1 B4V.out.lt).cells
          clear hE10 d1 d2
          go_wp2_with fail
          refine EC.out.mono ?_
          rintro e' V11 ⟨rfl, hE11⟩
          go_wp2_with fail
          refine (wakes5_E S3 hE11).mono ?_
          rintro e' V12 ⟨rfl, hE12⟩
          have HF := Lib.hid (H3.out.trans (hE12.1.mono H3.out.size))
          clear hE11 hE12
          go_wp2
          go_ret
          exact ⟨rfl, HF.out⟩
        · have hrs : R.sign = Zb.sign := HM2.out.resolve_left hr0
          rw [hrs] at ESr
          clear hrs hr0
          go_wp2_with fail
          refine ESr.out.mono ?_
          rintro e' V10 ⟨rfl, hE10⟩
          have ESb := Lib.hid (rSign5_E (b := by1) (Z := Zb) hE10 (x := y) (by simp) HZ.out.2)
          obtain ⟨f3, f4, -, -⟩ := (B4V.out.below hE10.1 B4V.out.lt).cells
          clear hE10 d1 d2
          go_wp2_with fail
          refine ESb.out.mono ?_
          rintro e' V11 ⟨rfl, hE11⟩
          have EC := rCmp_E hE11 (x := r) (y := y) (by simp) (by simp)
          rw [cmpN_lt (by rw [HR.out.2.1, ← zOf_abs by1 y.N, HZ.out.2]; exact HM1.out)] at EC
          replace EC := Lib.hid EC
          clear f3 f4
          obtain ⟨f1, f2, -, -⟩ := (B6.out.below hE11.1 B6.out.lt).cells
          obtain ⟨f3, f4, -, -⟩ := (B4V.out.below hE11.1 B4V.out.lt).cells
          clear hE11
          go_wp2_with fail
          refine EC.out.mono ?_
          rintro e' V12 ⟨rfl, hE12⟩
          go_wp2_with fail
          refine (wakes5_E S3 hE12).mono ?_
          rintro e' V13 ⟨rfl, hE13⟩
          have HF := Lib.hid (H3.out.trans (hE13.1.mono H3.out.size))
          clear hE12 hE13
          go_wp2
          go_ret
          exact ⟨rfl, HF.out⟩
end Go.Proofs.YtolldhfcnbbelaaDoor
