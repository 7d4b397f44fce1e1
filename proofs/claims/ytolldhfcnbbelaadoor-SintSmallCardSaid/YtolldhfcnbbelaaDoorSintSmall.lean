/- SintSmall, over what the program's functions answer: small integers are told as they are, and reckoned with as they are. -/
import Derived.Test.YtolldhfcnbbelaaDoorGRefE
import Derived.Test.YtolldhfcnbbelaaDoorGSintA
import Derived.Test.YtolldhfcnbbelaaDoorLaw
namespace Go.Proofs.YtolldhfcnbbelaaDoor
open Go Go.ChangeShapes Go.WideShapes Go.ChangeAt Go.RowKit Go.Deep

theorem fits_of {n : Int} (h : -9223372036854775808 ≤ n ∧ n ≤ 9223372036854775807) : fitsZ n = true := by unfold fitsZ; rw [decide_eq_true h]
theorem mul_small {a b : Int} (h1 : -1073741824 ≤ a ∧ a ≤ 1073741824) (h2 : -1073741824 ≤ b ∧ b ≤ 1073741824) : -1152921504606846976 ≤ a * b ∧ a * b ≤ 1152921504606846976 := by
  have h3 : a.natAbs * b.natAbs ≤ 1073741824 * 1073741824 := Nat.mul_le_mul (by omega) (by omega)
  rw [← Int.natAbs_mul] at h3
  omega

theorem sNeg_E {w W : World} {e : List Num} {x : Num} {b : Bool} {Z Y : Int} (S : SintTold w) (h : Env w e W) (hx : x ∈ e) (bx : x.n ≤ 10000) (zx : zOf b x.N = Z) (hY : -Z = Y) : Calls Tryd.prog 12 #[.agg #[.bool b, .slice x.A x.n x.c]] W (Zs w e Y) := by
  subst hY
  exact S.neg w W e b x Z h.1 h hx bx zx
/-- Dividing downwards, by what is divided towards nought. -/
theorem floor_trunc {a b : Int} (h0 : b ≠ 0) (h1 : -1073741824 ≤ a ∧ a ≤ 1073741824) (h2 : -1073741824 ≤ b ∧ b ≤ 1073741824) :
    ((a.tmod b = 0 ∨ (a < 0 ↔ b < 0)) → a.fdiv b = a.tdiv b) ∧ (a.tmod b ≠ 0 → ¬ (a < 0 ↔ b < 0) → a.fdiv b = a.tdiv b - 1) ∧ a - a.fdiv b * b = a.fmod b ∧
      (-1073741825 ≤ a.fdiv b ∧ a.fdiv b ≤ 1073741825 ∧ -1073741824 ≤ a.fmod b ∧ a.fmod b ≤ 1073741824 ∧ -1073741824 ≤ a.tdiv b ∧ a.tdiv b ≤ 1073741824) := by
  have hd := Int.tmod_add_mul_tdiv a b
  have e1 := Int.natAbs_tmod a b
  have e2 := Int.natAbs_tdiv_le_natAbs a b
  have e3 := Nat.mod_lt a.natAbs (show 0 < b.natAbs by omega)
  have e4 : 0 ≤ a → 0 ≤ a.tmod b := Int.tmod_nonneg b
  have e5 : a < 0 → a.tmod b ≤ 0 := fun h => by
    have := Int.tmod_nonneg (a := -a) b (by omega)
    rw [Int.neg_tmod] at this
    omega
  have e6 := Int.fmod_def a b
  have e7 : a - a.fdiv b * b = a.fmod b := by rw [e6, Int.mul_comm]
  generalize a.tmod b = M at *
  generalize hT : a.tdiv b = T at *
  rcases Int.lt_trichotomy b 0 with hb | hb | hb
  · by_cases hM : M = 0 ∨ (a < 0 ↔ b < 0)
    · have := (Int.fdiv_fmod_unique' (a := a) (b := b) (r := M) (q := T) hb).2 ⟨hd, by omega, by omega⟩
      refine ⟨fun _ => this.1, fun h3 h4 => by omega, e7, ?_⟩
      rw [this.1, this.2]
      omega
    · have := (Int.fdiv_fmod_unique' (a := a) (b := b) (r := M + b) (q := T - 1) hb).2 ⟨by rw [Int.mul_sub, Int.mul_one]; omega, by omega, by omega⟩
      refine ⟨fun h => absurd h hM, fun _ _ => this.1, e7, ?_⟩
      rw [this.1, this.2]
      omega
  · exact absurd hb h0
  · by_cases hM : M = 0 ∨ (a < 0 ↔ b < 0)
    · have := (Int.fdiv_fmod_unique (a := a) (b := b) (r := M) (q := T) hb).2 ⟨hd, by omega, by omega⟩
      refine ⟨fun _ => this.1, fun h3 h4 => by omega, e7, ?_⟩
      rw [this.1, this.2]
      omega
    · have := (Int.fdiv_fmod_unique (a := a) (b := b) (r := M + b) (q := T - 1) hb).2 ⟨by rw [Int.mul_sub, Int.mul_one]; omega, by omega, by omega⟩
      refine ⟨fun h => absurd h hM, fun _ _ => this.1, e7, ?_⟩
      rw [this.1, this.2]
      omega

set_option maxRecDepth 100000 in
set_option maxHeartbeats 16000000 in
theorem ssmall_any (w : World) (S : SintTold w) (n a b : Int) (hn : -9223372036854775808 ≤ n ∧ n ≤ 9223372036854775807) (ha : -9223372036854775808 ≤ a ∧ a ≤ 9223372036854775807) (hb : -9223372036854775808 ≤ b ∧ b ≤ 9223372036854775807) :
    Calls Tryd.prog 6 #[.int .i64 n, .int .i64 a, .int .i64 b] w fun e w' => e = .returned (.bool true) ∧ Below w.heap.size w w' := by
  have hE0 := Lib.hid (Env.start (w := w) (l := []) (by simp))
  have HN := Lib.hid hn
  go_enter Tryd.func6, Tryd.ntmps6
  go_wp2_with fail
  refine (S.of _ _ _ n hE0.out.1 hE0.out HN.out).mono ?_
  rintro e' V1 ⟨x, rfl, xN, xn, hE1⟩
  replace hE1 := Lib.hid hE1
  replace xN := Lib.hid xN
  replace xn := Lib.hid xn
  go_wp2_with fail
  refine (S.small _ _ _ _ x n hE1.out.1 hE1.out (by simp) (len_small HN.out xn.out) (z_told xN.out)).mono ?_
  rintro e' V2 ⟨rfl, hE2⟩
  replace hE2 := Lib.hid hE2
  dsimp only
  rw [fits_of HN.out]
  go_wp2_with fail
  refine (S.of _ _ _ n hE2.out.1 hE2.out HN.out).mono ?_
  rintro e' V3 ⟨x2, rfl, x2N, x2n, hE3⟩
  replace hE3 := Lib.hid hE3
  replace x2N := Lib.hid x2N
  replace x2n := Lib.hid x2n
  go_wp2_with fail
  refine (S.norm _ _ _ _ x2 n hE3.out.1 hE3.out (by simp) (len_small HN.out x2n.out) (z_told x2N.out)).mono ?_
  rintro e' V4 ⟨x3, rfl, x3N, x3n, hE4⟩
  dsimp only [id] at x3N x3n ⊢
  replace hE4 := Lib.hid hE4
  replace x3N := Lib.hid x3N
  replace x3n := Lib.hid x3n
  go_wp2_with fail
  refine (small5_E (x := x3) (b := decide (n < 0)) (n := n) hE4.out (by simp) HN.out (told_of x3N.out x3n.out)).mono ?_
  rintro e' V5 ⟨rfl, hE5⟩
  replace hE5 := Lib.hid hE5
  have far : ∀ V, Env w (x3 :: x2 :: x :: []) V → Calls Tryd.prog 8 #[] V fun e' W' => e' = .returned (.bool true) ∧ Below w.heap.size w W' := fun V hV => (wakes5_E S hV).mono fun _ _ ⟨h1, h2⟩ => ⟨h1, h2.1⟩
  have FAR := Lib.hid far
  clear far
  by_cases h1 : 1073741824 < a
  · go_wp2_with fail
    refine (FAR.out _ hE5.out).mono ?_
    rintro e' V6 ⟨rfl, hB⟩
    go_wp2
    go_ret
    exact ⟨rfl, hB⟩
  by_cases h2 : a < -1073741824
  · go_wp2_with fail
    refine (FAR.out _ hE5.out).mono ?_
    rintro e' V6 ⟨rfl, hB⟩
    go_wp2
    go_ret
    exact ⟨rfl, hB⟩
  by_cases h3 : 1073741824 < b
  · go_wp2_with fail
    refine (FAR.out _ hE5.out).mono ?_
    rintro e' V6 ⟨rfl, hB⟩
    go_wp2
    go_ret
    exact ⟨rfl, hB⟩
  by_cases h4 : b < -1073741824
  · go_wp2_with fail
    refine (FAR.out _ hE5.out).mono ?_
    rintro e' V6 ⟨rfl, hB⟩
    go_wp2
    go_ret
    exact ⟨rfl, hB⟩
  have ba : -1073741824 ≤ a ∧ a ≤ 1073741824 := by omega
  have bb : -1073741824 ≤ b ∧ b ≤ 1073741824 := by omega
  have bm := mul_small ba bb
  have A1 := Lib.hid (show -9223372036854775808 ≤ a ∧ a ≤ 9223372036854775807 by omega)
  have A2 := Lib.hid (show -9223372036854775808 ≤ b ∧ b ≤ 9223372036854775807 by omega)
  have A3 := Lib.hid (show -9223372036854775808 ≤ a + b ∧ a + b ≤ 9223372036854775807 by omega)
  have A4 := Lib.hid (show -9223372036854775808 ≤ a - b ∧ a - b ≤ 9223372036854775807 by omega)
  have A5 := Lib.hid (show -9223372036854775808 ≤ a * b ∧ a * b ≤ 9223372036854775807 by omega)
  have A6 := Lib.hid (show -9223372036854775808 ≤ -a ∧ -a ≤ 9223372036854775807 by omega)
  have W3 : IntKind.i64.wrap (a + b) = a + b := by rw [IntKind.wrap_i64]; omega
  have W4 : IntKind.i64.wrap (a - b) = a - b := by rw [IntKind.wrap_i64]; omega
  have W5 : IntKind.i64.wrap (a * b) = a * b := by rw [IntKind.wrap_i64]; omega
  have W6 : IntKind.i64.wrap (-a) = -a := by rw [IntKind.wrap_i64]; omega
  have BA := Lib.hid ba
  have BB := Lib.hid bb
  clear ba bb bm ha hb hn
  obtain ⟨P, hP⟩ : ∃ P, a * b = P := ⟨_, rfl⟩
  replace W5 : IntKind.i64.wrap (a * b) = P := by rw [W5, hP]
  rw [hP] at A5
  have HP := Lib.hid hP
  clear hP
  go_wp2_with fail
  refine (S.of _ _ _ a hE5.out.1 hE5.out A1.out).mono ?_
  rintro e' V6 ⟨s, rfl, sN, sn, hE6⟩
  replace hE6 := Lib.hid hE6
  replace sN := Lib.hid sN
  replace sn := Lib.hid sn
  go_wp2_with fail
  refine (S.of _ _ _ b hE6.out.1 hE6.out A2.out).mono ?_
  rintro e' V7 ⟨t, rfl, tN, tn, hE7⟩
  replace tN := Lib.hid tN
  replace tn := Lib.hid tn
  have S7 := S.later hE7.1
  have B1 := ((Box2.new V7 25 (.bool (decide (a < 0))) (.slice s.A s.n s.c)).alloc (.cells #[.bool (decide (b < 0)), .slice t.A t.n t.c] 25))
  have B2 := (Box2.new (V7.alloc (.cells #[.bool (decide (a < 0)), .slice s.A s.n s.c] 25)) 25 (.bool (decide (b < 0))) (.slice t.A t.n t.c))
  rw [World.size_alloc] at B2
  have hE8 := ((hE7.here.alloc (.cells #[.bool (decide (a < 0)), .slice s.A s.n s.c] 25)).alloc (.cells #[.bool (decide (b < 0)), .slice t.A t.n t.c] 25))
  obtain ⟨V8, hV8⟩ : ∃ V8, (V7.alloc (.cells #[.bool (decide (a < 0)), .slice s.A s.n s.c] 25)).alloc (.cells #[.bool (decide (b < 0)), .slice t.A t.n t.c] 25) = V8 := ⟨_, rfl⟩
  rw [hV8] at B1 B2 hE8
  have S8 := S7.later hE8.1
  have H8 := Lib.hid (hE7.1.trans (hE8.1.mono hE7.1.size))
  replace hE8 := Lib.hid hE8.here
  replace B1 := Lib.hid B1
  replace B2 := Lib.hid B2
  have s8 : V7.heap.size + 2 = V8.heap.size := by rw [← hV8]; simp
  obtain ⟨c1, c2, -, -⟩ := B1.out.cells
  obtain ⟨c3, c4, -, -⟩ := B2.out.cells
  clear hE7 hE6
  go_wp2_with fail
  clear hV8
  refine (sAdd2_E S8 (x := s) (y := t) (Z := a) (Z' := b) hE8.out (by simp) (by simp) rfl (len_small A1.out sn.out) (len_small A2.out tn.out) (z_told sN.out) (z_told tN.out)).mono ?_
  rintro e' V9 ⟨u, rfl, uN, un, hE9⟩
  replace hE9 := Lib.hid hE9
  replace uN := Lib.hid uN
  replace un := Lib.hid un
  clear c1 c2 c3 c4
  go_wp2_with fail
  refine (small5_E (x := u) (b := decide (a + b < 0)) (n := a + b) hE9.out (by simp) A3.out (told_of uN.out un.out)).mono ?_
  rintro e' V10 ⟨rfl, hE10⟩
  replace hE10 := Lib.hid hE10
  obtain ⟨c1, c2, -, -⟩ := (B1.out.below hE10.out.1 B1.out.lt).cells
  obtain ⟨c3, c4, -, -⟩ := (B2.out.below hE10.out.1 B2.out.lt).cells
  go_wp2_with fail
  refine (S8.sub _ _ _ _ s _ t a b hE10.out.1 hE10.out (by simp) (by simp) (len_small A1.out sn.out) (len_small A2.out tn.out) (z_told sN.out) (z_told tN.out)).mono ?_
  rintro e' V11 ⟨v, rfl, vN, vn, hE11⟩
  dsimp only at vN vn ⊢
  replace hE11 := Lib.hid hE11
  replace vN := Lib.hid vN
  replace vn := Lib.hid vn
  clear c1 c2 c3 c4
  go_wp2_with fail
  refine (small5_E (x := v) (b := decide (a - b < 0)) (n := a - b) hE11.out (by simp) A4.out (told_of vN.out vn.out)).mono ?_
  rintro e' V12 ⟨rfl, hE12⟩
  replace hE12 := Lib.hid hE12
  obtain ⟨c1, c2, -, -⟩ := (B1.out.below hE12.out.1 B1.out.lt).cells
  obtain ⟨c3, c4, -, -⟩ := (B2.out.below hE12.out.1 B2.out.lt).cells
  go_wp2_with fail
  refine (sMul2_E S8 (x := s) (y := t) (Z := a) (Z' := b) hE12.out (by simp) (by simp) rfl (len_small A1.out sn.out) (len_small A2.out tn.out) (z_told sN.out) (z_told tN.out)).mono ?_
  rintro e' V13 ⟨z, rfl, zN, zn, hE13⟩
  rw [HP.out] at zN zn ⊢
  replace hE13 := Lib.hid hE13
  replace zN := Lib.hid zN
  replace zn := Lib.hid zn
  clear c1 c2 c3 c4
  go_wp2_with fail
  refine (small5_E (x := z) (b := decide (P < 0)) (n := P) hE13.out (by simp) A5.out (told_of zN.out zn.out)).mono ?_
  rintro e' V14 ⟨rfl, hE14⟩
  replace hE14 := Lib.hid hE14
  obtain ⟨c1, c2, -, -⟩ := (B1.out.below hE14.out.1 B1.out.lt).cells
  go_wp2_with fail
  obtain ⟨Y, hY⟩ : ∃ Y, -a = Y := ⟨_, rfl⟩
  replace W6 : IntKind.i64.wrap (-a) = Y := by rw [W6, hY]
  rw [hY] at A6
  refine (sNeg_E S8 (x := s) hE14.out (by simp) (len_small A1.out sn.out) (z_told sN.out) hY).mono ?_
  clear hY
  rintro e' V15 ⟨o, rfl, oN, on, hE15⟩
  replace hE15 := Lib.hid hE15
  replace oN := Lib.hid oN
  replace on := Lib.hid on
  clear c1 c2
  go_wp2_with fail
  refine (small5_E (x := o) (b := decide (Y < 0)) (n := Y) hE15.out (by simp) A6.out (told_of oN.out on.out)).mono ?_
  rintro e' V16 ⟨rfl, hE16⟩
  replace hE16 := Lib.hid hE16
  obtain ⟨c1, c2, -, -⟩ := (B1.out.below hE16.out.1 B1.out.lt).cells
  obtain ⟨c3, c4, -, -⟩ := (B2.out.below hE16.out.1 B2.out.lt).cells
  go_wp2_with fail
  refine (S8.div _ _ _ _ s _ t a b hE16.out.1 hE16.out (by simp) (by simp) (len_small A1.out sn.out) (len_small A2.out tn.out) (z_told sN.out) (z_told tN.out)).mono ?_
  rintro e' V17 ⟨q, r, rfl, qN, qn, rN, rn, hE17⟩
  clear c1 c2 c3 c4 W3 W4 W5 W6
  by_cases hb0 : b = 0
  · have x2 : (if b = 0 then 0 else a.fmod b) = 0 := if_pos hb0
    have x3 : (if b = 0 then (30 : Int) else 0) = 30 := if_pos hb0
    rw [x2, x3]
    clear x2 x3
    have HE := Lib.hid (fun bb => (hE17.alloc (.cells #[.bool bb, .slice q.A q.n q.c] 25)).alloc (.cells #[.bool false, .slice r.A r.n r.c] 25))
    have hd : decide ((0 : Int) < 0) = false := rfl
    rw [hd]
    clear hE17 qN qn rN rn
    go_wp2_with fail
    refine (wakes5_E S8 (HE.out _)).mono ?_
    rintro e' V18 ⟨rfl, hE18⟩
    have HF := Lib.hid (H8.out.trans (hE18.1.mono H8.out.size))
    clear hE18
    go_wp2
    go_ret
    exact ⟨rfl, HF.out⟩
  · have x2 : (if b = 0 then 0 else a.fmod b) = a.fmod b := if_neg hb0
    have x3 : (if b = 0 then (30 : Int) else 0) = 0 := if_neg hb0
    rw [x2, x3]
    rw [x2] at rN rn
    clear x2 x3
    obtain ⟨hf1, hf2, hf3, hf4⟩ := floor_trunc hb0 BA.out BB.out
    obtain ⟨T, hT⟩ : ∃ T, a.tdiv b = T := ⟨_, rfl⟩
    obtain ⟨M, hM⟩ : ∃ M, a.tmod b = M := ⟨_, rfl⟩
    obtain ⟨K, hK⟩ : ∃ K, a.fdiv b = K := ⟨_, rfl⟩
    obtain ⟨R, hR⟩ : ∃ R, a.fmod b = R := ⟨_, rfl⟩
    rw [hT, hM, hK] at hf1
    rw [hT, hM, hK] at hf2
    rw [hK, hR] at hf3
    rw [hK, hR, hT] at hf4
    rw [hK] at qN qn
    rw [hR] at rN rn
    rw [hK, hR]
    have B3 := ((Box2.new V17 25 (.bool (decide (K < 0))) (.slice q.A q.n q.c)).alloc (.cells #[.bool (decide (R < 0)), .slice r.A r.n r.c] 25))
    have B4 := (Box2.new (V17.alloc (.cells #[.bool (decide (K < 0)), .slice q.A q.n q.c] 25)) 25 (.bool (decide (R < 0))) (.slice r.A r.n r.c))
    rw [World.size_alloc] at B4
    have hE18 := ((hE17.alloc (.cells #[.bool (decide (K < 0)), .slice q.A q.n q.c] 25)).alloc (.cells #[.bool (decide (R < 0)), .slice r.A r.n r.c] 25))
    obtain ⟨V18, hV18⟩ : ∃ V18, (V17.alloc (.cells #[.bool (decide (K < 0)), .slice q.A q.n q.c] 25)).alloc (.cells #[.bool (decide (R < 0)), .slice r.A r.n r.c] 25) = V18 := ⟨_, rfl⟩
    rw [hV18] at B3 B4 hE18
    have S18 := S8.later hE18.1
    have H18 := Lib.hid (H8.out.trans (hE18.1.mono H8.out.size))
    have HE18 := Lib.hid hE18.here
    replace B3 := Lib.hid B3
    replace B4 := Lib.hid B4
    replace qN := Lib.hid qN
    replace qn := Lib.hid qn
    replace rN := Lib.hid rN
    replace rn := Lib.hid rn
    have s18 : V17.heap.size + 2 = V18.heap.size := by rw [← hV18]; simp
    obtain ⟨d1, d2, -, -⟩ := B3.out.cells
    obtain ⟨q1, q2, q3, q4, q5, q6⟩ := hf4
    have AK := Lib.hid (show -9223372036854775808 ≤ K ∧ K ≤ 9223372036854775807 by omega)
    have AR := Lib.hid (show -9223372036854775808 ≤ R ∧ R ≤ 9223372036854775807 by omega)
    obtain ⟨Pk, hPk⟩ : ∃ Pk, K * b = Pk := ⟨_, rfl⟩
    rw [hPk] at hf3
    have ba := BA.out
    have w1 : IntKind.i64.wrap (K * b) = Pk := by rw [hPk, IntKind.wrap_i64]; omega
    have w2 : IntKind.i64.wrap (a - Pk) = R := by rw [hf3, IntKind.wrap_i64]; omega
    have w3 : IntKind.i64.wrap T = T := by rw [IntKind.wrap_i64]; omega
    have w4 : M ≠ 0 → ¬ (a < 0 ↔ b < 0) → IntKind.i64.wrap (T - 1) = K := fun h h' => by rw [hf2 h h', IntKind.wrap_i64]; omega
    clear q1 q2 q3 q4 q5 q6 ba hf3 hPk hE17 hE18 hK hR
    by_cases hM0 : M = 0
    · obtain rfl : K = T := hf1 (.inl hM0)
      subst hM0
      clear w4 hf1 hf2
      go_wp2_with fail
      try clear hV18
      refine (small5_E (x := q) (b := decide (K < 0)) (n := K) HE18.out (by simp) AK.out (told_of qN.out qn.out)).mono ?_
      rintro e' V19 ⟨rfl, hE19⟩
      replace hE19 := Lib.hid hE19
      obtain ⟨d3, d4, -, -⟩ := (B4.out.below hE19.out.1 B4.out.lt).cells
      go_wp2_with fail
      refine (small5_E (x := r) (b := decide (R < 0)) (n := R) hE19.out (by simp) AR.out (told_of rN.out rn.out)).mono ?_
      rintro e' V20 ⟨rfl, hE20⟩
      go_wp2_with fail
      refine (wakes5_E S18 hE20).mono ?_
      rintro e' V21 ⟨rfl, hE21⟩
      have HF := Lib.hid (H18.out.trans (hE21.1.mono H18.out.size))
      clear hE20 hE21
      go_wp2
      go_ret
      exact ⟨rfl, HF.out⟩
    · by_cases ha0 : a < 0
      · by_cases hb1 : b < 0
        · obtain rfl : K = T := hf1 (.inr (by simp [ha0, hb1]))
          clear w4 hf1 hf2
          have hMb : (M != 0) = true := by simp [hM0]
          have hda : decide (a < 0) = true := decide_eq_true ha0
          have hdb : decide (b < 0) = true := decide_eq_true hb1
          clear ha0 hb1 hM0
          go_wp2_with fail
          try clear hV18
          refine (small5_E (x := q) (b := decide (K < 0)) (n := K) HE18.out (by simp) AK.out (told_of qN.out qn.out)).mono ?_
          rintro e' V19 ⟨rfl, hE19⟩
          replace hE19 := Lib.hid hE19
          obtain ⟨d3, d4, -, -⟩ := (B4.out.below hE19.out.1 B4.out.lt).cells
          go_wp2_with fail
          refine (small5_E (x := r) (b := decide (R < 0)) (n := R) hE19.out (by simp) AR.out (told_of rN.out rn.out)).mono ?_
          rintro e' V20 ⟨rfl, hE20⟩
          go_wp2_with fail
          refine (wakes5_E S18 hE20).mono ?_
          rintro e' V21 ⟨rfl, hE21⟩
          have HF := Lib.hid (H18.out.trans (hE21.1.mono H18.out.size))
          clear hE20 hE21
          go_wp2
          go_ret
          exact ⟨rfl, HF.out⟩
        · have w5 := w4 hM0 (by simp [ha0, hb1])
          clear w4 hf1 hf2
          have hMb : (M != 0) = true := by simp [hM0]
          have hda : decide (a < 0) = true := decide_eq_true ha0
          have hdb : decide (b < 0) = false := decide_eq_false hb1
          clear ha0 hb1 hM0
          go_wp2_with fail
          try clear hV18
          refine (small5_E (x := q) (b := decide (K < 0)) (n := K) HE18.out (by simp) AK.out (told_of qN.out qn.out)).mono ?_
          rintro e' V19 ⟨rfl, hE19⟩
          replace hE19 := Lib.hid hE19
          obtain ⟨d3, d4, -, -⟩ := (B4.out.below hE19.out.1 B4.out.lt).cells
          go_wp2_with fail
          refine (small5_E (x := r) (b := decide (R < 0)) (n := R) hE19.out (by simp) AR.out (told_of rN.out rn.out)).mono ?_
          rintro e' V20 ⟨rfl, hE20⟩
          go_wp2_with fail
          refine (wakes5_E S18 hE20).mono ?_
          rintro e' V21 ⟨rfl, hE21⟩
          have HF := Lib.hid (H18.out.trans (hE21.1.mono H18.out.size))
          clear hE20 hE21
          go_wp2
          go_ret
          exact ⟨rfl, HF.out⟩
      · by_cases hb1 : b < 0
        · have w5 := w4 hM0 (by simp [ha0, hb1])
          clear w4 hf1 hf2
          have hMb : (M != 0) = true := by simp [hM0]
          have hda : decide (a < 0) = false := decide_eq_false ha0
          have hdb : decide (b < 0) = true := decide_eq_true hb1
          clear ha0 hb1 hM0
          go_wp2_with fail
          try clear hV18
          refine (small5_E (x := q) (b := decide (K < 0)) (n := K) HE18.out (by simp) AK.out (told_of qN.out qn.out)).mono ?_
          rintro e' V19 ⟨rfl, hE19⟩
          replace hE19 := Lib.hid hE19
          obtain ⟨d3, d4, -, -⟩ := (B4.out.below hE19.out.1 B4.out.lt).cells
          go_wp2_with fail
          refine (small5_E (x := r) (b := decide (R < 0)) (n := R) hE19.out (by simp) AR.out (told_of rN.out rn.out)).mono ?_
          rintro e' V20 ⟨rfl, hE20⟩
          go_wp2_with fail
          refine (wakes5_E S18 hE20).mono ?_
          rintro e' V21 ⟨rfl, hE21⟩
          have HF := Lib.hid (H18.out.trans (hE21.1.mono H18.out.size))
          clear hE20 hE21
          go_wp2
          go_ret
          exact ⟨rfl, HF.out⟩
        · obtain rfl : K = T := hf1 (.inr (by simp [ha0, hb1]))
          clear w4 hf1 hf2
          have hMb : (M != 0) = true := by simp [hM0]
          have hda : decide (a < 0) = false := decide_eq_false ha0
          have hdb : decide (b < 0) = false := decide_eq_false hb1
          clear ha0 hb1 hM0
          go_wp2_with fail
          try clear hV18
          refine (small5_E (x := q) (b := decide (K < 0)) (n := K) HE18.out (by simp) AK.out (told_of qN.out qn.out)).mono ?_
          rintro e' V19 ⟨rfl, hE19⟩
          replace hE19 := Lib.hid hE19
          obtain ⟨d3, d4, -, -⟩ := (B4.out.below hE19.out.1 B4.out.lt).cells
          go_wp2_with fail
          refine (small5_E (x := r) (b := decide (R < 0)) (n := R) hE19.out (by simp) AR.out (told_of rN.out rn.out)).mono ?_
          rintro e' V20 ⟨rfl, hE20⟩
          go_wp2_with fail
          refine (wakes5_E S18 hE20).mono ?_
          rintro e' V21 ⟨rfl, hE21⟩
          have HF := Lib.hid (H18.out.trans (hE21.1.mono H18.out.size))
          clear hE20 hE21
          go_wp2
          go_ret
          exact ⟨rfl, HF.out⟩
end Go.Proofs.YtolldhfcnbbelaaDoor
