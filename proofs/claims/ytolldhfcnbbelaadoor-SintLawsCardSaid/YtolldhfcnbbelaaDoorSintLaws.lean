/- SintLaws, over what the program's functions answer: the laws of sums and products. -/
import Derived.Test.YtolldhfcnbbelaaDoorGRefE
import Derived.Test.YtolldhfcnbbelaaDoorLaw
namespace Go.Proofs.YtolldhfcnbbelaaDoor
open Go Go.ChangeShapes Go.WideShapes Go.ChangeAt Go.RowKit Go.Deep

set_option maxRecDepth 100000 in
set_option maxHeartbeats 2000000 in
theorem slaws_great (w : World) (S : SintTold w) (x y z : Num) (bx by1 bz : Bool) (hx : x.ok w w.heap.size) (hy : y.ok w w.heap.size) (hz : z.ok w w.heap.size) (hg : great5 [x, y, z] = true) :
    Calls Tryd.prog 3 #[.agg #[.bool bx, .slice x.A x.n x.c], .agg #[.bool by1, .slice y.A y.n y.c], .agg #[.bool bz, .slice z.A z.n z.c]] w fun e w' => e = .returned (.bool true) ∧ Below w.heap.size w w' := by
  have hE0 : Env w [x, y, z] w := Env.start (by simp [hx, hy, hz])
  have HE := Lib.hid (((hE0.alloc (.cells #[.bool bx, .slice x.A x.n x.c] 25)).alloc (.cells #[.bool by1, .slice y.A y.n y.c] 25)).alloc (.cells #[.bool bz, .slice z.A z.n z.c] 25))
  have P3 := Lib.hid (((Box2.new w 25 (.bool bx) (.slice x.A x.n x.c)).alloc (.cells #[.bool by1, .slice y.A y.n y.c] 25)).alloc (.cells #[.bool bz, .slice z.A z.n z.c] 25))
  have P4 := Lib.hid ((Box2.new (w.alloc (.cells #[.bool bx, .slice x.A x.n x.c] 25)) 25 (.bool by1) (.slice y.A y.n y.c)).alloc (.cells #[.bool bz, .slice z.A z.n z.c] 25))
  have P5 := Lib.hid (Box2.new ((w.alloc (.cells #[.bool bx, .slice x.A x.n x.c] 25)).alloc (.cells #[.bool by1, .slice y.A y.n y.c] 25)) 25 (.bool bz) (.slice z.A z.n z.c))
  rw [World.size_alloc] at P4
  rw [World.size_alloc, World.size_alloc] at P5
  have EG := Lib.hid (great5_E3 (b := bx) (b' := by1) (b'' := bz) HE.out (x := x) (y := y) (z := z) (by simp) (by simp) (by simp) (g := w.heap.size + 1 + 1 + 1) (by simp))
  rw [hg] at EG
  clear hE0 hg HE
  go_enter Tryd.func3, Tryd.ntmps3
  obtain ⟨c1, c2, -, -⟩ := P3.out.cells
  obtain ⟨c3, c4, -, -⟩ := P4.out.cells
  obtain ⟨c5, c6, -, -⟩ := P5.out.cells
  go_wp2_with fail
  refine EG.out.mono ?_
  rintro e' W0 ⟨rfl, hE⟩
  go_wp2_with fail
  refine (wakes5_E S hE).mono ?_
  rintro e' W1 ⟨rfl, hE1⟩
  go_wp2
  go_ret
  exact ⟨rfl, hE1.1⟩

theorem sign_mul_bound (a b : Int) : -9223372036854775808 ≤ a.sign * b.sign ∧ a.sign * b.sign ≤ 9223372036854775807 := by
  rcases Int.lt_trichotomy a 0 with h | h | h <;> rcases Int.lt_trichotomy b 0 with k | k | k <;>
    simp [Int.sign_eq_neg_one_of_neg, Int.sign_eq_one_of_pos, h, k]

set_option maxRecDepth 100000 in
set_option maxHeartbeats 8000000 in
theorem slaws_go (w : World) (S : SintTold w) (x y z : Num) (bx by1 bz : Bool) (hx : x.ok w w.heap.size) (hy : y.ok w w.heap.size) (hz : z.ok w w.heap.size) (hg : great5 [x, y, z] = false) :
    Calls Tryd.prog 3 #[.agg #[.bool bx, .slice x.A x.n x.c], .agg #[.bool by1, .slice y.A y.n y.c], .agg #[.bool bz, .slice z.A z.n z.c]] w fun e w' => e = .returned (.bool true) ∧ Below w.heap.size w w' := by
  obtain ⟨lx, ly, lz⟩ := size5_3 hg
  have hE0 : Env w [x, y, z] w := Env.start (by simp [hx, hy, hz])
  have X0 := (((hE0.alloc (.cells #[.bool bx, .slice x.A x.n x.c] 25)).alloc (.cells #[.bool by1, .slice y.A y.n y.c] 25)).alloc (.cells #[.bool bz, .slice z.A z.n z.c] 25))
  have HE := Lib.hid X0
  have P3 := Lib.hid (((Box2.new w 25 (.bool bx) (.slice x.A x.n x.c)).alloc (.cells #[.bool by1, .slice y.A y.n y.c] 25)).alloc (.cells #[.bool bz, .slice z.A z.n z.c] 25))
  have P4 := Lib.hid ((Box2.new (w.alloc (.cells #[.bool bx, .slice x.A x.n x.c] 25)) 25 (.bool by1) (.slice y.A y.n y.c)).alloc (.cells #[.bool bz, .slice z.A z.n z.c] 25))
  have P5 := Lib.hid (Box2.new ((w.alloc (.cells #[.bool bx, .slice x.A x.n x.c] 25)).alloc (.cells #[.bool by1, .slice y.A y.n y.c] 25)) 25 (.bool bz) (.slice z.A z.n z.c))
  rw [World.size_alloc] at P4
  rw [World.size_alloc, World.size_alloc] at P5
  obtain ⟨Za, hZa⟩ : ∃ Za, zOf bx x.N = Za := ⟨_, rfl⟩
  obtain ⟨Zb, hZb⟩ : ∃ Zb, zOf by1 y.N = Zb := ⟨_, rfl⟩
  obtain ⟨Zc, hZc⟩ : ∃ Zc, zOf bz z.N = Zc := ⟨_, rfl⟩
  have La : Lb 60 Za := lb_of hx.1.1 lx hZa
  have Lb1 : Lb 60 Zb := lb_of hy.1.1 ly hZb
  have Lc : Lb 60 Zc := lb_of hz.1.1 lz hZc
  have EG := Lib.hid (great5_E3 (b := bx) (b' := by1) (b'' := bz) HE.out.here (x := x) (y := y) (z := z) (by simp) (by simp) (by simp) (g := w.heap.size + 1 + 1 + 1) (by simp))
  rw [hg] at EG
  clear hE0 X0 hg
  go_enter Tryd.func3, Tryd.ntmps3
  obtain ⟨c1, c2, -, -⟩ := P3.out.cells
  obtain ⟨c3, c4, -, -⟩ := P4.out.cells
  obtain ⟨c5, c6, -, -⟩ := P5.out.cells
  go_wp2_with fail
  refine EG.out.mono ?_
  rintro e' W0 ⟨rfl, hE⟩
  have hsc : (((w.alloc (.cells #[.bool bx, .slice x.A x.n x.c] 25)).alloc (.cells #[.bool by1, .slice y.A y.n y.c] 25)).alloc (.cells #[.bool bz, .slice z.A z.n z.c] 25)).heap.size = w.heap.size + 3 := by simp
  have B3 := Lib.hid (P3.out.below hE.1 (by omega))
  have B4 := Lib.hid (P4.out.below hE.1 (by omega))
  have B5 := Lib.hid (P5.out.below hE.1 (by omega))
  have HW := Lib.hid (HE.out.1.trans (hE.1.mono (by omega)))
  have R3 := Lib.hid (fun V (hb : Below W0.heap.size W0 V) => (⟨bx, x, rfl, hZa, by omega, (hE.2 x (by simp)).later hb⟩ : RepZ Za (.agg #[.bool bx, .slice x.A x.n x.c]) V))
  have R4 := Lib.hid (fun V (hb : Below W0.heap.size W0 V) => (⟨by1, y, rfl, hZb, by omega, (hE.2 y (by simp)).later hb⟩ : RepZ Zb (.agg #[.bool by1, .slice y.A y.n y.c]) V))
  have R5 := Lib.hid (fun V (hb : Below W0.heap.size W0 V) => (⟨bz, z, rfl, hZc, by omega, (hE.2 z (by simp)).later hb⟩ : RepZ Zc (.agg #[.bool bz, .slice z.A z.n z.c]) V))
  have hs0 := hE.1.size
  clear hE EG P3 P4 P5 HE c1 c2 c3 c4 c5 c6
  go_wp2
  refine wp_region_facts_rel 10 [15, 16, 17, 18, 19, 20, 21, 22, 7, 8] (fun i v V => match i with
      | 0 => v = .agg #[.bool bx, .slice x.A x.n x.c]
      | 1 => v = .agg #[.bool by1, .slice y.A y.n y.c]
      | 2 => RepRow [Za, Zb] v V
      | 3 => RepT (Za + Zb) v V
      | 4 => v = .agg #[.bool bx, .slice x.A x.n x.c]
      | 5 => v = .agg #[.bool by1, .slice y.A y.n y.c]
      | 6 => RepRow [Za, Zb] v V
      | 7 => RepT (Za * Zb) v V
      | 8 => RepBox W0 v V
      | _ => RepBox W0 v V) (fun i V v => (i = 8 ∨ i = 9) → v = .pointer (some ⟨V.heap.size, 0, none⟩)) (fun i j v v2 => (i = 8 ∧ j = 9 ∨ i = 9 ∧ j = 8) → v ≠ v2) (fun V => Below W0.heap.size W0 V) (by kernel_rfl) (by kernel_rfl) rfl (by decide) (by first | simp; done | (rw [HSZ.out]; decide)) (Below.refl _ _).drew ?_ ?_ ?_ ?_
  · intro i v V V2 hf hb _
    match i, hf with
    | 0, hf => exact hf
    | 1, hf => exact hf
    | 2, hf => exact RepRow.keep hf hb
    | 3, hf => exact RepT.keep hf hb
    | 4, hf => exact hf
    | 5, hf => exact hf
    | 6, hf => exact RepRow.keep hf hb
    | 7, hf => exact RepT.keep hf hb
    | 8, hf => exact RepBox.keep hf hb
    | _ + 9, hf => exact RepBox.keep hf hb
  · intro i j v v2 V hfr hf hij
    rcases hij with ⟨rfl, rfl⟩ | ⟨rfl, rfl⟩
    · obtain ⟨g, e, _, hB⟩ := (hf : RepBox W0 v2 V)
      intro e2
      rw [e, hfr (by decide)] at e2
      have := hB.lt
      injection e2 with e2; injection e2 with e2; injection e2 with e2
      omega
    · obtain ⟨g, e, _, hB⟩ := (hf : RepBox W0 v2 V)
      intro e2
      rw [e, hfr (by decide)] at e2
      have := hB.lt
      injection e2 with e2; injection e2 with e2; injection e2 with e2
      omega
  · intro i t ht a V hC hF hd
    match i, ht with
    | 0, ht =>
      cases ht
      refine step_triv (fun _ h => absurd h (by decide)) ?_
      have q0 : a.tmps[3]?.getD undef = .pointer (some ⟨w.heap.size, 0, none⟩) := (hF.at_ 3 (by decide)).trans rfl
      exact fz_load rfl rfl (wanted_free rfl) rfl q0 (B3.out.below hC B3.out.lt) hC rfl
    | 1, ht =>
      cases ht
      refine step_triv (fun _ h => absurd h (by decide)) ?_
      have q0 : a.tmps[4]?.getD undef = .pointer (some ⟨w.heap.size + 1, 0, none⟩) := (hF.at_ 4 (by decide)).trans rfl
      exact fz_load rfl rfl (wanted_free rfl) rfl q0 (B4.out.below hC B4.out.lt) hC rfl
    | 2, ht =>
      cases ht
      refine step_triv (fun _ h => absurd h (by decide)) ?_
      have h0 : a.tmps[15]?.getD undef = .agg #[.bool bx, .slice x.A x.n x.c] := (slot_eq a 15).symm.trans (hd 0 15 rfl (by kernel_rfl))
      have h1 : a.tmps[16]?.getD undef = .agg #[.bool by1, .slice y.A y.n y.c] := (slot_eq a 16).symm.trans (hd 1 16 rfl (by kernel_rfl))
      exact fz_two rfl rfl (wanted_free rfl) rfl h0 h1 (R3.out V hC) (R4.out V hC) (fun V2 hb => hC.trans (hb.mono hC.size)) (fun _ _ h => h)
    | 3, ht =>
      cases ht
      refine step_triv (fun _ h => absurd h (by decide)) ?_
      have h0r : RepRow [Za, Zb] (a.tmps.getD 17 undef) V := hd 2 17 rfl (by kernel_rfl)
      have h0 : a.tmps[17]?.getD undef = a.tmps.getD 17 undef := (slot_eq a 17).symm
      exact fz_all (Z := (Za + Zb)) rfl rfl (wanted_free rfl) (fun V2 hb => hC.trans (hb.mono hC.size)) (S.later (HW.out.trans (hC.mono HW.out.size))).add (call1_run ⟨_, rfl⟩ h0 (enters_of Tryd.func9 (by kernel_rfl) rfl)) h0r (fun _ h => (sum_of h).trans (by simp)) (fun _ _ h => h)
    | 4, ht =>
      cases ht
      refine step_triv (fun _ h => absurd h (by decide)) ?_
      have q0 : a.tmps[3]?.getD undef = .pointer (some ⟨w.heap.size, 0, none⟩) := (hF.at_ 3 (by decide)).trans rfl
      exact fz_load rfl rfl (wanted_free rfl) rfl q0 (B3.out.below hC B3.out.lt) hC rfl
    | 5, ht =>
      cases ht
      refine step_triv (fun _ h => absurd h (by decide)) ?_
      have q0 : a.tmps[4]?.getD undef = .pointer (some ⟨w.heap.size + 1, 0, none⟩) := (hF.at_ 4 (by decide)).trans rfl
      exact fz_load rfl rfl (wanted_free rfl) rfl q0 (B4.out.below hC B4.out.lt) hC rfl
    | 6, ht =>
      cases ht
      refine step_triv (fun _ h => absurd h (by decide)) ?_
      have h0 : a.tmps[19]?.getD undef = .agg #[.bool bx, .slice x.A x.n x.c] := (slot_eq a 19).symm.trans (hd 4 19 rfl (by kernel_rfl))
      have h1 : a.tmps[20]?.getD undef = .agg #[.bool by1, .slice y.A y.n y.c] := (slot_eq a 20).symm.trans (hd 5 20 rfl (by kernel_rfl))
      exact fz_two rfl rfl (wanted_free rfl) rfl h0 h1 (R3.out V hC) (R4.out V hC) (fun V2 hb => hC.trans (hb.mono hC.size)) (fun _ _ h => h)
    | 7, ht =>
      cases ht
      refine step_triv (fun _ h => absurd h (by decide)) ?_
      have h0r : RepRow [Za, Zb] (a.tmps.getD 21 undef) V := hd 6 21 rfl (by kernel_rfl)
      have h0 : a.tmps[21]?.getD undef = a.tmps.getD 21 undef := (slot_eq a 21).symm
      exact fz_all (Z := (Za * Zb)) rfl rfl (wanted_free rfl) (fun V2 hb => hC.trans (hb.mono hC.size)) (S.later (HW.out.trans (hC.mono HW.out.size))).mul (call1_run ⟨_, rfl⟩ h0 (enters_of Tryd.func10 (by kernel_rfl) rfl)) h0r (fun _ h => (prod_of h).trans (by simp)) (fun _ _ h => h)
    | 8, ht =>
      cases ht
      exact fz_alloc rfl rfl (wanted_free rfl) rfl hC.size (fun V2 hb => hC.trans (hb.mono hC.size)) (fun _ _ h e => ⟨h, fun _ => e⟩)
    | 9, ht =>
      cases ht
      exact fz_alloc rfl rfl (wanted_free rfl) rfl hC.size (fun V2 hb => hC.trans (hb.mono hC.size)) (fun _ _ h e => ⟨h, fun _ => e⟩)
    | k + 10, ht => simp at ht
  · intro a3 V3 hC hF hf hR
    obtain ⟨g7, p7, q7, b7⟩ := (hf 8 7 rfl : RepBox W0 (a3.tmps.getD 7 undef) V3)
    obtain ⟨g8, p8, q8, b8⟩ := (hf 9 8 rfl : RepBox W0 (a3.tmps.getD 8 undef) V3)
    obtain ⟨s, ps, sN, sn, sk⟩ := (hf 3 18 rfl : RepT (Za + Zb) (a3.tmps.getD 18 undef) V3)
    obtain ⟨p, pp, pN, pn, pk⟩ := (hf 7 22 rfl : RepT (Za * Zb) (a3.tmps.getD 22 undef) V3)
    have hne : g7 ≠ g8 := by
      rcases hR 8 9 7 8 rfl rfl (by decide) with h | h
      · exact fun e => h (by decide) (by rw [p7, p8, e])
      · exact fun e => h (by decide) (by rw [p7, p8, e])
    rw [slot_eq] at p7 p8 ps pp
    have e3 : a3.tmps[3]?.getD undef = .pointer (some ⟨w.heap.size, 0, none⟩) := (hF.at_ 3 (by decide)).trans rfl
    have e4 : a3.tmps[4]?.getD undef = .pointer (some ⟨w.heap.size + 1, 0, none⟩) := (hF.at_ 4 (by decide)).trans rfl
    have e5 : a3.tmps[5]?.getD undef = .pointer (some ⟨w.heap.size + 1 + 1, 0, none⟩) := (hF.at_ 5 (by decide)).trans rfl
    have HSZ := Lib.hid (show a3.tmps.size = 150 from hF.size.trans rfl)
    have hdf : a3.defers = [] := hF.defers
    have nes : ∀ {i j : Nat}, i ≠ j → some i ≠ some j := fun h e => h (by injection e)
    have b8b := (b8.kept (grown_set V3 g7 0 (.bool (decide ((Za + Zb) < 0)))) (nes (Ne.symm hne))).kept (grown_set _ g7 1 (.slice s.A s.n s.c)) (nes (Ne.symm hne))
    have hW4 : ∃ W4, (((V3.setCell ⟨g7, 0, none⟩ (.bool (decide ((Za + Zb) < 0)))).setCell ⟨g7, 1, none⟩ (.slice s.A s.n s.c)).setCell ⟨g8, 0, none⟩ (.bool (decide ((Za * Zb) < 0)))).setCell ⟨g8, 1, none⟩ (.slice p.A p.n p.c) = W4 := ⟨_, rfl⟩
    obtain ⟨W4, hW4⟩ := hW4
    have keep2 : ∀ (g : Nat) (u v : Value), g ≠ g7 → g ≠ g8 → Box2 V3 g 25 u v → Box2 W4 g 25 u v := fun g u v h1 h2 hb => by
      rw [← hW4]
      exact (((hb.kept (grown_set _ g7 0 _) (nes h1)).kept (grown_set _ g7 1 _) (nes h1)).kept (grown_set _ g8 0 _) (nes h2)).kept (grown_set _ g8 1 _) (nes h2)
    have hC4 : Below W0.heap.size W0 W4 := by
      rw [← hW4]
      exact (((hC.setCell q7 _).setCell q7 _).setCell q8 _).setCell q8 _
    have lt3 := B3.out.lt
    have lt4 := B4.out.lt
    have lt5 := B5.out.lt
    replace B3 := Lib.hid (keep2 _ _ _ (by omega) (by omega) (B3.out.below hC lt3))
    replace B4 := Lib.hid (keep2 _ _ _ (by omega) (by omega) (B4.out.below hC lt4))
    replace B5 := Lib.hid (keep2 _ _ _ (by omega) (by omega) (B5.out.below hC lt5))
    have B7 := Lib.hid (show Box2 W4 g7 25 (.bool (decide ((Za + Zb) < 0))) (.slice s.A s.n s.c) by
      rw [← hW4]
      exact ((b7.set _ _).kept (grown_set _ g8 0 _) (nes hne)).kept (grown_set _ g8 1 _) (nes hne))
    have B8 := Lib.hid (show Box2 W4 g8 25 (.bool (decide ((Za * Zb) < 0))) (.slice p.A p.n p.c) by
      rw [← hW4]
      exact b8b.set _ _)
    have sk4 : s.ok W4 W4.heap.size := by rw [← hW4]; exact (sk.box b7).box b8b
    have pk4 : p.ok W4 W4.heap.size := by rw [← hW4]; exact (pk.box b7).box b8b
    have T7 := Lib.hid (fun V2 (hb : Below W4.heap.size W4 V2) => (⟨s, rfl, sN, sn, sk4.later hb⟩ : RepT (Za + Zb) (.agg #[.bool (decide ((Za + Zb) < 0)), .slice s.A s.n s.c]) V2))
    have T8 := Lib.hid (fun V2 (hb : Below W4.heap.size W4 V2) => (⟨p, rfl, pN, pn, pk4.later hb⟩ : RepT (Za * Zb) (.agg #[.bool (decide ((Za * Zb) < 0)), .slice p.A p.n p.c]) V2))
    have R7 := Lib.hid (fun V2 (hb : Below W4.heap.size W4 V2) => RepT.z (T7.out V2 hb) (lb_len (lb_add La Lb1) (by decide)))
    have R8 := Lib.hid (fun V2 (hb : Below W4.heap.size W4 V2) => RepT.z (T8.out V2 hb) (lb_len (lb_mul La Lb1) (by decide)))
    replace R3 := Lib.hid (fun V2 (hb : Below W4.heap.size W4 V2) => R3.out V2 (hC4.trans (hb.mono hC4.size)))
    replace R4 := Lib.hid (fun V2 (hb : Below W4.heap.size W4 V2) => R4.out V2 (hC4.trans (hb.mono hC4.size)))
    replace R5 := Lib.hid (fun V2 (hb : Below W4.heap.size W4 V2) => R5.out V2 (hC4.trans (hb.mono hC4.size)))
    replace HW := Lib.hid (HW.out.trans (hC4.mono HW.out.size))
    obtain ⟨c1, c2, c3, c4⟩ := b7.cells
    obtain ⟨d1, d2, d3, d4⟩ := b8b.cells
    obtain ⟨f1, f2, f3, f4⟩ := b8.cells
    have hne2 : g8 ≠ g7 := Ne.symm hne
    clear hf hR hF hC hC4 keep2 b7 b8 b8b sk pk sk4 pk4 lt3 lt4 lt5 nes sN sn pN pn
    show wpList _ _ _ [_, _] a3 V3
    go_wp2
    try rw [hW4]
    clear c1 c2 c3 c4 d1 d2 d3 d4 f1 f2 f3 f4 hW4 ps pp
    
    have e7 := p7
    have e8 := p8
    refine wp_region_facts 44 [23, 24, 25, 26, 27, 28, 29, 30, 31, 32, 33, 34, 35, 36, 37, 38, 39, 40, 41, 42, 43, 44, 45, 46, 47, 48, 49, 50, 51, 52, 53, 54, 55, 56, 57, 58, 59, 60, 61, 62, 63, 64, 65, 66] (fun i v V => match i with
        | 0 => v = .agg #[.bool (decide ((Za + Zb) < 0)), .slice s.A s.n s.c]
        | 1 => v = .agg #[.bool by1, .slice y.A y.n y.c]
        | 2 => v = .agg #[.bool bx, .slice x.A x.n x.c]
        | 3 => RepRow [Zb, Za] v V
        | 4 => RepT (Zb + Za) v V
        | 5 => v = .bool true
        | 6 => v = .bool false
        | 7 => v = .bool false
        | 8 => v = .agg #[.bool (decide ((Za * Zb) < 0)), .slice p.A p.n p.c]
        | 9 => v = .agg #[.bool by1, .slice y.A y.n y.c]
        | 10 => v = .agg #[.bool bx, .slice x.A x.n x.c]
        | 11 => RepRow [Zb, Za] v V
        | 12 => RepT (Zb * Za) v V
        | 13 => v = .bool true
        | 14 => v = .bool false
        | 15 => v = .bool false
        | 16 => v = .bool false
        | 17 => v = .agg #[.bool (decide ((Za + Zb) < 0)), .slice s.A s.n s.c]
        | 18 => v = .agg #[.bool bz, .slice z.A z.n z.c]
        | 19 => RepRow [(Za + Zb), Zc] v V
        | 20 => RepT ((Za + Zb) + Zc) v V
        | 21 => v = .agg #[.bool bx, .slice x.A x.n x.c]
        | 22 => v = .agg #[.bool by1, .slice y.A y.n y.c]
        | 23 => v = .agg #[.bool bz, .slice z.A z.n z.c]
        | 24 => RepRow [Zb, Zc] v V
        | 25 => RepT (Zb + Zc) v V
        | 26 => RepRow [Za, (Zb + Zc)] v V
        | 27 => RepT (Za + (Zb + Zc)) v V
        | 28 => v = .bool true
        | 29 => v = .bool false
        | 30 => v = .bool false
        | 31 => v = .bool false
        | 32 => v = .agg #[.bool bx, .slice x.A x.n x.c]
        | 33 => v = .agg #[.bool by1, .slice y.A y.n y.c]
        | 34 => v = .agg #[.bool bz, .slice z.A z.n z.c]
        | 35 => RepRow [Za, Zb, Zc] v V
        | 36 => RepT (Za + (Zb + Zc)) v V
        | 37 => v = .agg #[.bool (decide ((Za + Zb) < 0)), .slice s.A s.n s.c]
        | 38 => v = .agg #[.bool bz, .slice z.A z.n z.c]
        | 39 => RepRow [(Za + Zb), Zc] v V
        | 40 => RepT ((Za + Zb) + Zc) v V
        | 41 => v = .bool true
        | 42 => v = .bool false
        | _ => v = .bool false) (fun V => Below W4.heap.size W4 V) (by kernel_rfl) (by kernel_rfl) rfl (by decide) (by first | simp; done | (rw [HSZ.out]; decide)) (Below.refl _ _).drew ?_ ?_ ?_
    · intro i v V V2 hf hb _
      match i, hf with
      | 0, hf => exact hf
      | 1, hf => exact hf
      | 2, hf => exact hf
      | 3, hf => exact RepRow.keep hf hb
      | 4, hf => exact RepT.keep hf hb
      | 5, hf => exact hf
      | 6, hf => exact hf
      | 7, hf => exact hf
      | 8, hf => exact hf
      | 9, hf => exact hf
      | 10, hf => exact hf
      | 11, hf => exact RepRow.keep hf hb
      | 12, hf => exact RepT.keep hf hb
      | 13, hf => exact hf
      | 14, hf => exact hf
      | 15, hf => exact hf
      | 16, hf => exact hf
      | 17, hf => exact hf
      | 18, hf => exact hf
      | 19, hf => exact RepRow.keep hf hb
      | 20, hf => exact RepT.keep hf hb
      | 21, hf => exact hf
      | 22, hf => exact hf
      | 23, hf => exact hf
      | 24, hf => exact RepRow.keep hf hb
      | 25, hf => exact RepT.keep hf hb
      | 26, hf => exact RepRow.keep hf hb
      | 27, hf => exact RepT.keep hf hb
      | 28, hf => exact hf
      | 29, hf => exact hf
      | 30, hf => exact hf
      | 31, hf => exact hf
      | 32, hf => exact hf
      | 33, hf => exact hf
      | 34, hf => exact hf
      | 35, hf => exact RepRow.keep hf hb
      | 36, hf => exact RepT.keep hf hb
      | 37, hf => exact hf
      | 38, hf => exact hf
      | 39, hf => exact RepRow.keep hf hb
      | 40, hf => exact RepT.keep hf hb
      | 41, hf => exact hf
      | 42, hf => exact hf
      | _ + 43, hf => exact hf
    · intro i t ht a V hC hF hd
      match i, ht with
      | 0, ht =>
        cases ht
        have q0 : a.tmps[7]?.getD undef = .pointer (some ⟨g7, 0, none⟩) := (hF.at_ 7 (by decide)).trans e7
        exact fz_load rfl rfl (wanted_free rfl) rfl q0 (B7.out.below hC B7.out.lt) hC rfl
      | 1, ht =>
        cases ht
        have q0 : a.tmps[4]?.getD undef = .pointer (some ⟨w.heap.size + 1, 0, none⟩) := (hF.at_ 4 (by decide)).trans e4
        exact fz_load rfl rfl (wanted_free rfl) rfl q0 (B4.out.below hC B4.out.lt) hC rfl
      | 2, ht =>
        cases ht
        have q0 : a.tmps[3]?.getD undef = .pointer (some ⟨w.heap.size, 0, none⟩) := (hF.at_ 3 (by decide)).trans e3
        exact fz_load rfl rfl (wanted_free rfl) rfl q0 (B3.out.below hC B3.out.lt) hC rfl
      | 3, ht =>
        cases ht
        have h0 : a.tmps[24]?.getD undef = .agg #[.bool by1, .slice y.A y.n y.c] := (slot_eq a 24).symm.trans (hd 1 24 rfl (by kernel_rfl))
        have h1 : a.tmps[25]?.getD undef = .agg #[.bool bx, .slice x.A x.n x.c] := (slot_eq a 25).symm.trans (hd 2 25 rfl (by kernel_rfl))
        exact fz_two rfl rfl (wanted_free rfl) rfl h0 h1 (R4.out V hC) (R3.out V hC) (fun V2 hb => hC.trans (hb.mono hC.size)) (fun _ _ h => h)
      | 4, ht =>
        cases ht
        have h0r : RepRow [Zb, Za] (a.tmps.getD 26 undef) V := hd 3 26 rfl (by kernel_rfl)
        have h0 : a.tmps[26]?.getD undef = a.tmps.getD 26 undef := (slot_eq a 26).symm
        exact fz_all (Z := (Zb + Za)) rfl rfl (wanted_free rfl) (fun V2 hb => hC.trans (hb.mono hC.size)) (S.later (HW.out.trans (hC.mono HW.out.size))).add (call1_run ⟨_, rfl⟩ h0 (enters_of Tryd.func9 (by kernel_rfl) rfl)) h0r (fun _ h => (sum_of h).trans (by simp)) (fun _ _ h => h)
      | 5, ht =>
        cases ht
        have h0 : a.tmps[23]?.getD undef = .agg #[.bool (decide ((Za + Zb) < 0)), .slice s.A s.n s.c] := (slot_eq a 23).symm.trans (hd 0 23 rfl (by kernel_rfl))
        have h1r : RepT (Zb + Za) (a.tmps.getD 27 undef) V := hd 4 27 rfl (by kernel_rfl)
        have h1 : a.tmps[27]?.getD undef = a.tmps.getD 27 undef := (slot_eq a 27).symm
        exact fz_same rfl rfl (wanted_free rfl) (fun V2 hb => hC.trans (hb.mono hC.size)) rfl (call2_run ⟨_, rfl⟩ h0 h1 (enters_of Tryd.func11 (by kernel_rfl) rfl)) (T7.out V hC) h1r (by first | rfl | omega | grind) (fun _ => rfl)
      | 6, ht =>
        cases ht
        have h0 : a.tmps[28]?.getD undef = .bool true := (slot_eq a 28).symm.trans (hd 5 28 rfl (by kernel_rfl))
        exact step_value (v := .bool false) rfl rfl (wanted_free rfl) (by go_simp) hC rfl
      | 7, ht =>
        cases ht
        have h0 : a.tmps[29]?.getD undef = .bool false := (slot_eq a 29).symm.trans (hd 6 29 rfl (by kernel_rfl))
        exact step_value (v := .bool false) rfl rfl (wanted_free rfl) (by go_simp) hC rfl
      | 8, ht =>
        cases ht
        have gk : a.tmps.getD 30 undef = .bool false := hd 7 30 rfl (by kernel_rfl)
        have q0 : a.tmps[8]?.getD undef = .pointer (some ⟨g8, 0, none⟩) := (hF.at_ 8 (by decide)).trans e8
        exact fz_load rfl rfl ((wanted_if rfl rfl rfl gk).trans rfl) rfl q0 (B8.out.below hC B8.out.lt) hC rfl
      | 9, ht =>
        cases ht
        have gk : a.tmps.getD 30 undef = .bool false := hd 7 30 rfl (by kernel_rfl)
        have q0 : a.tmps[4]?.getD undef = .pointer (some ⟨w.heap.size + 1, 0, none⟩) := (hF.at_ 4 (by decide)).trans e4
        exact fz_load rfl rfl ((wanted_if rfl rfl rfl gk).trans rfl) rfl q0 (B4.out.below hC B4.out.lt) hC rfl
      | 10, ht =>
        cases ht
        have gk : a.tmps.getD 30 undef = .bool false := hd 7 30 rfl (by kernel_rfl)
        have q0 : a.tmps[3]?.getD undef = .pointer (some ⟨w.heap.size, 0, none⟩) := (hF.at_ 3 (by decide)).trans e3
        exact fz_load rfl rfl ((wanted_if rfl rfl rfl gk).trans rfl) rfl q0 (B3.out.below hC B3.out.lt) hC rfl
      | 11, ht =>
        cases ht
        have gk : a.tmps.getD 30 undef = .bool false := hd 7 30 rfl (by kernel_rfl)
        have h0 : a.tmps[32]?.getD undef = .agg #[.bool by1, .slice y.A y.n y.c] := (slot_eq a 32).symm.trans (hd 9 32 rfl (by kernel_rfl))
        have h1 : a.tmps[33]?.getD undef = .agg #[.bool bx, .slice x.A x.n x.c] := (slot_eq a 33).symm.trans (hd 10 33 rfl (by kernel_rfl))
        exact fz_two rfl rfl ((wanted_if rfl rfl rfl gk).trans rfl) rfl h0 h1 (R4.out V hC) (R3.out V hC) (fun V2 hb => hC.trans (hb.mono hC.size)) (fun _ _ h => h)
      | 12, ht =>
        cases ht
        have gk : a.tmps.getD 30 undef = .bool false := hd 7 30 rfl (by kernel_rfl)
        have h0r : RepRow [Zb, Za] (a.tmps.getD 34 undef) V := hd 11 34 rfl (by kernel_rfl)
        have h0 : a.tmps[34]?.getD undef = a.tmps.getD 34 undef := (slot_eq a 34).symm
        exact fz_all (Z := (Zb * Za)) rfl rfl ((wanted_if rfl rfl rfl gk).trans rfl) (fun V2 hb => hC.trans (hb.mono hC.size)) (S.later (HW.out.trans (hC.mono HW.out.size))).mul (call1_run ⟨_, rfl⟩ h0 (enters_of Tryd.func10 (by kernel_rfl) rfl)) h0r (fun _ h => (prod_of h).trans (by simp)) (fun _ _ h => h)
      | 13, ht =>
        cases ht
        have gk : a.tmps.getD 30 undef = .bool false := hd 7 30 rfl (by kernel_rfl)
        have h0 : a.tmps[31]?.getD undef = .agg #[.bool (decide ((Za * Zb) < 0)), .slice p.A p.n p.c] := (slot_eq a 31).symm.trans (hd 8 31 rfl (by kernel_rfl))
        have h1r : RepT (Zb * Za) (a.tmps.getD 35 undef) V := hd 12 35 rfl (by kernel_rfl)
        have h1 : a.tmps[35]?.getD undef = a.tmps.getD 35 undef := (slot_eq a 35).symm
        exact fz_same rfl rfl ((wanted_if rfl rfl rfl gk).trans rfl) (fun V2 hb => hC.trans (hb.mono hC.size)) rfl (call2_run ⟨_, rfl⟩ h0 h1 (enters_of Tryd.func11 (by kernel_rfl) rfl)) (T8.out V hC) h1r (by first | rfl | omega | grind) (fun _ => rfl)
      | 14, ht =>
        cases ht
        have gk : a.tmps.getD 30 undef = .bool false := hd 7 30 rfl (by kernel_rfl)
        have h0 : a.tmps[36]?.getD undef = .bool true := (slot_eq a 36).symm.trans (hd 13 36 rfl (by kernel_rfl))
        exact step_value (v := .bool false) rfl rfl ((wanted_if rfl rfl rfl gk).trans rfl) (by go_simp) hC rfl
      | 15, ht =>
        cases ht
        have h0 : a.tmps[30]?.getD undef = .bool false := (slot_eq a 30).symm.trans (hd 7 30 rfl (by kernel_rfl))
        have h1 : a.tmps[37]?.getD undef = .bool false := (slot_eq a 37).symm.trans (hd 14 37 rfl (by kernel_rfl))
        exact step_value (v := .bool false) rfl rfl (wanted_free rfl) (by go_simp) hC rfl
      | 16, ht =>
        cases ht
        have h0 : a.tmps[38]?.getD undef = .bool false := (slot_eq a 38).symm.trans (hd 15 38 rfl (by kernel_rfl))
        exact step_value (v := .bool false) rfl rfl (wanted_free rfl) (by go_simp) hC rfl
      | 17, ht =>
        cases ht
        have gk : a.tmps.getD 39 undef = .bool false := hd 16 39 rfl (by kernel_rfl)
        have q0 : a.tmps[7]?.getD undef = .pointer (some ⟨g7, 0, none⟩) := (hF.at_ 7 (by decide)).trans e7
        exact fz_load rfl rfl ((wanted_if rfl rfl rfl gk).trans rfl) rfl q0 (B7.out.below hC B7.out.lt) hC rfl
      | 18, ht =>
        cases ht
        have gk : a.tmps.getD 39 undef = .bool false := hd 16 39 rfl (by kernel_rfl)
        have q0 : a.tmps[5]?.getD undef = .pointer (some ⟨w.heap.size + 1 + 1, 0, none⟩) := (hF.at_ 5 (by decide)).trans e5
        exact fz_load rfl rfl ((wanted_if rfl rfl rfl gk).trans rfl) rfl q0 (B5.out.below hC B5.out.lt) hC rfl
      | 19, ht =>
        cases ht
        have gk : a.tmps.getD 39 undef = .bool false := hd 16 39 rfl (by kernel_rfl)
        have h0 : a.tmps[40]?.getD undef = .agg #[.bool (decide ((Za + Zb) < 0)), .slice s.A s.n s.c] := (slot_eq a 40).symm.trans (hd 17 40 rfl (by kernel_rfl))
        have h1 : a.tmps[41]?.getD undef = .agg #[.bool bz, .slice z.A z.n z.c] := (slot_eq a 41).symm.trans (hd 18 41 rfl (by kernel_rfl))
        exact fz_two rfl rfl ((wanted_if rfl rfl rfl gk).trans rfl) rfl h0 h1 (R7.out V hC) (R5.out V hC) (fun V2 hb => hC.trans (hb.mono hC.size)) (fun _ _ h => h)
      | 20, ht =>
        cases ht
        have gk : a.tmps.getD 39 undef = .bool false := hd 16 39 rfl (by kernel_rfl)
        have h0r : RepRow [(Za + Zb), Zc] (a.tmps.getD 42 undef) V := hd 19 42 rfl (by kernel_rfl)
        have h0 : a.tmps[42]?.getD undef = a.tmps.getD 42 undef := (slot_eq a 42).symm
        exact fz_all (Z := ((Za + Zb) + Zc)) rfl rfl ((wanted_if rfl rfl rfl gk).trans rfl) (fun V2 hb => hC.trans (hb.mono hC.size)) (S.later (HW.out.trans (hC.mono HW.out.size))).add (call1_run ⟨_, rfl⟩ h0 (enters_of Tryd.func9 (by kernel_rfl) rfl)) h0r (fun _ h => (sum_of h).trans (by simp)) (fun _ _ h => h)
      | 21, ht =>
        cases ht
        have gk : a.tmps.getD 39 undef = .bool false := hd 16 39 rfl (by kernel_rfl)
        have q0 : a.tmps[3]?.getD undef = .pointer (some ⟨w.heap.size, 0, none⟩) := (hF.at_ 3 (by decide)).trans e3
        exact fz_load rfl rfl ((wanted_if rfl rfl rfl gk).trans rfl) rfl q0 (B3.out.below hC B3.out.lt) hC rfl
      | 22, ht =>
        cases ht
        have gk : a.tmps.getD 39 undef = .bool false := hd 16 39 rfl (by kernel_rfl)
        have q0 : a.tmps[4]?.getD undef = .pointer (some ⟨w.heap.size + 1, 0, none⟩) := (hF.at_ 4 (by decide)).trans e4
        exact fz_load rfl rfl ((wanted_if rfl rfl rfl gk).trans rfl) rfl q0 (B4.out.below hC B4.out.lt) hC rfl
      | 23, ht =>
        cases ht
        have gk : a.tmps.getD 39 undef = .bool false := hd 16 39 rfl (by kernel_rfl)
        have q0 : a.tmps[5]?.getD undef = .pointer (some ⟨w.heap.size + 1 + 1, 0, none⟩) := (hF.at_ 5 (by decide)).trans e5
        exact fz_load rfl rfl ((wanted_if rfl rfl rfl gk).trans rfl) rfl q0 (B5.out.below hC B5.out.lt) hC rfl
      | 24, ht =>
        cases ht
        have gk : a.tmps.getD 39 undef = .bool false := hd 16 39 rfl (by kernel_rfl)
        have h0 : a.tmps[45]?.getD undef = .agg #[.bool by1, .slice y.A y.n y.c] := (slot_eq a 45).symm.trans (hd 22 45 rfl (by kernel_rfl))
        have h1 : a.tmps[46]?.getD undef = .agg #[.bool bz, .slice z.A z.n z.c] := (slot_eq a 46).symm.trans (hd 23 46 rfl (by kernel_rfl))
        exact fz_two rfl rfl ((wanted_if rfl rfl rfl gk).trans rfl) rfl h0 h1 (R4.out V hC) (R5.out V hC) (fun V2 hb => hC.trans (hb.mono hC.size)) (fun _ _ h => h)
      | 25, ht =>
        cases ht
        have gk : a.tmps.getD 39 undef = .bool false := hd 16 39 rfl (by kernel_rfl)
        have h0r : RepRow [Zb, Zc] (a.tmps.getD 47 undef) V := hd 24 47 rfl (by kernel_rfl)
        have h0 : a.tmps[47]?.getD undef = a.tmps.getD 47 undef := (slot_eq a 47).symm
        exact fz_all (Z := (Zb + Zc)) rfl rfl ((wanted_if rfl rfl rfl gk).trans rfl) (fun V2 hb => hC.trans (hb.mono hC.size)) (S.later (HW.out.trans (hC.mono HW.out.size))).add (call1_run ⟨_, rfl⟩ h0 (enters_of Tryd.func9 (by kernel_rfl) rfl)) h0r (fun _ h => (sum_of h).trans (by simp)) (fun _ _ h => h)
      | 26, ht =>
        cases ht
        have gk : a.tmps.getD 39 undef = .bool false := hd 16 39 rfl (by kernel_rfl)
        have h0 : a.tmps[44]?.getD undef = .agg #[.bool bx, .slice x.A x.n x.c] := (slot_eq a 44).symm.trans (hd 21 44 rfl (by kernel_rfl))
        have h1r : RepT (Zb + Zc) (a.tmps.getD 48 undef) V := hd 25 48 rfl (by kernel_rfl)
        have h1 : a.tmps[48]?.getD undef = a.tmps.getD 48 undef := (slot_eq a 48).symm
        exact fz_two rfl rfl ((wanted_if rfl rfl rfl gk).trans rfl) rfl h0 h1 (R3.out V hC) (h1r.z (lb_len (lb_add Lb1 Lc) (by decide))) (fun V2 hb => hC.trans (hb.mono hC.size)) (fun _ _ h => h)
      | 27, ht =>
        cases ht
        have gk : a.tmps.getD 39 undef = .bool false := hd 16 39 rfl (by kernel_rfl)
        have h0r : RepRow [Za, (Zb + Zc)] (a.tmps.getD 49 undef) V := hd 26 49 rfl (by kernel_rfl)
        have h0 : a.tmps[49]?.getD undef = a.tmps.getD 49 undef := (slot_eq a 49).symm
        exact fz_all (Z := (Za + (Zb + Zc))) rfl rfl ((wanted_if rfl rfl rfl gk).trans rfl) (fun V2 hb => hC.trans (hb.mono hC.size)) (S.later (HW.out.trans (hC.mono HW.out.size))).add (call1_run ⟨_, rfl⟩ h0 (enters_of Tryd.func9 (by kernel_rfl) rfl)) h0r (fun _ h => (sum_of h).trans (by simp)) (fun _ _ h => h)
      | 28, ht =>
        cases ht
        have gk : a.tmps.getD 39 undef = .bool false := hd 16 39 rfl (by kernel_rfl)
        have h0r : RepT ((Za + Zb) + Zc) (a.tmps.getD 43 undef) V := hd 20 43 rfl (by kernel_rfl)
        have h0 : a.tmps[43]?.getD undef = a.tmps.getD 43 undef := (slot_eq a 43).symm
        have h1r : RepT (Za + (Zb + Zc)) (a.tmps.getD 50 undef) V := hd 27 50 rfl (by kernel_rfl)
        have h1 : a.tmps[50]?.getD undef = a.tmps.getD 50 undef := (slot_eq a 50).symm
        exact fz_same rfl rfl ((wanted_if rfl rfl rfl gk).trans rfl) (fun V2 hb => hC.trans (hb.mono hC.size)) rfl (call2_run ⟨_, rfl⟩ h0 h1 (enters_of Tryd.func11 (by kernel_rfl) rfl)) h0r h1r (by first | rfl | omega | grind) (fun _ => rfl)
      | 29, ht =>
        cases ht
        have gk : a.tmps.getD 39 undef = .bool false := hd 16 39 rfl (by kernel_rfl)
        have h0 : a.tmps[51]?.getD undef = .bool true := (slot_eq a 51).symm.trans (hd 28 51 rfl (by kernel_rfl))
        exact step_value (v := .bool false) rfl rfl ((wanted_if rfl rfl rfl gk).trans rfl) (by go_simp) hC rfl
      | 30, ht =>
        cases ht
        have h0 : a.tmps[39]?.getD undef = .bool false := (slot_eq a 39).symm.trans (hd 16 39 rfl (by kernel_rfl))
        have h1 : a.tmps[52]?.getD undef = .bool false := (slot_eq a 52).symm.trans (hd 29 52 rfl (by kernel_rfl))
        exact step_value (v := .bool false) rfl rfl (wanted_free rfl) (by go_simp) hC rfl
      | 31, ht =>
        cases ht
        have h0 : a.tmps[53]?.getD undef = .bool false := (slot_eq a 53).symm.trans (hd 30 53 rfl (by kernel_rfl))
        exact step_value (v := .bool false) rfl rfl (wanted_free rfl) (by go_simp) hC rfl
      | 32, ht =>
        cases ht
        have gk : a.tmps.getD 54 undef = .bool false := hd 31 54 rfl (by kernel_rfl)
        have q0 : a.tmps[3]?.getD undef = .pointer (some ⟨w.heap.size, 0, none⟩) := (hF.at_ 3 (by decide)).trans e3
        exact fz_load rfl rfl ((wanted_if rfl rfl rfl gk).trans rfl) rfl q0 (B3.out.below hC B3.out.lt) hC rfl
      | 33, ht =>
        cases ht
        have gk : a.tmps.getD 54 undef = .bool false := hd 31 54 rfl (by kernel_rfl)
        have q0 : a.tmps[4]?.getD undef = .pointer (some ⟨w.heap.size + 1, 0, none⟩) := (hF.at_ 4 (by decide)).trans e4
        exact fz_load rfl rfl ((wanted_if rfl rfl rfl gk).trans rfl) rfl q0 (B4.out.below hC B4.out.lt) hC rfl
      | 34, ht =>
        cases ht
        have gk : a.tmps.getD 54 undef = .bool false := hd 31 54 rfl (by kernel_rfl)
        have q0 : a.tmps[5]?.getD undef = .pointer (some ⟨w.heap.size + 1 + 1, 0, none⟩) := (hF.at_ 5 (by decide)).trans e5
        exact fz_load rfl rfl ((wanted_if rfl rfl rfl gk).trans rfl) rfl q0 (B5.out.below hC B5.out.lt) hC rfl
      | 35, ht =>
        cases ht
        have gk : a.tmps.getD 54 undef = .bool false := hd 31 54 rfl (by kernel_rfl)
        have h0 : a.tmps[55]?.getD undef = .agg #[.bool bx, .slice x.A x.n x.c] := (slot_eq a 55).symm.trans (hd 32 55 rfl (by kernel_rfl))
        have h1 : a.tmps[56]?.getD undef = .agg #[.bool by1, .slice y.A y.n y.c] := (slot_eq a 56).symm.trans (hd 33 56 rfl (by kernel_rfl))
        have h2 : a.tmps[57]?.getD undef = .agg #[.bool bz, .slice z.A z.n z.c] := (slot_eq a 57).symm.trans (hd 34 57 rfl (by kernel_rfl))
        exact fz_three rfl rfl ((wanted_if rfl rfl rfl gk).trans rfl) rfl h0 h1 h2 (R3.out V hC) (R4.out V hC) (R5.out V hC) (fun V2 hb => hC.trans (hb.mono hC.size)) (fun _ _ h => h)
      | 36, ht =>
        cases ht
        have gk : a.tmps.getD 54 undef = .bool false := hd 31 54 rfl (by kernel_rfl)
        have h0r : RepRow [Za, Zb, Zc] (a.tmps.getD 58 undef) V := hd 35 58 rfl (by kernel_rfl)
        have h0 : a.tmps[58]?.getD undef = a.tmps.getD 58 undef := (slot_eq a 58).symm
        exact fz_all (Z := (Za + (Zb + Zc))) rfl rfl ((wanted_if rfl rfl rfl gk).trans rfl) (fun V2 hb => hC.trans (hb.mono hC.size)) (S.later (HW.out.trans (hC.mono HW.out.size))).add (call1_run ⟨_, rfl⟩ h0 (enters_of Tryd.func9 (by kernel_rfl) rfl)) h0r (fun _ h => (sum_of h).trans (by simp)) (fun _ _ h => h)
      | 37, ht =>
        cases ht
        have gk : a.tmps.getD 54 undef = .bool false := hd 31 54 rfl (by kernel_rfl)
        have q0 : a.tmps[7]?.getD undef = .pointer (some ⟨g7, 0, none⟩) := (hF.at_ 7 (by decide)).trans e7
        exact fz_load rfl rfl ((wanted_if rfl rfl rfl gk).trans rfl) rfl q0 (B7.out.below hC B7.out.lt) hC rfl
      | 38, ht =>
        cases ht
        have gk : a.tmps.getD 54 undef = .bool false := hd 31 54 rfl (by kernel_rfl)
        have q0 : a.tmps[5]?.getD undef = .pointer (some ⟨w.heap.size + 1 + 1, 0, none⟩) := (hF.at_ 5 (by decide)).trans e5
        exact fz_load rfl rfl ((wanted_if rfl rfl rfl gk).trans rfl) rfl q0 (B5.out.below hC B5.out.lt) hC rfl
      | 39, ht =>
        cases ht
        have gk : a.tmps.getD 54 undef = .bool false := hd 31 54 rfl (by kernel_rfl)
        have h0 : a.tmps[60]?.getD undef = .agg #[.bool (decide ((Za + Zb) < 0)), .slice s.A s.n s.c] := (slot_eq a 60).symm.trans (hd 37 60 rfl (by kernel_rfl))
        have h1 : a.tmps[61]?.getD undef = .agg #[.bool bz, .slice z.A z.n z.c] := (slot_eq a 61).symm.trans (hd 38 61 rfl (by kernel_rfl))
        exact fz_two rfl rfl ((wanted_if rfl rfl rfl gk).trans rfl) rfl h0 h1 (R7.out V hC) (R5.out V hC) (fun V2 hb => hC.trans (hb.mono hC.size)) (fun _ _ h => h)
      | 40, ht =>
        cases ht
        have gk : a.tmps.getD 54 undef = .bool false := hd 31 54 rfl (by kernel_rfl)
        have h0r : RepRow [(Za + Zb), Zc] (a.tmps.getD 62 undef) V := hd 39 62 rfl (by kernel_rfl)
        have h0 : a.tmps[62]?.getD undef = a.tmps.getD 62 undef := (slot_eq a 62).symm
        exact fz_all (Z := ((Za + Zb) + Zc)) rfl rfl ((wanted_if rfl rfl rfl gk).trans rfl) (fun V2 hb => hC.trans (hb.mono hC.size)) (S.later (HW.out.trans (hC.mono HW.out.size))).add (call1_run ⟨_, rfl⟩ h0 (enters_of Tryd.func9 (by kernel_rfl) rfl)) h0r (fun _ h => (sum_of h).trans (by simp)) (fun _ _ h => h)
      | 41, ht =>
        cases ht
        have gk : a.tmps.getD 54 undef = .bool false := hd 31 54 rfl (by kernel_rfl)
        have h0r : RepT (Za + (Zb + Zc)) (a.tmps.getD 59 undef) V := hd 36 59 rfl (by kernel_rfl)
        have h0 : a.tmps[59]?.getD undef = a.tmps.getD 59 undef := (slot_eq a 59).symm
        have h1r : RepT ((Za + Zb) + Zc) (a.tmps.getD 63 undef) V := hd 40 63 rfl (by kernel_rfl)
        have h1 : a.tmps[63]?.getD undef = a.tmps.getD 63 undef := (slot_eq a 63).symm
        exact fz_same rfl rfl ((wanted_if rfl rfl rfl gk).trans rfl) (fun V2 hb => hC.trans (hb.mono hC.size)) rfl (call2_run ⟨_, rfl⟩ h0 h1 (enters_of Tryd.func11 (by kernel_rfl) rfl)) h0r h1r (by first | rfl | omega | grind) (fun _ => rfl)
      | 42, ht =>
        cases ht
        have gk : a.tmps.getD 54 undef = .bool false := hd 31 54 rfl (by kernel_rfl)
        have h0 : a.tmps[64]?.getD undef = .bool true := (slot_eq a 64).symm.trans (hd 41 64 rfl (by kernel_rfl))
        exact step_value (v := .bool false) rfl rfl ((wanted_if rfl rfl rfl gk).trans rfl) (by go_simp) hC rfl
      | 43, ht =>
        cases ht
        have h0 : a.tmps[54]?.getD undef = .bool false := (slot_eq a 54).symm.trans (hd 31 54 rfl (by kernel_rfl))
        have h1 : a.tmps[65]?.getD undef = .bool false := (slot_eq a 65).symm.trans (hd 42 65 rfl (by kernel_rfl))
        exact step_value (v := .bool false) rfl rfl (wanted_free rfl) (by go_simp) hC rfl
      | k + 44, ht => simp at ht
    · intro a4 V4 hC hF hf
      replace e3 : a4.tmps[3]?.getD undef = .pointer (some ⟨w.heap.size, 0, none⟩) := (hF.at_ 3 (by decide)).trans e3
      replace e4 : a4.tmps[4]?.getD undef = .pointer (some ⟨w.heap.size + 1, 0, none⟩) := (hF.at_ 4 (by decide)).trans e4
      replace e5 : a4.tmps[5]?.getD undef = .pointer (some ⟨w.heap.size + 1 + 1, 0, none⟩) := (hF.at_ 5 (by decide)).trans e5
      replace e7 : a4.tmps[7]?.getD undef = .pointer (some ⟨g7, 0, none⟩) := (hF.at_ 7 (by decide)).trans e7
      replace e8 : a4.tmps[8]?.getD undef = .pointer (some ⟨g8, 0, none⟩) := (hF.at_ 8 (by decide)).trans e8
      replace HSZ := Lib.hid (show a4.tmps.size = 150 from hF.size.trans HSZ.out)
      replace hdf : a4.defers = [] := hF.defers.trans hdf
      replace B3 := Lib.hid (B3.out.below hC B3.out.lt)
      replace B4 := Lib.hid (B4.out.below hC B4.out.lt)
      replace B5 := Lib.hid (B5.out.below hC B5.out.lt)
      replace B7 := Lib.hid (B7.out.below hC B7.out.lt)
      replace B8 := Lib.hid (B8.out.below hC B8.out.lt)
      replace R3 := Lib.hid (fun V2 (hb : Below V4.heap.size V4 V2) => R3.out V2 (hC.trans (hb.mono hC.size)))
      replace R4 := Lib.hid (fun V2 (hb : Below V4.heap.size V4 V2) => R4.out V2 (hC.trans (hb.mono hC.size)))
      replace R5 := Lib.hid (fun V2 (hb : Below V4.heap.size V4 V2) => R5.out V2 (hC.trans (hb.mono hC.size)))
      replace R7 := Lib.hid (fun V2 (hb : Below V4.heap.size V4 V2) => R7.out V2 (hC.trans (hb.mono hC.size)))
      replace R8 := Lib.hid (fun V2 (hb : Below V4.heap.size V4 V2) => R8.out V2 (hC.trans (hb.mono hC.size)))
      replace T7 := Lib.hid (fun V2 (hb : Below V4.heap.size V4 V2) => T7.out V2 (hC.trans (hb.mono hC.size)))
      replace T8 := Lib.hid (fun V2 (hb : Below V4.heap.size V4 V2) => T8.out V2 (hC.trans (hb.mono hC.size)))
      replace HW := Lib.hid (HW.out.trans (hC.mono HW.out.size))
      have fc : a4.tmps[66]?.getD undef = .bool false := (slot_eq a4 66).symm.trans (hf 43 66 rfl)
      clear hf hF hC
      show wpList _ _ _ [] a4 V4
      go_wp2
      refine wp_cond_false ((slot_eq a4 66).trans fc) ?_
      clear fc
      go_wp2
      refine wp_region_facts 47 [67, 68, 69, 70, 71, 72, 73, 74, 75, 76, 77, 78, 79, 80, 81, 82, 83, 84, 85, 86, 87, 88, 89, 90, 91, 92, 93, 94, 95, 96, 97, 98, 99, 100, 101, 102, 103, 104, 105, 106, 107, 108, 109, 110, 111, 112, 113] (fun i v V => match i with
          | 0 => v = .agg #[.bool (decide ((Za * Zb) < 0)), .slice p.A p.n p.c]
          | 1 => v = .agg #[.bool bz, .slice z.A z.n z.c]
          | 2 => RepRow [(Za * Zb), Zc] v V
          | 3 => RepT ((Za * Zb) * Zc) v V
          | 4 => v = .agg #[.bool bx, .slice x.A x.n x.c]
          | 5 => v = .agg #[.bool by1, .slice y.A y.n y.c]
          | 6 => v = .agg #[.bool bz, .slice z.A z.n z.c]
          | 7 => RepRow [Zb, Zc] v V
          | 8 => RepT (Zb * Zc) v V
          | 9 => RepRow [Za, (Zb * Zc)] v V
          | 10 => RepT (Za * (Zb * Zc)) v V
          | 11 => v = .bool true
          | 12 => v = .bool false
          | 13 => v = .bool false
          | 14 => v = .agg #[.bool bx, .slice x.A x.n x.c]
          | 15 => v = .agg #[.bool by1, .slice y.A y.n y.c]
          | 16 => v = .agg #[.bool bz, .slice z.A z.n z.c]
          | 17 => RepRow [Za, Zb, Zc] v V
          | 18 => RepT (Za * (Zb * Zc)) v V
          | 19 => v = .agg #[.bool (decide ((Za * Zb) < 0)), .slice p.A p.n p.c]
          | 20 => v = .agg #[.bool bz, .slice z.A z.n z.c]
          | 21 => RepRow [(Za * Zb), Zc] v V
          | 22 => RepT ((Za * Zb) * Zc) v V
          | 23 => v = .bool true
          | 24 => v = .bool false
          | 25 => v = .bool false
          | 26 => v = .bool false
          | 27 => v = .agg #[.bool bx, .slice x.A x.n x.c]
          | 28 => v = .agg #[.bool by1, .slice y.A y.n y.c]
          | 29 => RepRow [Za, Zb] v V
          | 30 => RepT (Za + Zb) v V
          | 31 => v = .agg #[.bool bz, .slice z.A z.n z.c]
          | 32 => RepRow [(Za + Zb), Zc] v V
          | 33 => RepT ((Za + Zb) * Zc) v V
          | 34 => v = .agg #[.bool bx, .slice x.A x.n x.c]
          | 35 => v = .agg #[.bool bz, .slice z.A z.n z.c]
          | 36 => RepRow [Za, Zc] v V
          | 37 => RepT (Za * Zc) v V
          | 38 => v = .agg #[.bool by1, .slice y.A y.n y.c]
          | 39 => v = .agg #[.bool bz, .slice z.A z.n z.c]
          | 40 => RepRow [Zb, Zc] v V
          | 41 => RepT (Zb * Zc) v V
          | 42 => RepRow [(Za * Zc), (Zb * Zc)] v V
          | 43 => RepT ((Za * Zc) + (Zb * Zc)) v V
          | 44 => v = .bool true
          | 45 => v = .bool false
          | _ => v = .bool false) (fun V => Below V4.heap.size V4 V) (by kernel_rfl) (by kernel_rfl) rfl (by decide) (by first | simp; done | (rw [HSZ.out]; decide)) (Below.refl _ _).drew ?_ ?_ ?_
      · intro i v V V2 hf hb _
        match i, hf with
        | 0, hf => exact hf
        | 1, hf => exact hf
        | 2, hf => exact RepRow.keep hf hb
        | 3, hf => exact RepT.keep hf hb
        | 4, hf => exact hf
        | 5, hf => exact hf
        | 6, hf => exact hf
        | 7, hf => exact RepRow.keep hf hb
        | 8, hf => exact RepT.keep hf hb
        | 9, hf => exact RepRow.keep hf hb
        | 10, hf => exact RepT.keep hf hb
        | 11, hf => exact hf
        | 12, hf => exact hf
        | 13, hf => exact hf
        | 14, hf => exact hf
        | 15, hf => exact hf
        | 16, hf => exact hf
        | 17, hf => exact RepRow.keep hf hb
        | 18, hf => exact RepT.keep hf hb
        | 19, hf => exact hf
        | 20, hf => exact hf
        | 21, hf => exact RepRow.keep hf hb
        | 22, hf => exact RepT.keep hf hb
        | 23, hf => exact hf
        | 24, hf => exact hf
        | 25, hf => exact hf
        | 26, hf => exact hf
        | 27, hf => exact hf
        | 28, hf => exact hf
        | 29, hf => exact RepRow.keep hf hb
        | 30, hf => exact RepT.keep hf hb
        | 31, hf => exact hf
        | 32, hf => exact RepRow.keep hf hb
        | 33, hf => exact RepT.keep hf hb
        | 34, hf => exact hf
        | 35, hf => exact hf
        | 36, hf => exact RepRow.keep hf hb
        | 37, hf => exact RepT.keep hf hb
        | 38, hf => exact hf
        | 39, hf => exact hf
        | 40, hf => exact RepRow.keep hf hb
        | 41, hf => exact RepT.keep hf hb
        | 42, hf => exact RepRow.keep hf hb
        | 43, hf => exact RepT.keep hf hb
        | 44, hf => exact hf
        | 45, hf => exact hf
        | _ + 46, hf => exact hf
      · intro i t ht a V hC hF hd
        match i, ht with
        | 0, ht =>
          cases ht
          have q0 : a.tmps[8]?.getD undef = .pointer (some ⟨g8, 0, none⟩) := (hF.at_ 8 (by decide)).trans e8
          exact fz_load rfl rfl (wanted_free rfl) rfl q0 (B8.out.below hC B8.out.lt) hC rfl
        | 1, ht =>
          cases ht
          have q0 : a.tmps[5]?.getD undef = .pointer (some ⟨w.heap.size + 1 + 1, 0, none⟩) := (hF.at_ 5 (by decide)).trans e5
          exact fz_load rfl rfl (wanted_free rfl) rfl q0 (B5.out.below hC B5.out.lt) hC rfl
        | 2, ht =>
          cases ht
          have h0 : a.tmps[67]?.getD undef = .agg #[.bool (decide ((Za * Zb) < 0)), .slice p.A p.n p.c] := (slot_eq a 67).symm.trans (hd 0 67 rfl (by kernel_rfl))
          have h1 : a.tmps[68]?.getD undef = .agg #[.bool bz, .slice z.A z.n z.c] := (slot_eq a 68).symm.trans (hd 1 68 rfl (by kernel_rfl))
          exact fz_two rfl rfl (wanted_free rfl) rfl h0 h1 (R8.out V hC) (R5.out V hC) (fun V2 hb => hC.trans (hb.mono hC.size)) (fun _ _ h => h)
        | 3, ht =>
          cases ht
          have h0r : RepRow [(Za * Zb), Zc] (a.tmps.getD 69 undef) V := hd 2 69 rfl (by kernel_rfl)
          have h0 : a.tmps[69]?.getD undef = a.tmps.getD 69 undef := (slot_eq a 69).symm
          exact fz_all (Z := ((Za * Zb) * Zc)) rfl rfl (wanted_free rfl) (fun V2 hb => hC.trans (hb.mono hC.size)) (S.later (HW.out.trans (hC.mono HW.out.size))).mul (call1_run ⟨_, rfl⟩ h0 (enters_of Tryd.func10 (by kernel_rfl) rfl)) h0r (fun _ h => (prod_of h).trans (by simp)) (fun _ _ h => h)
        | 4, ht =>
          cases ht
          have q0 : a.tmps[3]?.getD undef = .pointer (some ⟨w.heap.size, 0, none⟩) := (hF.at_ 3 (by decide)).trans e3
          exact fz_load rfl rfl (wanted_free rfl) rfl q0 (B3.out.below hC B3.out.lt) hC rfl
        | 5, ht =>
          cases ht
          have q0 : a.tmps[4]?.getD undef = .pointer (some ⟨w.heap.size + 1, 0, none⟩) := (hF.at_ 4 (by decide)).trans e4
          exact fz_load rfl rfl (wanted_free rfl) rfl q0 (B4.out.below hC B4.out.lt) hC rfl
        | 6, ht =>
          cases ht
          have q0 : a.tmps[5]?.getD undef = .pointer (some ⟨w.heap.size + 1 + 1, 0, none⟩) := (hF.at_ 5 (by decide)).trans e5
          exact fz_load rfl rfl (wanted_free rfl) rfl q0 (B5.out.below hC B5.out.lt) hC rfl
        | 7, ht =>
          cases ht
          have h0 : a.tmps[72]?.getD undef = .agg #[.bool by1, .slice y.A y.n y.c] := (slot_eq a 72).symm.trans (hd 5 72 rfl (by kernel_rfl))
          have h1 : a.tmps[73]?.getD undef = .agg #[.bool bz, .slice z.A z.n z.c] := (slot_eq a 73).symm.trans (hd 6 73 rfl (by kernel_rfl))
          exact fz_two rfl rfl (wanted_free rfl) rfl h0 h1 (R4.out V hC) (R5.out V hC) (fun V2 hb => hC.trans (hb.mono hC.size)) (fun _ _ h => h)
        | 8, ht =>
          cases ht
          have h0r : RepRow [Zb, Zc] (a.tmps.getD 74 undef) V := hd 7 74 rfl (by kernel_rfl)
          have h0 : a.tmps[74]?.getD undef = a.tmps.getD 74 undef := (slot_eq a 74).symm
          exact fz_all (Z := (Zb * Zc)) rfl rfl (wanted_free rfl) (fun V2 hb => hC.trans (hb.mono hC.size)) (S.later (HW.out.trans (hC.mono HW.out.size))).mul (call1_run ⟨_, rfl⟩ h0 (enters_of Tryd.func10 (by kernel_rfl) rfl)) h0r (fun _ h => (prod_of h).trans (by simp)) (fun _ _ h => h)
        | 9, ht =>
          cases ht
          have h0 : a.tmps[71]?.getD undef = .agg #[.bool bx, .slice x.A x.n x.c] := (slot_eq a 71).symm.trans (hd 4 71 rfl (by kernel_rfl))
          have h1r : RepT (Zb * Zc) (a.tmps.getD 75 undef) V := hd 8 75 rfl (by kernel_rfl)
          have h1 : a.tmps[75]?.getD undef = a.tmps.getD 75 undef := (slot_eq a 75).symm
          exact fz_two rfl rfl (wanted_free rfl) rfl h0 h1 (R3.out V hC) (h1r.z (lb_len (lb_mul Lb1 Lc) (by decide))) (fun V2 hb => hC.trans (hb.mono hC.size)) (fun _ _ h => h)
        | 10, ht =>
          cases ht
          have h0r : RepRow [Za, (Zb * Zc)] (a.tmps.getD 76 undef) V := hd 9 76 rfl (by kernel_rfl)
          have h0 : a.tmps[76]?.getD undef = a.tmps.getD 76 undef := (slot_eq a 76).symm
          exact fz_all (Z := (Za * (Zb * Zc))) rfl rfl (wanted_free rfl) (fun V2 hb => hC.trans (hb.mono hC.size)) (S.later (HW.out.trans (hC.mono HW.out.size))).mul (call1_run ⟨_, rfl⟩ h0 (enters_of Tryd.func10 (by kernel_rfl) rfl)) h0r (fun _ h => (prod_of h).trans (by simp)) (fun _ _ h => h)
        | 11, ht =>
          cases ht
          have h0r : RepT ((Za * Zb) * Zc) (a.tmps.getD 70 undef) V := hd 3 70 rfl (by kernel_rfl)
          have h0 : a.tmps[70]?.getD undef = a.tmps.getD 70 undef := (slot_eq a 70).symm
          have h1r : RepT (Za * (Zb * Zc)) (a.tmps.getD 77 undef) V := hd 10 77 rfl (by kernel_rfl)
          have h1 : a.tmps[77]?.getD undef = a.tmps.getD 77 undef := (slot_eq a 77).symm
          exact fz_same rfl rfl (wanted_free rfl) (fun V2 hb => hC.trans (hb.mono hC.size)) rfl (call2_run ⟨_, rfl⟩ h0 h1 (enters_of Tryd.func11 (by kernel_rfl) rfl)) h0r h1r (by first | rfl | omega | grind) (fun _ => rfl)
        | 12, ht =>
          cases ht
          have h0 : a.tmps[78]?.getD undef = .bool true := (slot_eq a 78).symm.trans (hd 11 78 rfl (by kernel_rfl))
          exact step_value (v := .bool false) rfl rfl (wanted_free rfl) (by go_simp) hC rfl
        | 13, ht =>
          cases ht
          have h0 : a.tmps[79]?.getD undef = .bool false := (slot_eq a 79).symm.trans (hd 12 79 rfl (by kernel_rfl))
          exact step_value (v := .bool false) rfl rfl (wanted_free rfl) (by go_simp) hC rfl
        | 14, ht =>
          cases ht
          have gk : a.tmps.getD 80 undef = .bool false := hd 13 80 rfl (by kernel_rfl)
          have q0 : a.tmps[3]?.getD undef = .pointer (some ⟨w.heap.size, 0, none⟩) := (hF.at_ 3 (by decide)).trans e3
          exact fz_load rfl rfl ((wanted_if rfl rfl rfl gk).trans rfl) rfl q0 (B3.out.below hC B3.out.lt) hC rfl
        | 15, ht =>
          cases ht
          have gk : a.tmps.getD 80 undef = .bool false := hd 13 80 rfl (by kernel_rfl)
          have q0 : a.tmps[4]?.getD undef = .pointer (some ⟨w.heap.size + 1, 0, none⟩) := (hF.at_ 4 (by decide)).trans e4
          exact fz_load rfl rfl ((wanted_if rfl rfl rfl gk).trans rfl) rfl q0 (B4.out.below hC B4.out.lt) hC rfl
        | 16, ht =>
          cases ht
          have gk : a.tmps.getD 80 undef = .bool false := hd 13 80 rfl (by kernel_rfl)
          have q0 : a.tmps[5]?.getD undef = .pointer (some ⟨w.heap.size + 1 + 1, 0, none⟩) := (hF.at_ 5 (by decide)).trans e5
          exact fz_load rfl rfl ((wanted_if rfl rfl rfl gk).trans rfl) rfl q0 (B5.out.below hC B5.out.lt) hC rfl
        | 17, ht =>
          cases ht
          have gk : a.tmps.getD 80 undef = .bool false := hd 13 80 rfl (by kernel_rfl)
          have h0 : a.tmps[81]?.getD undef = .agg #[.bool bx, .slice x.A x.n x.c] := (slot_eq a 81).symm.trans (hd 14 81 rfl (by kernel_rfl))
          have h1 : a.tmps[82]?.getD undef = .agg #[.bool by1, .slice y.A y.n y.c] := (slot_eq a 82).symm.trans (hd 15 82 rfl (by kernel_rfl))
          have h2 : a.tmps[83]?.getD undef = .agg #[.bool bz, .slice z.A z.n z.c] := (slot_eq a 83).symm.trans (hd 16 83 rfl (by kernel_rfl))
          exact fz_three rfl rfl ((wanted_if rfl rfl rfl gk).trans rfl) rfl h0 h1 h2 (R3.out V hC) (R4.out V hC) (R5.out V hC) (fun V2 hb => hC.trans (hb.mono hC.size)) (fun _ _ h => h)
        | 18, ht =>
          cases ht
          have gk : a.tmps.getD 80 undef = .bool false := hd 13 80 rfl (by kernel_rfl)
          have h0r : RepRow [Za, Zb, Zc] (a.tmps.getD 84 undef) V := hd 17 84 rfl (by kernel_rfl)
          have h0 : a.tmps[84]?.getD undef = a.tmps.getD 84 undef := (slot_eq a 84).symm
          exact fz_all (Z := (Za * (Zb * Zc))) rfl rfl ((wanted_if rfl rfl rfl gk).trans rfl) (fun V2 hb => hC.trans (hb.mono hC.size)) (S.later (HW.out.trans (hC.mono HW.out.size))).mul (call1_run ⟨_, rfl⟩ h0 (enters_of Tryd.func10 (by kernel_rfl) rfl)) h0r (fun _ h => (prod_of h).trans (by simp)) (fun _ _ h => h)
        | 19, ht =>
          cases ht
          have gk : a.tmps.getD 80 undef = .bool false := hd 13 80 rfl (by kernel_rfl)
          have q0 : a.tmps[8]?.getD undef = .pointer (some ⟨g8, 0, none⟩) := (hF.at_ 8 (by decide)).trans e8
          exact fz_load rfl rfl ((wanted_if rfl rfl rfl gk).trans rfl) rfl q0 (B8.out.below hC B8.out.lt) hC rfl
        | 20, ht =>
          cases ht
          have gk : a.tmps.getD 80 undef = .bool false := hd 13 80 rfl (by kernel_rfl)
          have q0 : a.tmps[5]?.getD undef = .pointer (some ⟨w.heap.size + 1 + 1, 0, none⟩) := (hF.at_ 5 (by decide)).trans e5
          exact fz_load rfl rfl ((wanted_if rfl rfl rfl gk).trans rfl) rfl q0 (B5.out.below hC B5.out.lt) hC rfl
        | 21, ht =>
          cases ht
          have gk : a.tmps.getD 80 undef = .bool false := hd 13 80 rfl (by kernel_rfl)
          have h0 : a.tmps[86]?.getD undef = .agg #[.bool (decide ((Za * Zb) < 0)), .slice p.A p.n p.c] := (slot_eq a 86).symm.trans (hd 19 86 rfl (by kernel_rfl))
          have h1 : a.tmps[87]?.getD undef = .agg #[.bool bz, .slice z.A z.n z.c] := (slot_eq a 87).symm.trans (hd 20 87 rfl (by kernel_rfl))
          exact fz_two rfl rfl ((wanted_if rfl rfl rfl gk).trans rfl) rfl h0 h1 (R8.out V hC) (R5.out V hC) (fun V2 hb => hC.trans (hb.mono hC.size)) (fun _ _ h => h)
        | 22, ht =>
          cases ht
          have gk : a.tmps.getD 80 undef = .bool false := hd 13 80 rfl (by kernel_rfl)
          have h0r : RepRow [(Za * Zb), Zc] (a.tmps.getD 88 undef) V := hd 21 88 rfl (by kernel_rfl)
          have h0 : a.tmps[88]?.getD undef = a.tmps.getD 88 undef := (slot_eq a 88).symm
          exact fz_all (Z := ((Za * Zb) * Zc)) rfl rfl ((wanted_if rfl rfl rfl gk).trans rfl) (fun V2 hb => hC.trans (hb.mono hC.size)) (S.later (HW.out.trans (hC.mono HW.out.size))).mul (call1_run ⟨_, rfl⟩ h0 (enters_of Tryd.func10 (by kernel_rfl) rfl)) h0r (fun _ h => (prod_of h).trans (by simp)) (fun _ _ h => h)
        | 23, ht =>
          cases ht
          have gk : a.tmps.getD 80 undef = .bool false := hd 13 80 rfl (by kernel_rfl)
          have h0r : RepT (Za * (Zb * Zc)) (a.tmps.getD 85 undef) V := hd 18 85 rfl (by kernel_rfl)
          have h0 : a.tmps[85]?.getD undef = a.tmps.getD 85 undef := (slot_eq a 85).symm
          have h1r : RepT ((Za * Zb) * Zc) (a.tmps.getD 89 undef) V := hd 22 89 rfl (by kernel_rfl)
          have h1 : a.tmps[89]?.getD undef = a.tmps.getD 89 undef := (slot_eq a 89).symm
          exact fz_same rfl rfl ((wanted_if rfl rfl rfl gk).trans rfl) (fun V2 hb => hC.trans (hb.mono hC.size)) rfl (call2_run ⟨_, rfl⟩ h0 h1 (enters_of Tryd.func11 (by kernel_rfl) rfl)) h0r h1r (by first | rfl | omega | grind) (fun _ => rfl)
        | 24, ht =>
          cases ht
          have gk : a.tmps.getD 80 undef = .bool false := hd 13 80 rfl (by kernel_rfl)
          have h0 : a.tmps[90]?.getD undef = .bool true := (slot_eq a 90).symm.trans (hd 23 90 rfl (by kernel_rfl))
          exact step_value (v := .bool false) rfl rfl ((wanted_if rfl rfl rfl gk).trans rfl) (by go_simp) hC rfl
        | 25, ht =>
          cases ht
          have h0 : a.tmps[80]?.getD undef = .bool false := (slot_eq a 80).symm.trans (hd 13 80 rfl (by kernel_rfl))
          have h1 : a.tmps[91]?.getD undef = .bool false := (slot_eq a 91).symm.trans (hd 24 91 rfl (by kernel_rfl))
          exact step_value (v := .bool false) rfl rfl (wanted_free rfl) (by go_simp) hC rfl
        | 26, ht =>
          cases ht
          have h0 : a.tmps[92]?.getD undef = .bool false := (slot_eq a 92).symm.trans (hd 25 92 rfl (by kernel_rfl))
          exact step_value (v := .bool false) rfl rfl (wanted_free rfl) (by go_simp) hC rfl
        | 27, ht =>
          cases ht
          have gk : a.tmps.getD 93 undef = .bool false := hd 26 93 rfl (by kernel_rfl)
          have q0 : a.tmps[3]?.getD undef = .pointer (some ⟨w.heap.size, 0, none⟩) := (hF.at_ 3 (by decide)).trans e3
          exact fz_load rfl rfl ((wanted_if rfl rfl rfl gk).trans rfl) rfl q0 (B3.out.below hC B3.out.lt) hC rfl
        | 28, ht =>
          cases ht
          have gk : a.tmps.getD 93 undef = .bool false := hd 26 93 rfl (by kernel_rfl)
          have q0 : a.tmps[4]?.getD undef = .pointer (some ⟨w.heap.size + 1, 0, none⟩) := (hF.at_ 4 (by decide)).trans e4
          exact fz_load rfl rfl ((wanted_if rfl rfl rfl gk).trans rfl) rfl q0 (B4.out.below hC B4.out.lt) hC rfl
        | 29, ht =>
          cases ht
          have gk : a.tmps.getD 93 undef = .bool false := hd 26 93 rfl (by kernel_rfl)
          have h0 : a.tmps[94]?.getD undef = .agg #[.bool bx, .slice x.A x.n x.c] := (slot_eq a 94).symm.trans (hd 27 94 rfl (by kernel_rfl))
          have h1 : a.tmps[95]?.getD undef = .agg #[.bool by1, .slice y.A y.n y.c] := (slot_eq a 95).symm.trans (hd 28 95 rfl (by kernel_rfl))
          exact fz_two rfl rfl ((wanted_if rfl rfl rfl gk).trans rfl) rfl h0 h1 (R3.out V hC) (R4.out V hC) (fun V2 hb => hC.trans (hb.mono hC.size)) (fun _ _ h => h)
        | 30, ht =>
          cases ht
          have gk : a.tmps.getD 93 undef = .bool false := hd 26 93 rfl (by kernel_rfl)
          have h0r : RepRow [Za, Zb] (a.tmps.getD 96 undef) V := hd 29 96 rfl (by kernel_rfl)
          have h0 : a.tmps[96]?.getD undef = a.tmps.getD 96 undef := (slot_eq a 96).symm
          exact fz_all (Z := (Za + Zb)) rfl rfl ((wanted_if rfl rfl rfl gk).trans rfl) (fun V2 hb => hC.trans (hb.mono hC.size)) (S.later (HW.out.trans (hC.mono HW.out.size))).add (call1_run ⟨_, rfl⟩ h0 (enters_of Tryd.func9 (by kernel_rfl) rfl)) h0r (fun _ h => (sum_of h).trans (by simp)) (fun _ _ h => h)
        | 31, ht =>
          cases ht
          have gk : a.tmps.getD 93 undef = .bool false := hd 26 93 rfl (by kernel_rfl)
          have q0 : a.tmps[5]?.getD undef = .pointer (some ⟨w.heap.size + 1 + 1, 0, none⟩) := (hF.at_ 5 (by decide)).trans e5
          exact fz_load rfl rfl ((wanted_if rfl rfl rfl gk).trans rfl) rfl q0 (B5.out.below hC B5.out.lt) hC rfl
        | 32, ht =>
          cases ht
          have gk : a.tmps.getD 93 undef = .bool false := hd 26 93 rfl (by kernel_rfl)
          have h0r : RepT (Za + Zb) (a.tmps.getD 97 undef) V := hd 30 97 rfl (by kernel_rfl)
          have h0 : a.tmps[97]?.getD undef = a.tmps.getD 97 undef := (slot_eq a 97).symm
          have h1 : a.tmps[98]?.getD undef = .agg #[.bool bz, .slice z.A z.n z.c] := (slot_eq a 98).symm.trans (hd 31 98 rfl (by kernel_rfl))
          exact fz_two rfl rfl ((wanted_if rfl rfl rfl gk).trans rfl) rfl h0 h1 (h0r.z (lb_len (lb_add La Lb1) (by decide))) (R5.out V hC) (fun V2 hb => hC.trans (hb.mono hC.size)) (fun _ _ h => h)
        | 33, ht =>
          cases ht
          have gk : a.tmps.getD 93 undef = .bool false := hd 26 93 rfl (by kernel_rfl)
          have h0r : RepRow [(Za + Zb), Zc] (a.tmps.getD 99 undef) V := hd 32 99 rfl (by kernel_rfl)
          have h0 : a.tmps[99]?.getD undef = a.tmps.getD 99 undef := (slot_eq a 99).symm
          exact fz_all (Z := ((Za + Zb) * Zc)) rfl rfl ((wanted_if rfl rfl rfl gk).trans rfl) (fun V2 hb => hC.trans (hb.mono hC.size)) (S.later (HW.out.trans (hC.mono HW.out.size))).mul (call1_run ⟨_, rfl⟩ h0 (enters_of Tryd.func10 (by kernel_rfl) rfl)) h0r (fun _ h => (prod_of h).trans (by simp)) (fun _ _ h => h)
        | 34, ht =>
          cases ht
          have gk : a.tmps.getD 93 undef = .bool false := hd 26 93 rfl (by kernel_rfl)
          have q0 : a.tmps[3]?.getD undef = .pointer (some ⟨w.heap.size, 0, none⟩) := (hF.at_ 3 (by decide)).trans e3
          exact fz_load rfl rfl ((wanted_if rfl rfl rfl gk).trans rfl) rfl q0 (B3.out.below hC B3.out.lt) hC rfl
        | 35, ht =>
          cases ht
          have gk : a.tmps.getD 93 undef = .bool false := hd 26 93 rfl (by kernel_rfl)
          have q0 : a.tmps[5]?.getD undef = .pointer (some ⟨w.heap.size + 1 + 1, 0, none⟩) := (hF.at_ 5 (by decide)).trans e5
          exact fz_load rfl rfl ((wanted_if rfl rfl rfl gk).trans rfl) rfl q0 (B5.out.below hC B5.out.lt) hC rfl
        | 36, ht =>
          cases ht
          have gk : a.tmps.getD 93 undef = .bool false := hd 26 93 rfl (by kernel_rfl)
          have h0 : a.tmps[101]?.getD undef = .agg #[.bool bx, .slice x.A x.n x.c] := (slot_eq a 101).symm.trans (hd 34 101 rfl (by kernel_rfl))
          have h1 : a.tmps[102]?.getD undef = .agg #[.bool bz, .slice z.A z.n z.c] := (slot_eq a 102).symm.trans (hd 35 102 rfl (by kernel_rfl))
          exact fz_two rfl rfl ((wanted_if rfl rfl rfl gk).trans rfl) rfl h0 h1 (R3.out V hC) (R5.out V hC) (fun V2 hb => hC.trans (hb.mono hC.size)) (fun _ _ h => h)
        | 37, ht =>
          cases ht
          have gk : a.tmps.getD 93 undef = .bool false := hd 26 93 rfl (by kernel_rfl)
          have h0r : RepRow [Za, Zc] (a.tmps.getD 103 undef) V := hd 36 103 rfl (by kernel_rfl)
          have h0 : a.tmps[103]?.getD undef = a.tmps.getD 103 undef := (slot_eq a 103).symm
          exact fz_all (Z := (Za * Zc)) rfl rfl ((wanted_if rfl rfl rfl gk).trans rfl) (fun V2 hb => hC.trans (hb.mono hC.size)) (S.later (HW.out.trans (hC.mono HW.out.size))).mul (call1_run ⟨_, rfl⟩ h0 (enters_of Tryd.func10 (by kernel_rfl) rfl)) h0r (fun _ h => (prod_of h).trans (by simp)) (fun _ _ h => h)
        | 38, ht =>
          cases ht
          have gk : a.tmps.getD 93 undef = .bool false := hd 26 93 rfl (by kernel_rfl)
          have q0 : a.tmps[4]?.getD undef = .pointer (some ⟨w.heap.size + 1, 0, none⟩) := (hF.at_ 4 (by decide)).trans e4
          exact fz_load rfl rfl ((wanted_if rfl rfl rfl gk).trans rfl) rfl q0 (B4.out.below hC B4.out.lt) hC rfl
        | 39, ht =>
          cases ht
          have gk : a.tmps.getD 93 undef = .bool false := hd 26 93 rfl (by kernel_rfl)
          have q0 : a.tmps[5]?.getD undef = .pointer (some ⟨w.heap.size + 1 + 1, 0, none⟩) := (hF.at_ 5 (by decide)).trans e5
          exact fz_load rfl rfl ((wanted_if rfl rfl rfl gk).trans rfl) rfl q0 (B5.out.below hC B5.out.lt) hC rfl
        | 40, ht =>
          cases ht
          have gk : a.tmps.getD 93 undef = .bool false := hd 26 93 rfl (by kernel_rfl)
          have h0 : a.tmps[105]?.getD undef = .agg #[.bool by1, .slice y.A y.n y.c] := (slot_eq a 105).symm.trans (hd 38 105 rfl (by kernel_rfl))
          have h1 : a.tmps[106]?.getD undef = .agg #[.bool bz, .slice z.A z.n z.c] := (slot_eq a 106).symm.trans (hd 39 106 rfl (by kernel_rfl))
          exact fz_two rfl rfl ((wanted_if rfl rfl rfl gk).trans rfl) rfl h0 h1 (R4.out V hC) (R5.out V hC) (fun V2 hb => hC.trans (hb.mono hC.size)) (fun _ _ h => h)
        | 41, ht =>
          cases ht
          have gk : a.tmps.getD 93 undef = .bool false := hd 26 93 rfl (by kernel_rfl)
          have h0r : RepRow [Zb, Zc] (a.tmps.getD 107 undef) V := hd 40 107 rfl (by kernel_rfl)
          have h0 : a.tmps[107]?.getD undef = a.tmps.getD 107 undef := (slot_eq a 107).symm
          exact fz_all (Z := (Zb * Zc)) rfl rfl ((wanted_if rfl rfl rfl gk).trans rfl) (fun V2 hb => hC.trans (hb.mono hC.size)) (S.later (HW.out.trans (hC.mono HW.out.size))).mul (call1_run ⟨_, rfl⟩ h0 (enters_of Tryd.func10 (by kernel_rfl) rfl)) h0r (fun _ h => (prod_of h).trans (by simp)) (fun _ _ h => h)
        | 42, ht =>
          cases ht
          have gk : a.tmps.getD 93 undef = .bool false := hd 26 93 rfl (by kernel_rfl)
          have h0r : RepT (Za * Zc) (a.tmps.getD 104 undef) V := hd 37 104 rfl (by kernel_rfl)
          have h0 : a.tmps[104]?.getD undef = a.tmps.getD 104 undef := (slot_eq a 104).symm
          have h1r : RepT (Zb * Zc) (a.tmps.getD 108 undef) V := hd 41 108 rfl (by kernel_rfl)
          have h1 : a.tmps[108]?.getD undef = a.tmps.getD 108 undef := (slot_eq a 108).symm
          exact fz_two rfl rfl ((wanted_if rfl rfl rfl gk).trans rfl) rfl h0 h1 (h0r.z (lb_len (lb_mul La Lc) (by decide))) (h1r.z (lb_len (lb_mul Lb1 Lc) (by decide))) (fun V2 hb => hC.trans (hb.mono hC.size)) (fun _ _ h => h)
        | 43, ht =>
          cases ht
          have gk : a.tmps.getD 93 undef = .bool false := hd 26 93 rfl (by kernel_rfl)
          have h0r : RepRow [(Za * Zc), (Zb * Zc)] (a.tmps.getD 109 undef) V := hd 42 109 rfl (by kernel_rfl)
          have h0 : a.tmps[109]?.getD undef = a.tmps.getD 109 undef := (slot_eq a 109).symm
          exact fz_all (Z := ((Za * Zc) + (Zb * Zc))) rfl rfl ((wanted_if rfl rfl rfl gk).trans rfl) (fun V2 hb => hC.trans (hb.mono hC.size)) (S.later (HW.out.trans (hC.mono HW.out.size))).add (call1_run ⟨_, rfl⟩ h0 (enters_of Tryd.func9 (by kernel_rfl) rfl)) h0r (fun _ h => (sum_of h).trans (by simp)) (fun _ _ h => h)
        | 44, ht =>
          cases ht
          have gk : a.tmps.getD 93 undef = .bool false := hd 26 93 rfl (by kernel_rfl)
          have h0r : RepT ((Za + Zb) * Zc) (a.tmps.getD 100 undef) V := hd 33 100 rfl (by kernel_rfl)
          have h0 : a.tmps[100]?.getD undef = a.tmps.getD 100 undef := (slot_eq a 100).symm
          have h1r : RepT ((Za * Zc) + (Zb * Zc)) (a.tmps.getD 110 undef) V := hd 43 110 rfl (by kernel_rfl)
          have h1 : a.tmps[110]?.getD undef = a.tmps.getD 110 undef := (slot_eq a 110).symm
          exact fz_same rfl rfl ((wanted_if rfl rfl rfl gk).trans rfl) (fun V2 hb => hC.trans (hb.mono hC.size)) rfl (call2_run ⟨_, rfl⟩ h0 h1 (enters_of Tryd.func11 (by kernel_rfl) rfl)) h0r h1r (by first | rfl | omega | grind) (fun _ => rfl)
        | 45, ht =>
          cases ht
          have gk : a.tmps.getD 93 undef = .bool false := hd 26 93 rfl (by kernel_rfl)
          have h0 : a.tmps[111]?.getD undef = .bool true := (slot_eq a 111).symm.trans (hd 44 111 rfl (by kernel_rfl))
          exact step_value (v := .bool false) rfl rfl ((wanted_if rfl rfl rfl gk).trans rfl) (by go_simp) hC rfl
        | 46, ht =>
          cases ht
          have h0 : a.tmps[93]?.getD undef = .bool false := (slot_eq a 93).symm.trans (hd 26 93 rfl (by kernel_rfl))
          have h1 : a.tmps[112]?.getD undef = .bool false := (slot_eq a 112).symm.trans (hd 45 112 rfl (by kernel_rfl))
          exact step_value (v := .bool false) rfl rfl (wanted_free rfl) (by go_simp) hC rfl
        | k + 47, ht => simp at ht
      · intro a6 V6 hC hF hf
        replace e3 : a6.tmps[3]?.getD undef = .pointer (some ⟨w.heap.size, 0, none⟩) := (hF.at_ 3 (by decide)).trans e3
        replace e4 : a6.tmps[4]?.getD undef = .pointer (some ⟨w.heap.size + 1, 0, none⟩) := (hF.at_ 4 (by decide)).trans e4
        replace e5 : a6.tmps[5]?.getD undef = .pointer (some ⟨w.heap.size + 1 + 1, 0, none⟩) := (hF.at_ 5 (by decide)).trans e5
        replace e7 : a6.tmps[7]?.getD undef = .pointer (some ⟨g7, 0, none⟩) := (hF.at_ 7 (by decide)).trans e7
        replace e8 : a6.tmps[8]?.getD undef = .pointer (some ⟨g8, 0, none⟩) := (hF.at_ 8 (by decide)).trans e8
        replace HSZ := Lib.hid (show a6.tmps.size = 150 from hF.size.trans HSZ.out)
        replace hdf : a6.defers = [] := hF.defers.trans hdf
        replace B3 := Lib.hid (B3.out.below hC B3.out.lt)
        replace B4 := Lib.hid (B4.out.below hC B4.out.lt)
        replace B5 := Lib.hid (B5.out.below hC B5.out.lt)
        replace B7 := Lib.hid (B7.out.below hC B7.out.lt)
        replace B8 := Lib.hid (B8.out.below hC B8.out.lt)
        replace R3 := Lib.hid (fun V2 (hb : Below V6.heap.size V6 V2) => R3.out V2 (hC.trans (hb.mono hC.size)))
        replace R4 := Lib.hid (fun V2 (hb : Below V6.heap.size V6 V2) => R4.out V2 (hC.trans (hb.mono hC.size)))
        replace R5 := Lib.hid (fun V2 (hb : Below V6.heap.size V6 V2) => R5.out V2 (hC.trans (hb.mono hC.size)))
        replace R7 := Lib.hid (fun V2 (hb : Below V6.heap.size V6 V2) => R7.out V2 (hC.trans (hb.mono hC.size)))
        replace R8 := Lib.hid (fun V2 (hb : Below V6.heap.size V6 V2) => R8.out V2 (hC.trans (hb.mono hC.size)))
        replace T7 := Lib.hid (fun V2 (hb : Below V6.heap.size V6 V2) => T7.out V2 (hC.trans (hb.mono hC.size)))
        replace T8 := Lib.hid (fun V2 (hb : Below V6.heap.size V6 V2) => T8.out V2 (hC.trans (hb.mono hC.size)))
        replace HW := Lib.hid (HW.out.trans (hC.mono HW.out.size))
        have fc : a6.tmps[113]?.getD undef = .bool false := (slot_eq a6 113).symm.trans (hf 46 113 rfl)
        clear hf hF hC
        show wpList _ _ _ [] a6 V6
        go_wp2
        refine wp_cond_false ((slot_eq a6 113).trans fc) ?_
        clear fc
        go_wp2
        refine wp_region_facts 36 [114, 115, 116, 117, 118, 119, 120, 121, 122, 123, 124, 125, 126, 127, 128, 129, 130, 131, 132, 133, 134, 135, 136, 137, 138, 139, 140, 141, 142, 143, 144, 145, 146, 147, 148, 149] (fun i v V => match i with
            | 0 => v = .agg #[.bool bx, .slice x.A x.n x.c]
            | 1 => v = .agg #[.bool bx, .slice x.A x.n x.c]
            | 2 => RepT (-Za) v V
            | 3 => RepRow [Za, (-Za)] v V
            | 4 => RepT (Za + (-Za)) v V
            | 5 => RepT 0 v V
            | 6 => v = .bool true
            | 7 => v = .bool true
            | 8 => v = .agg #[.bool bx, .slice x.A x.n x.c]
            | 9 => RepRow [Za] v V
            | 10 => RepT Za v V
            | 11 => v = .agg #[.bool bx, .slice x.A x.n x.c]
            | 12 => RepT Za v V
            | 13 => v = .bool true
            | 14 => v = .bool true
            | 15 => v = .bool true
            | 16 => v = .agg #[.bool (decide ((Za + Zb) < 0)), .slice s.A s.n s.c]
            | 17 => v = .agg #[.bool by1, .slice y.A y.n y.c]
            | 18 => RepT ((Za + Zb) - Zb) v V
            | 19 => v = .agg #[.bool bx, .slice x.A x.n x.c]
            | 20 => RepT Za v V
            | 21 => v = .bool true
            | 22 => v = .bool true
            | 23 => v = .bool true
            | 24 => v = .agg #[.bool (decide ((Za * Zb) < 0)), .slice p.A p.n p.c]
            | 25 => v = .int .i64 (Int.sign (Za * Zb))
            | 26 => v = .agg #[.bool bx, .slice x.A x.n x.c]
            | 27 => v = .int .i64 (Int.sign Za)
            | 28 => v = .agg #[.bool by1, .slice y.A y.n y.c]
            | 29 => v = .int .i64 (Int.sign Zb)
            | 30 => v = .int .i64 (Int.sign Za * Int.sign Zb)
            | 31 => v = .bool true
            | 32 => v = .bool true
            | 33 => v = .bool true
            | 34 => v = .bool true
            | _ => v = .bool true) (fun V => Below V6.heap.size V6 V) (by kernel_rfl) (by kernel_rfl) rfl (by decide) (by first | simp; done | (rw [HSZ.out]; decide)) (Below.refl _ _).drew ?_ ?_ ?_
        · intro i v V V2 hf hb _
          match i, hf with
          | 0, hf => exact hf
          | 1, hf => exact hf
          | 2, hf => exact RepT.keep hf hb
          | 3, hf => exact RepRow.keep hf hb
          | 4, hf => exact RepT.keep hf hb
          | 5, hf => exact RepT.keep hf hb
          | 6, hf => exact hf
          | 7, hf => exact hf
          | 8, hf => exact hf
          | 9, hf => exact RepRow.keep hf hb
          | 10, hf => exact RepT.keep hf hb
          | 11, hf => exact hf
          | 12, hf => exact RepT.keep hf hb
          | 13, hf => exact hf
          | 14, hf => exact hf
          | 15, hf => exact hf
          | 16, hf => exact hf
          | 17, hf => exact hf
          | 18, hf => exact RepT.keep hf hb
          | 19, hf => exact hf
          | 20, hf => exact RepT.keep hf hb
          | 21, hf => exact hf
          | 22, hf => exact hf
          | 23, hf => exact hf
          | 24, hf => exact hf
          | 25, hf => exact hf
          | 26, hf => exact hf
          | 27, hf => exact hf
          | 28, hf => exact hf
          | 29, hf => exact hf
          | 30, hf => exact hf
          | 31, hf => exact hf
          | 32, hf => exact hf
          | 33, hf => exact hf
          | 34, hf => exact hf
          | _ + 35, hf => exact hf
        · intro i t ht a V hC hF hd
          match i, ht with
          | 0, ht =>
            cases ht
            have q0 : a.tmps[3]?.getD undef = .pointer (some ⟨w.heap.size, 0, none⟩) := (hF.at_ 3 (by decide)).trans e3
            exact fz_load rfl rfl (wanted_free rfl) rfl q0 (B3.out.below hC B3.out.lt) hC rfl
          | 1, ht =>
            cases ht
            have q0 : a.tmps[3]?.getD undef = .pointer (some ⟨w.heap.size, 0, none⟩) := (hF.at_ 3 (by decide)).trans e3
            exact fz_load rfl rfl (wanted_free rfl) rfl q0 (B3.out.below hC B3.out.lt) hC rfl
          | 2, ht =>
            cases ht
            have h0 : a.tmps[115]?.getD undef = .agg #[.bool bx, .slice x.A x.n x.c] := (slot_eq a 115).symm.trans (hd 1 115 rfl (by kernel_rfl))
            exact fz_of1 (Z := (-Za)) rfl rfl (wanted_free rfl) (fun V2 hb => hC.trans (hb.mono hC.size)) (S.later (HW.out.trans (hC.mono HW.out.size))).neg (call1_run ⟨_, rfl⟩ h0 (enters_of Tryd.func12 (by kernel_rfl) rfl)) (R3.out V hC) rfl (fun _ _ h => h)
          | 3, ht =>
            cases ht
            have h0 : a.tmps[114]?.getD undef = .agg #[.bool bx, .slice x.A x.n x.c] := (slot_eq a 114).symm.trans (hd 0 114 rfl (by kernel_rfl))
            have h1r : RepT (-Za) (a.tmps.getD 116 undef) V := hd 2 116 rfl (by kernel_rfl)
            have h1 : a.tmps[116]?.getD undef = a.tmps.getD 116 undef := (slot_eq a 116).symm
            exact fz_two rfl rfl (wanted_free rfl) rfl h0 h1 (R3.out V hC) (h1r.z (lb_len (lb_neg La) (by decide))) (fun V2 hb => hC.trans (hb.mono hC.size)) (fun _ _ h => h)
          | 4, ht =>
            cases ht
            have h0r : RepRow [Za, (-Za)] (a.tmps.getD 117 undef) V := hd 3 117 rfl (by kernel_rfl)
            have h0 : a.tmps[117]?.getD undef = a.tmps.getD 117 undef := (slot_eq a 117).symm
            exact fz_all (Z := (Za + (-Za))) rfl rfl (wanted_free rfl) (fun V2 hb => hC.trans (hb.mono hC.size)) (S.later (HW.out.trans (hC.mono HW.out.size))).add (call1_run ⟨_, rfl⟩ h0 (enters_of Tryd.func9 (by kernel_rfl) rfl)) h0r (fun _ h => (sum_of h).trans (by simp)) (fun _ _ h => h)
          | 5, ht =>
            cases ht
            exact fz_nil rfl rfl (wanted_free rfl) (fun V2 hb => hC.trans (hb.mono hC.size)) (S.later (HW.out.trans (hC.mono HW.out.size))).add (callc_run ⟨_, rfl⟩ (enters_of Tryd.func9 (by kernel_rfl) rfl)) rfl (fun _ _ h => h)
          | 6, ht =>
            cases ht
            have h0r : RepT (Za + (-Za)) (a.tmps.getD 118 undef) V := hd 4 118 rfl (by kernel_rfl)
            have h0 : a.tmps[118]?.getD undef = a.tmps.getD 118 undef := (slot_eq a 118).symm
            have h1r : RepT 0 (a.tmps.getD 119 undef) V := hd 5 119 rfl (by kernel_rfl)
            have h1 : a.tmps[119]?.getD undef = a.tmps.getD 119 undef := (slot_eq a 119).symm
            exact fz_same rfl rfl (wanted_free rfl) (fun V2 hb => hC.trans (hb.mono hC.size)) rfl (call2_run ⟨_, rfl⟩ h0 h1 (enters_of Tryd.func11 (by kernel_rfl) rfl)) h0r h1r (by first | rfl | omega | grind) (fun _ => rfl)
          | 7, ht =>
            cases ht
            have h0 : a.tmps[120]?.getD undef = .bool true := (slot_eq a 120).symm.trans (hd 6 120 rfl (by kernel_rfl))
            exact step_value (v := .bool true) rfl rfl (wanted_free rfl) (by go_simp) hC rfl
          | 8, ht =>
            cases ht
            have gk : a.tmps.getD 121 undef = .bool true := hd 7 121 rfl (by kernel_rfl)
            have q0 : a.tmps[3]?.getD undef = .pointer (some ⟨w.heap.size, 0, none⟩) := (hF.at_ 3 (by decide)).trans e3
            exact fz_load rfl rfl ((wanted_if rfl rfl rfl gk).trans rfl) rfl q0 (B3.out.below hC B3.out.lt) hC rfl
          | 9, ht =>
            cases ht
            have gk : a.tmps.getD 121 undef = .bool true := hd 7 121 rfl (by kernel_rfl)
            have h0 : a.tmps[122]?.getD undef = .agg #[.bool bx, .slice x.A x.n x.c] := (slot_eq a 122).symm.trans (hd 8 122 rfl (by kernel_rfl))
            exact fz_one rfl rfl ((wanted_if rfl rfl rfl gk).trans rfl) rfl h0 (R3.out V hC) (fun V2 hb => hC.trans (hb.mono hC.size)) (fun _ _ h => h)
          | 10, ht =>
            cases ht
            have gk : a.tmps.getD 121 undef = .bool true := hd 7 121 rfl (by kernel_rfl)
            have h0r : RepRow [Za] (a.tmps.getD 123 undef) V := hd 9 123 rfl (by kernel_rfl)
            have h0 : a.tmps[123]?.getD undef = a.tmps.getD 123 undef := (slot_eq a 123).symm
            exact fz_all (Z := Za) rfl rfl ((wanted_if rfl rfl rfl gk).trans rfl) (fun V2 hb => hC.trans (hb.mono hC.size)) (S.later (HW.out.trans (hC.mono HW.out.size))).mul (call1_run ⟨_, rfl⟩ h0 (enters_of Tryd.func10 (by kernel_rfl) rfl)) h0r (fun _ h => (prod_of h).trans (by simp)) (fun _ _ h => h)
          | 11, ht =>
            cases ht
            have gk : a.tmps.getD 121 undef = .bool true := hd 7 121 rfl (by kernel_rfl)
            have q0 : a.tmps[3]?.getD undef = .pointer (some ⟨w.heap.size, 0, none⟩) := (hF.at_ 3 (by decide)).trans e3
            exact fz_load rfl rfl ((wanted_if rfl rfl rfl gk).trans rfl) rfl q0 (B3.out.below hC B3.out.lt) hC rfl
          | 12, ht =>
            cases ht
            have gk : a.tmps.getD 121 undef = .bool true := hd 7 121 rfl (by kernel_rfl)
            have h0 : a.tmps[125]?.getD undef = .agg #[.bool bx, .slice x.A x.n x.c] := (slot_eq a 125).symm.trans (hd 11 125 rfl (by kernel_rfl))
            exact fz_of1 (Z := Za) rfl rfl ((wanted_if rfl rfl rfl gk).trans rfl) (fun V2 hb => hC.trans (hb.mono hC.size)) (S.later (HW.out.trans (hC.mono HW.out.size))).norm (call1_run ⟨_, rfl⟩ h0 (enters_of Tryd.func13 (by kernel_rfl) rfl)) (R3.out V hC) rfl (fun _ _ h => h)
          | 13, ht =>
            cases ht
            have gk : a.tmps.getD 121 undef = .bool true := hd 7 121 rfl (by kernel_rfl)
            have h0r : RepT Za (a.tmps.getD 124 undef) V := hd 10 124 rfl (by kernel_rfl)
            have h0 : a.tmps[124]?.getD undef = a.tmps.getD 124 undef := (slot_eq a 124).symm
            have h1r : RepT Za (a.tmps.getD 126 undef) V := hd 12 126 rfl (by kernel_rfl)
            have h1 : a.tmps[126]?.getD undef = a.tmps.getD 126 undef := (slot_eq a 126).symm
            exact fz_same rfl rfl ((wanted_if rfl rfl rfl gk).trans rfl) (fun V2 hb => hC.trans (hb.mono hC.size)) rfl (call2_run ⟨_, rfl⟩ h0 h1 (enters_of Tryd.func11 (by kernel_rfl) rfl)) h0r h1r (by first | rfl | omega | grind) (fun _ => rfl)
          | 14, ht =>
            cases ht
            have h0 : a.tmps[121]?.getD undef = .bool true := (slot_eq a 121).symm.trans (hd 7 121 rfl (by kernel_rfl))
            have h1 : a.tmps[127]?.getD undef = .bool true := (slot_eq a 127).symm.trans (hd 13 127 rfl (by kernel_rfl))
            exact step_value (v := .bool true) rfl rfl (wanted_free rfl) (by go_simp) hC rfl
          | 15, ht =>
            cases ht
            have h0 : a.tmps[128]?.getD undef = .bool true := (slot_eq a 128).symm.trans (hd 14 128 rfl (by kernel_rfl))
            exact step_value (v := .bool true) rfl rfl (wanted_free rfl) (by go_simp) hC rfl
          | 16, ht =>
            cases ht
            have gk : a.tmps.getD 129 undef = .bool true := hd 15 129 rfl (by kernel_rfl)
            have q0 : a.tmps[7]?.getD undef = .pointer (some ⟨g7, 0, none⟩) := (hF.at_ 7 (by decide)).trans e7
            exact fz_load rfl rfl ((wanted_if rfl rfl rfl gk).trans rfl) rfl q0 (B7.out.below hC B7.out.lt) hC rfl
          | 17, ht =>
            cases ht
            have gk : a.tmps.getD 129 undef = .bool true := hd 15 129 rfl (by kernel_rfl)
            have q0 : a.tmps[4]?.getD undef = .pointer (some ⟨w.heap.size + 1, 0, none⟩) := (hF.at_ 4 (by decide)).trans e4
            exact fz_load rfl rfl ((wanted_if rfl rfl rfl gk).trans rfl) rfl q0 (B4.out.below hC B4.out.lt) hC rfl
          | 18, ht =>
            cases ht
            have gk : a.tmps.getD 129 undef = .bool true := hd 15 129 rfl (by kernel_rfl)
            have h0 : a.tmps[130]?.getD undef = .agg #[.bool (decide ((Za + Zb) < 0)), .slice s.A s.n s.c] := (slot_eq a 130).symm.trans (hd 16 130 rfl (by kernel_rfl))
            have h1 : a.tmps[131]?.getD undef = .agg #[.bool by1, .slice y.A y.n y.c] := (slot_eq a 131).symm.trans (hd 17 131 rfl (by kernel_rfl))
            exact fz_of2 (Z := ((Za + Zb) - Zb)) rfl rfl ((wanted_if rfl rfl rfl gk).trans rfl) (fun V2 hb => hC.trans (hb.mono hC.size)) (S.later (HW.out.trans (hC.mono HW.out.size))).sub (call2_run ⟨_, rfl⟩ h0 h1 (enters_of Tryd.func14 (by kernel_rfl) rfl)) (R7.out V hC) (R4.out V hC) rfl (fun _ _ h => h)
          | 19, ht =>
            cases ht
            have gk : a.tmps.getD 129 undef = .bool true := hd 15 129 rfl (by kernel_rfl)
            have q0 : a.tmps[3]?.getD undef = .pointer (some ⟨w.heap.size, 0, none⟩) := (hF.at_ 3 (by decide)).trans e3
            exact fz_load rfl rfl ((wanted_if rfl rfl rfl gk).trans rfl) rfl q0 (B3.out.below hC B3.out.lt) hC rfl
          | 20, ht =>
            cases ht
            have gk : a.tmps.getD 129 undef = .bool true := hd 15 129 rfl (by kernel_rfl)
            have h0 : a.tmps[133]?.getD undef = .agg #[.bool bx, .slice x.A x.n x.c] := (slot_eq a 133).symm.trans (hd 19 133 rfl (by kernel_rfl))
            exact fz_of1 (Z := Za) rfl rfl ((wanted_if rfl rfl rfl gk).trans rfl) (fun V2 hb => hC.trans (hb.mono hC.size)) (S.later (HW.out.trans (hC.mono HW.out.size))).norm (call1_run ⟨_, rfl⟩ h0 (enters_of Tryd.func13 (by kernel_rfl) rfl)) (R3.out V hC) rfl (fun _ _ h => h)
          | 21, ht =>
            cases ht
            have gk : a.tmps.getD 129 undef = .bool true := hd 15 129 rfl (by kernel_rfl)
            have h0r : RepT ((Za + Zb) - Zb) (a.tmps.getD 132 undef) V := hd 18 132 rfl (by kernel_rfl)
            have h0 : a.tmps[132]?.getD undef = a.tmps.getD 132 undef := (slot_eq a 132).symm
            have h1r : RepT Za (a.tmps.getD 134 undef) V := hd 20 134 rfl (by kernel_rfl)
            have h1 : a.tmps[134]?.getD undef = a.tmps.getD 134 undef := (slot_eq a 134).symm
            exact fz_same rfl rfl ((wanted_if rfl rfl rfl gk).trans rfl) (fun V2 hb => hC.trans (hb.mono hC.size)) rfl (call2_run ⟨_, rfl⟩ h0 h1 (enters_of Tryd.func11 (by kernel_rfl) rfl)) h0r h1r (by first | rfl | omega | grind) (fun _ => rfl)
          | 22, ht =>
            cases ht
            have h0 : a.tmps[129]?.getD undef = .bool true := (slot_eq a 129).symm.trans (hd 15 129 rfl (by kernel_rfl))
            have h1 : a.tmps[135]?.getD undef = .bool true := (slot_eq a 135).symm.trans (hd 21 135 rfl (by kernel_rfl))
            exact step_value (v := .bool true) rfl rfl (wanted_free rfl) (by go_simp) hC rfl
          | 23, ht =>
            cases ht
            have h0 : a.tmps[136]?.getD undef = .bool true := (slot_eq a 136).symm.trans (hd 22 136 rfl (by kernel_rfl))
            exact step_value (v := .bool true) rfl rfl (wanted_free rfl) (by go_simp) hC rfl
          | 24, ht =>
            cases ht
            have gk : a.tmps.getD 137 undef = .bool true := hd 23 137 rfl (by kernel_rfl)
            have q0 : a.tmps[8]?.getD undef = .pointer (some ⟨g8, 0, none⟩) := (hF.at_ 8 (by decide)).trans e8
            exact fz_load rfl rfl ((wanted_if rfl rfl rfl gk).trans rfl) rfl q0 (B8.out.below hC B8.out.lt) hC rfl
          | 25, ht =>
            cases ht
            have gk : a.tmps.getD 137 undef = .bool true := hd 23 137 rfl (by kernel_rfl)
            have h0 : a.tmps[138]?.getD undef = .agg #[.bool (decide ((Za * Zb) < 0)), .slice p.A p.n p.c] := (slot_eq a 138).symm.trans (hd 24 138 rfl (by kernel_rfl))
            exact fz_say rfl rfl ((wanted_if rfl rfl rfl gk).trans rfl) (fun V2 hb => hC.trans (hb.mono hC.size)) (S.later (HW.out.trans (hC.mono HW.out.size))).sign (call1_run ⟨_, rfl⟩ h0 (enters_of Tryd.func15 (by kernel_rfl) rfl)) (R8.out V hC) rfl (fun _ => rfl)
          | 26, ht =>
            cases ht
            have gk : a.tmps.getD 137 undef = .bool true := hd 23 137 rfl (by kernel_rfl)
            have q0 : a.tmps[3]?.getD undef = .pointer (some ⟨w.heap.size, 0, none⟩) := (hF.at_ 3 (by decide)).trans e3
            exact fz_load rfl rfl ((wanted_if rfl rfl rfl gk).trans rfl) rfl q0 (B3.out.below hC B3.out.lt) hC rfl
          | 27, ht =>
            cases ht
            have gk : a.tmps.getD 137 undef = .bool true := hd 23 137 rfl (by kernel_rfl)
            have h0 : a.tmps[140]?.getD undef = .agg #[.bool bx, .slice x.A x.n x.c] := (slot_eq a 140).symm.trans (hd 26 140 rfl (by kernel_rfl))
            exact fz_say rfl rfl ((wanted_if rfl rfl rfl gk).trans rfl) (fun V2 hb => hC.trans (hb.mono hC.size)) (S.later (HW.out.trans (hC.mono HW.out.size))).sign (call1_run ⟨_, rfl⟩ h0 (enters_of Tryd.func15 (by kernel_rfl) rfl)) (R3.out V hC) rfl (fun _ => rfl)
          | 28, ht =>
            cases ht
            have gk : a.tmps.getD 137 undef = .bool true := hd 23 137 rfl (by kernel_rfl)
            have q0 : a.tmps[4]?.getD undef = .pointer (some ⟨w.heap.size + 1, 0, none⟩) := (hF.at_ 4 (by decide)).trans e4
            exact fz_load rfl rfl ((wanted_if rfl rfl rfl gk).trans rfl) rfl q0 (B4.out.below hC B4.out.lt) hC rfl
          | 29, ht =>
            cases ht
            have gk : a.tmps.getD 137 undef = .bool true := hd 23 137 rfl (by kernel_rfl)
            have h0 : a.tmps[142]?.getD undef = .agg #[.bool by1, .slice y.A y.n y.c] := (slot_eq a 142).symm.trans (hd 28 142 rfl (by kernel_rfl))
            exact fz_say rfl rfl ((wanted_if rfl rfl rfl gk).trans rfl) (fun V2 hb => hC.trans (hb.mono hC.size)) (S.later (HW.out.trans (hC.mono HW.out.size))).sign (call1_run ⟨_, rfl⟩ h0 (enters_of Tryd.func15 (by kernel_rfl) rfl)) (R4.out V hC) rfl (fun _ => rfl)
          | 30, ht =>
            cases ht
            have gk : a.tmps.getD 137 undef = .bool true := hd 23 137 rfl (by kernel_rfl)
            have h0 : a.tmps[141]?.getD undef = .int .i64 (Int.sign Za) := (slot_eq a 141).symm.trans (hd 27 141 rfl (by kernel_rfl))
            have h1 : a.tmps[143]?.getD undef = .int .i64 (Int.sign Zb) := (slot_eq a 143).symm.trans (hd 29 143 rfl (by kernel_rfl))
            have hs := sign_mul_bound Za Zb
            exact step_value (v := .int .i64 (Int.sign Za * Int.sign Zb)) rfl rfl ((wanted_if rfl rfl rfl gk).trans rfl) (by go_simp; revert hs; generalize Int.sign Za * Int.sign Zb = pz; intro hs; rw [IntKind.wrap_i64]; omega) hC rfl
          | 31, ht =>
            cases ht
            have gk : a.tmps.getD 137 undef = .bool true := hd 23 137 rfl (by kernel_rfl)
            have h0 : a.tmps[139]?.getD undef = .int .i64 (Int.sign (Za * Zb)) := (slot_eq a 139).symm.trans (hd 25 139 rfl (by kernel_rfl))
            have h1 : a.tmps[144]?.getD undef = .int .i64 (Int.sign Za * Int.sign Zb) := (slot_eq a 144).symm.trans (hd 30 144 rfl (by kernel_rfl))
            have hs : (Int.sign (Za * Zb) == Int.sign Za * Int.sign Zb) = true := by rw [Int.sign_mul]; simp
            exact step_value (v := .bool true) rfl rfl ((wanted_if rfl rfl rfl gk).trans rfl) (by go_simp) hC rfl
          | 32, ht =>
            cases ht
            have h0 : a.tmps[137]?.getD undef = .bool true := (slot_eq a 137).symm.trans (hd 23 137 rfl (by kernel_rfl))
            have h1 : a.tmps[145]?.getD undef = .bool true := (slot_eq a 145).symm.trans (hd 31 145 rfl (by kernel_rfl))
            exact step_value (v := .bool true) rfl rfl (wanted_free rfl) (by go_simp) hC rfl
          | 33, ht =>
            cases ht
            have h0 : a.tmps[146]?.getD undef = .bool true := (slot_eq a 146).symm.trans (hd 32 146 rfl (by kernel_rfl))
            exact step_value (v := .bool true) rfl rfl (wanted_free rfl) (by go_simp) hC rfl
          | 34, ht =>
            cases ht
            have gk : a.tmps.getD 147 undef = .bool true := hd 33 147 rfl (by kernel_rfl)
            refine step_call (f := 8) (args := #[]) rfl rfl ((wanted_if rfl rfl rfl gk).trans rfl) (by have := (enters_of Tryd.func8 (by kernel_rfl) rfl) #[] V; go_simp) ((wakes5_E (w := V) (e := []) (S.later (HW.out.trans (hC.mono HW.out.size))) (Env.start (by simp))).mono ?_)
            rintro e2 V2 ⟨rfl, hE2⟩
            exact ⟨_, rfl, rfl, hE2.1, hC.trans (hE2.1.mono hC.size)⟩
          | 35, ht =>
            cases ht
            have h0 : a.tmps[147]?.getD undef = .bool true := (slot_eq a 147).symm.trans (hd 33 147 rfl (by kernel_rfl))
            have h1 : a.tmps[148]?.getD undef = .bool true := (slot_eq a 148).symm.trans (hd 34 148 rfl (by kernel_rfl))
            exact step_value (v := .bool true) rfl rfl (wanted_free rfl) (by go_simp) hC rfl
          | k + 36, ht => simp at ht
        · intro a8 V8 hC hF hf
          replace e3 : a8.tmps[3]?.getD undef = .pointer (some ⟨w.heap.size, 0, none⟩) := (hF.at_ 3 (by decide)).trans e3
          replace e4 : a8.tmps[4]?.getD undef = .pointer (some ⟨w.heap.size + 1, 0, none⟩) := (hF.at_ 4 (by decide)).trans e4
          replace e5 : a8.tmps[5]?.getD undef = .pointer (some ⟨w.heap.size + 1 + 1, 0, none⟩) := (hF.at_ 5 (by decide)).trans e5
          replace e7 : a8.tmps[7]?.getD undef = .pointer (some ⟨g7, 0, none⟩) := (hF.at_ 7 (by decide)).trans e7
          replace e8 : a8.tmps[8]?.getD undef = .pointer (some ⟨g8, 0, none⟩) := (hF.at_ 8 (by decide)).trans e8
          replace HSZ := Lib.hid (show a8.tmps.size = 150 from hF.size.trans HSZ.out)
          replace hdf : a8.defers = [] := hF.defers.trans hdf
          replace B3 := Lib.hid (B3.out.below hC B3.out.lt)
          replace B4 := Lib.hid (B4.out.below hC B4.out.lt)
          replace B5 := Lib.hid (B5.out.below hC B5.out.lt)
          replace B7 := Lib.hid (B7.out.below hC B7.out.lt)
          replace B8 := Lib.hid (B8.out.below hC B8.out.lt)
          replace R3 := Lib.hid (fun V2 (hb : Below V8.heap.size V8 V2) => R3.out V2 (hC.trans (hb.mono hC.size)))
          replace R4 := Lib.hid (fun V2 (hb : Below V8.heap.size V8 V2) => R4.out V2 (hC.trans (hb.mono hC.size)))
          replace R5 := Lib.hid (fun V2 (hb : Below V8.heap.size V8 V2) => R5.out V2 (hC.trans (hb.mono hC.size)))
          replace R7 := Lib.hid (fun V2 (hb : Below V8.heap.size V8 V2) => R7.out V2 (hC.trans (hb.mono hC.size)))
          replace R8 := Lib.hid (fun V2 (hb : Below V8.heap.size V8 V2) => R8.out V2 (hC.trans (hb.mono hC.size)))
          replace T7 := Lib.hid (fun V2 (hb : Below V8.heap.size V8 V2) => T7.out V2 (hC.trans (hb.mono hC.size)))
          replace T8 := Lib.hid (fun V2 (hb : Below V8.heap.size V8 V2) => T8.out V2 (hC.trans (hb.mono hC.size)))
          replace HW := Lib.hid (HW.out.trans (hC.mono HW.out.size))
          have fr : a8.tmps[149]?.getD undef = .bool true := (slot_eq a8 149).symm.trans (hf 35 149 rfl)
          clear hf hF hC
          show wpList _ _ _ [_] a8 V8
          go_wp2
          refine bodyPost_ret (results_tmp rfl _ _ _) rfl ?_
          exact ⟨by have := HSZ.out; simp [this], HW.out⟩
end Go.Proofs.YtolldhfcnbbelaaDoor
