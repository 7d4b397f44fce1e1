/- SintOrder, over what the program's functions answer: of two integers just one is less, or they are the same. -/
import Derived.Test.YtolldhfcnbbelaaDoorGRefE
import Derived.Test.YtolldhfcnbbelaaDoorLaw
namespace Go.Proofs.YtolldhfcnbbelaaDoor
open Go Go.ChangeShapes Go.WideShapes Go.ChangeAt Go.RowKit Go.Deep

theorem cmpZ_add (a b c : Int) : cmpZ (a + c) (b + c) = cmpZ a b := by unfold cmpZ; split <;> split <;> (try split) <;> (try split) <;> omega
theorem cmpZ_neg (a b : Int) : cmpZ (-b) (-a) = cmpZ a b := by unfold cmpZ; split <;> split <;> (try split) <;> (try split) <;> omega
theorem sign_cmp (a b : Int) : Int.sign (a - b) = cmpZ a b := by
  unfold cmpZ
  split
  · exact Int.sign_eq_neg_one_of_neg (by omega)
  · split
    · exact Int.sign_eq_one_of_pos (by omega)
    · rw [show a - b = 0 by omega]; rfl

set_option maxRecDepth 100000 in
set_option maxHeartbeats 4000000 in
theorem sorder_great (w : World) (S : SintTold w) (x y z : Num) (bx by1 bz : Bool) (hx : x.ok w w.heap.size) (hy : y.ok w w.heap.size) (hz : z.ok w w.heap.size) (hg : great5 [x, y, z] = true) :
    Calls Tryd.prog 5 #[.agg #[.bool bx, .slice x.A x.n x.c], .agg #[.bool by1, .slice y.A y.n y.c], .agg #[.bool bz, .slice z.A z.n z.c]] w fun e w' => e = .returned (.bool true) ∧ Below w.heap.size w w' := by
  have hE0 : Env w [x, y, z] w := Env.start (by simp [hx, hy, hz])
  have HE := Lib.hid (((hE0.alloc (.cells #[.bool bx, .slice x.A x.n x.c] 25)).alloc (.cells #[.bool by1, .slice y.A y.n y.c] 25)).alloc (.cells #[.bool bz, .slice z.A z.n z.c] 25))
  have P3 := Lib.hid (((Box2.new w 25 (.bool bx) (.slice x.A x.n x.c)).alloc (.cells #[.bool by1, .slice y.A y.n y.c] 25)).alloc (.cells #[.bool bz, .slice z.A z.n z.c] 25))
  have P4 := Lib.hid ((Box2.new (w.alloc (.cells #[.bool bx, .slice x.A x.n x.c] 25)) 25 (.bool by1) (.slice y.A y.n y.c)).alloc (.cells #[.bool bz, .slice z.A z.n z.c] 25))
  have P5 := Lib.hid (Box2.new ((w.alloc (.cells #[.bool bx, .slice x.A x.n x.c] 25)).alloc (.cells #[.bool by1, .slice y.A y.n y.c] 25)) 25 (.bool bz) (.slice z.A z.n z.c))
  rw [World.size_alloc] at P4
  rw [World.size_alloc, World.size_alloc] at P5
  have EG := Lib.hid (great5_E3 (b := bx) (b' := by1) (b'' := bz) HE.out.here (x := x) (y := y) (z := z) (by simp) (by simp) (by simp) (g := w.heap.size + 1 + 1 + 1) (by simp))
  rw [hg] at EG
  go_enter Tryd.func5, Tryd.ntmps5
  obtain ⟨c1, c2, -, -⟩ := P3.out.cells
  obtain ⟨c3, c4, -, -⟩ := P4.out.cells
  obtain ⟨c5, c6, -, -⟩ := P5.out.cells
  clear hE0
  go_wp2_with fail
  refine EG.out.mono ?_
  rintro e' W0 ⟨rfl, hE⟩
  have hsc : (((w.alloc (.cells #[.bool bx, .slice x.A x.n x.c] 25)).alloc (.cells #[.bool by1, .slice y.A y.n y.c] 25)).alloc (.cells #[.bool bz, .slice z.A z.n z.c] 25)).heap.size = w.heap.size + 3 := by simp
  have B3 := Lib.hid (P3.out.below hE.1 (by omega))
  have B4 := Lib.hid (P4.out.below hE.1 (by omega))
  have B5 := Lib.hid (P5.out.below hE.1 (by omega))
  have HW := Lib.hid (HE.out.1.trans (hE.1.mono (by omega)))
  have HE0 := Lib.hid hE.here
  have hs0 : w.heap.size + 3 ≤ W0.heap.size := by have := hE.1.size; omega
  clear hE EG P3 P4 P5 HE c1 c2 c3 c4 c5 c6 hsc
  go_wp2_with fail
  refine (wakes5_E (S.later HW.out) HE0.out).mono ?_
  rintro e' W1 ⟨rfl, hE1⟩
  go_wp2
  go_ret
  exact ⟨rfl, HW.out.trans (hE1.1.mono HW.out.size)⟩

set_option maxRecDepth 100000 in
set_option maxHeartbeats 8000000 in
theorem sorder_go (w : World) (S : SintTold w) (x y z : Num) (bx by1 bz : Bool) (hx : x.ok w w.heap.size) (hy : y.ok w w.heap.size) (hz : z.ok w w.heap.size) (hg : great5 [x, y, z] = false) :
    Calls Tryd.prog 5 #[.agg #[.bool bx, .slice x.A x.n x.c], .agg #[.bool by1, .slice y.A y.n y.c], .agg #[.bool bz, .slice z.A z.n z.c]] w fun e w' => e = .returned (.bool true) ∧ Below w.heap.size w w' := by
  obtain ⟨lx, ly, lz⟩ := size5_3 hg
  obtain ⟨Za, hZa⟩ : ∃ Za, zOf bx x.N = Za := ⟨_, rfl⟩
  obtain ⟨Zb, hZb⟩ : ∃ Zb, zOf by1 y.N = Zb := ⟨_, rfl⟩
  obtain ⟨Zc, hZc⟩ : ∃ Zc, zOf bz z.N = Zc := ⟨_, rfl⟩
  have La : Lb 60 Za := lb_of hx.1.1 lx hZa
  have Lb1 : Lb 60 Zb := lb_of hy.1.1 ly hZb
  have Lc : Lb 60 Zc := lb_of hz.1.1 lz hZc
  have hE0 : Env w [x, y, z] w := Env.start (by simp [hx, hy, hz])
  have HE := Lib.hid (((hE0.alloc (.cells #[.bool bx, .slice x.A x.n x.c] 25)).alloc (.cells #[.bool by1, .slice y.A y.n y.c] 25)).alloc (.cells #[.bool bz, .slice z.A z.n z.c] 25))
  have P3 := Lib.hid (((Box2.new w 25 (.bool bx) (.slice x.A x.n x.c)).alloc (.cells #[.bool by1, .slice y.A y.n y.c] 25)).alloc (.cells #[.bool bz, .slice z.A z.n z.c] 25))
  have P4 := Lib.hid ((Box2.new (w.alloc (.cells #[.bool bx, .slice x.A x.n x.c] 25)) 25 (.bool by1) (.slice y.A y.n y.c)).alloc (.cells #[.bool bz, .slice z.A z.n z.c] 25))
  have P5 := Lib.hid (Box2.new ((w.alloc (.cells #[.bool bx, .slice x.A x.n x.c] 25)).alloc (.cells #[.bool by1, .slice y.A y.n y.c] 25)) 25 (.bool bz) (.slice z.A z.n z.c))
  rw [World.size_alloc] at P4
  rw [World.size_alloc, World.size_alloc] at P5
  have EG := Lib.hid (great5_E3 (b := bx) (b' := by1) (b'' := bz) HE.out.here (x := x) (y := y) (z := z) (by simp) (by simp) (by simp) (g := w.heap.size + 1 + 1 + 1) (by simp))
  rw [hg] at EG
  go_enter Tryd.func5, Tryd.ntmps5
  obtain ⟨c1, c2, -, -⟩ := P3.out.cells
  obtain ⟨c3, c4, -, -⟩ := P4.out.cells
  obtain ⟨c5, c6, -, -⟩ := P5.out.cells
  clear hE0
  go_wp2_with fail
  refine EG.out.mono ?_
  rintro e' W0 ⟨rfl, hE⟩
  have hsc : (((w.alloc (.cells #[.bool bx, .slice x.A x.n x.c] 25)).alloc (.cells #[.bool by1, .slice y.A y.n y.c] 25)).alloc (.cells #[.bool bz, .slice z.A z.n z.c] 25)).heap.size = w.heap.size + 3 := by simp
  have B3 := Lib.hid (P3.out.below hE.1 (by omega))
  have B4 := Lib.hid (P4.out.below hE.1 (by omega))
  have B5 := Lib.hid (P5.out.below hE.1 (by omega))
  have HW := Lib.hid (HE.out.1.trans (hE.1.mono (by omega)))
  have HE0 := Lib.hid hE.here
  have hs0 : w.heap.size + 3 ≤ W0.heap.size := by have := hE.1.size; omega
  clear hE EG P3 P4 P5 HE c1 c2 c3 c4 c5 c6 hsc
  obtain ⟨c1, c2, -, -⟩ := B3.out.cells
  obtain ⟨c3, c4, -, -⟩ := B4.out.cells
  obtain ⟨c5, c6, -, -⟩ := B5.out.cells
  go_wp2_with fail
  rename_i K2 h2 K3 h3
  have H2 := Lib.hid h2
  clear h2
  refine ((S.later HW.out).cmp _ _ _ bx x by1 y Za Zb HE0.out.1 HE0.out (by simp) (by simp) (by omega) (by omega) hZa hZb).mono ?_
  rintro e' W1 ⟨rfl, hE1⟩
  replace hE1 := Lib.hid hE1
  obtain ⟨n, hn⟩ : ∃ n, cmpZ Za Zb = n := ⟨_, rfl⟩
  dsimp only
  rw [hn]
  go_wp2
  refine H2.out _ _ ?_
  clear H2
  refine wp_seq_k fun K4 h4 => ?_
  have HK4 : ∀ (a : Act) (W6 : World), a.tmps.size = 86 → a.defers = [] → a.tmps[3]?.getD undef = .pointer (some ⟨w.heap.size, 0, none⟩) → a.tmps[4]?.getD undef = .pointer (some ⟨w.heap.size + 1, 0, none⟩) → a.tmps[5]?.getD undef = .pointer (some ⟨w.heap.size + 1 + 1, 0, none⟩) → a.tmps[7]?.getD undef = .int .i64 (cmpZ Za Zb) → Env W0 [x, y, z] W6 → K4 a W6 := by
    intro a6 W6 hsz hdf e3 e4 e5 e7 hE6
    have HSZ := Lib.hid hsz
    have HE6 := Lib.hid hE6
    replace B3 := Lib.hid (B3.out.below hE6.1 B3.out.lt)
    replace B4 := Lib.hid (B4.out.below hE6.1 B4.out.lt)
    replace B5 := Lib.hid (B5.out.below hE6.1 B5.out.lt)
    replace HW := Lib.hid (HW.out.trans (hE6.1.mono HW.out.size))
    have R3 := Lib.hid (fun V (hb : Below W6.heap.size W6 V) => (⟨bx, x, rfl, hZa, by omega, (HE6.out.2 x (by simp)).later hb⟩ : RepZ Za (.agg #[.bool bx, .slice x.A x.n x.c]) V))
    have R4 := Lib.hid (fun V (hb : Below W6.heap.size W6 V) => (⟨by1, y, rfl, hZb, by omega, (HE6.out.2 y (by simp)).later hb⟩ : RepZ Zb (.agg #[.bool by1, .slice y.A y.n y.c]) V))
    have R5 := Lib.hid (fun V (hb : Below W6.heap.size W6 V) => (⟨bz, z, rfl, hZc, by omega, (HE6.out.2 z (by simp)).later hb⟩ : RepZ Zc (.agg #[.bool bz, .slice z.A z.n z.c]) V))
    clear hsz hE6 hn
    refine h4 _ _ ?_
    clear h4
    refine wp_seq_k fun K7 h7 => ?_
    refine wp_region_facts 31 [55, 56, 57, 58, 59, 60, 61, 62, 63, 64, 65, 66, 67, 68, 69, 70, 71, 72, 73, 74, 75, 76, 77, 78, 79, 80, 81, 82, 83, 84, 85] (fun i v V => match i with
        | 0 => v = .agg #[.bool bx, .slice x.A x.n x.c]
        | 1 => v = .agg #[.bool bz, .slice z.A z.n z.c]
        | 2 => RepRow [Za, Zc] v V
        | 3 => RepT (Za + Zc) v V
        | 4 => v = .agg #[.bool by1, .slice y.A y.n y.c]
        | 5 => v = .agg #[.bool bz, .slice z.A z.n z.c]
        | 6 => RepRow [Zb, Zc] v V
        | 7 => RepT (Zb + Zc) v V
        | 8 => v = .int .i64 (cmpZ (Za + Zc) (Zb + Zc))
        | 9 => v = .int .i64 (cmpZ Za Zb)
        | 10 => v = .bool true
        | 11 => v = .bool true
        | 12 => v = .agg #[.bool by1, .slice y.A y.n y.c]
        | 13 => RepT (-Zb) v V
        | 14 => v = .agg #[.bool bx, .slice x.A x.n x.c]
        | 15 => RepT (-Za) v V
        | 16 => v = .int .i64 (cmpZ (-Zb) (-Za))
        | 17 => v = .int .i64 (cmpZ Za Zb)
        | 18 => v = .bool true
        | 19 => v = .bool true
        | 20 => v = .bool true
        | 21 => v = .agg #[.bool bx, .slice x.A x.n x.c]
        | 22 => v = .agg #[.bool by1, .slice y.A y.n y.c]
        | 23 => RepT (Za - Zb) v V
        | 24 => v = .int .i64 (Int.sign (Za - Zb))
        | 25 => v = .int .i64 (cmpZ Za Zb)
        | 26 => v = .bool true
        | 27 => v = .bool true
        | 28 => v = .bool true
        | 29 => v = .bool true
        | _ => v = .bool true) (fun V => Below W6.heap.size W6 V) (by kernel_rfl) (by kernel_rfl) rfl (by decide) (by first | simp; done | (rw [HSZ.out]; decide)) (Below.refl _ _).drew ?_ ?_ ?_
    · intro i v V V2 hf hb _
      match i, hf with
      | 0, hf => exact hf
      | 1, hf => exact hf
      | 2, hf => exact RepRow.keep hf hb
      | 3, hf => exact RepT.keep hf hb
      | 4, hf => exact hf
      | 5, hf => exact hf
      | 6, hf => exact RepRow.keep hf hb
      | 7, hf => exact RepT.keep hf hb
      | 8, hf => exact hf
      | 9, hf => exact hf
      | 10, hf => exact hf
      | 11, hf => exact hf
      | 12, hf => exact hf
      | 13, hf => exact RepT.keep hf hb
      | 14, hf => exact hf
      | 15, hf => exact RepT.keep hf hb
      | 16, hf => exact hf
      | 17, hf => exact hf
      | 18, hf => exact hf
      | 19, hf => exact hf
      | 20, hf => exact hf
      | 21, hf => exact hf
      | 22, hf => exact hf
      | 23, hf => exact RepT.keep hf hb
      | 24, hf => exact hf
      | 25, hf => exact hf
      | 26, hf => exact hf
      | 27, hf => exact hf
      | 28, hf => exact hf
      | 29, hf => exact hf
      | _ + 30, hf => exact hf
    · intro i t ht a V hC hF hd
      match i, ht with
      | 0, ht =>
        cases ht
        have q0 : a.tmps[3]?.getD undef = .pointer (some ⟨w.heap.size, 0, none⟩) := (hF.at_ 3 (by decide)).trans e3
        exact fz_load rfl rfl (wanted_free rfl) rfl q0 (B3.out.below hC B3.out.lt) hC rfl
      | 1, ht =>
        cases ht
        have q0 : a.tmps[5]?.getD undef = .pointer (some ⟨w.heap.size + 1 + 1, 0, none⟩) := (hF.at_ 5 (by decide)).trans e5
        exact fz_load rfl rfl (wanted_free rfl) rfl q0 (B5.out.below hC B5.out.lt) hC rfl
      | 2, ht =>
        cases ht
        have h0 : a.tmps[55]?.getD undef = .agg #[.bool bx, .slice x.A x.n x.c] := (slot_eq a 55).symm.trans (hd 0 55 rfl (by kernel_rfl))
        have h1 : a.tmps[56]?.getD undef = .agg #[.bool bz, .slice z.A z.n z.c] := (slot_eq a 56).symm.trans (hd 1 56 rfl (by kernel_rfl))
        exact fz_two rfl rfl (wanted_free rfl) rfl h0 h1 (R3.out V hC) (R5.out V hC) (fun V2 hb => hC.trans (hb.mono hC.size)) (fun _ _ h => h)
      | 3, ht =>
        cases ht
        have h0r : RepRow [Za, Zc] (a.tmps.getD 57 undef) V := hd 2 57 rfl (by kernel_rfl)
        have h0 : a.tmps[57]?.getD undef = a.tmps.getD 57 undef := (slot_eq a 57).symm
        exact fz_all (Z := (Za + Zc)) rfl rfl (wanted_free rfl) (fun V2 hb => hC.trans (hb.mono hC.size)) (S.later (HW.out.trans (hC.mono HW.out.size))).add (call1_run ⟨_, rfl⟩ h0 (enters_of Tryd.func9 (by kernel_rfl) rfl)) h0r (fun _ h => (sum_of h).trans (by simp)) (fun _ _ h => h)
      | 4, ht =>
        cases ht
        have q0 : a.tmps[4]?.getD undef = .pointer (some ⟨w.heap.size + 1, 0, none⟩) := (hF.at_ 4 (by decide)).trans e4
        exact fz_load rfl rfl (wanted_free rfl) rfl q0 (B4.out.below hC B4.out.lt) hC rfl
      | 5, ht =>
        cases ht
        have q0 : a.tmps[5]?.getD undef = .pointer (some ⟨w.heap.size + 1 + 1, 0, none⟩) := (hF.at_ 5 (by decide)).trans e5
        exact fz_load rfl rfl (wanted_free rfl) rfl q0 (B5.out.below hC B5.out.lt) hC rfl
      | 6, ht =>
        cases ht
        have h0 : a.tmps[59]?.getD undef = .agg #[.bool by1, .slice y.A y.n y.c] := (slot_eq a 59).symm.trans (hd 4 59 rfl (by kernel_rfl))
        have h1 : a.tmps[60]?.getD undef = .agg #[.bool bz, .slice z.A z.n z.c] := (slot_eq a 60).symm.trans (hd 5 60 rfl (by kernel_rfl))
        exact fz_two rfl rfl (wanted_free rfl) rfl h0 h1 (R4.out V hC) (R5.out V hC) (fun V2 hb => hC.trans (hb.mono hC.size)) (fun _ _ h => h)
      | 7, ht =>
        cases ht
        have h0r : RepRow [Zb, Zc] (a.tmps.getD 61 undef) V := hd 6 61 rfl (by kernel_rfl)
        have h0 : a.tmps[61]?.getD undef = a.tmps.getD 61 undef := (slot_eq a 61).symm
        exact fz_all (Z := (Zb + Zc)) rfl rfl (wanted_free rfl) (fun V2 hb => hC.trans (hb.mono hC.size)) (S.later (HW.out.trans (hC.mono HW.out.size))).add (call1_run ⟨_, rfl⟩ h0 (enters_of Tryd.func9 (by kernel_rfl) rfl)) h0r (fun _ h => (sum_of h).trans (by simp)) (fun _ _ h => h)
      | 8, ht =>
        cases ht
        have h0r : RepT (Za + Zc) (a.tmps.getD 58 undef) V := hd 3 58 rfl (by kernel_rfl)
        have h0 : a.tmps[58]?.getD undef = a.tmps.getD 58 undef := (slot_eq a 58).symm
        have h1r : RepT (Zb + Zc) (a.tmps.getD 62 undef) V := hd 7 62 rfl (by kernel_rfl)
        have h1 : a.tmps[62]?.getD undef = a.tmps.getD 62 undef := (slot_eq a 62).symm
        exact fz_say2 rfl rfl (wanted_free rfl) (fun V2 hb => hC.trans (hb.mono hC.size)) (S.later (HW.out.trans (hC.mono HW.out.size))).cmp (call2_run ⟨_, rfl⟩ h0 h1 (enters_of Tryd.func23 (by kernel_rfl) rfl)) (h0r.z (lb_len (lb_add La Lc) (by decide))) (h1r.z (lb_len (lb_add Lb1 Lc) (by decide))) rfl (fun _ => rfl)
      | 9, ht =>
        cases ht
        have h0 : a.tmps[7]?.getD undef = .int .i64 (cmpZ Za Zb) := (hF.at_ 7 (by decide)).trans e7
        exact step_value (v := .int .i64 (cmpZ Za Zb)) rfl rfl (wanted_free rfl) (by go_simp) hC rfl
      | 10, ht =>
        cases ht
        have h0 : a.tmps[63]?.getD undef = .int .i64 (cmpZ (Za + Zc) (Zb + Zc)) := (slot_eq a 63).symm.trans (hd 8 63 rfl (by kernel_rfl))
        have h1 : a.tmps[64]?.getD undef = .int .i64 (cmpZ Za Zb) := (slot_eq a 64).symm.trans (hd 9 64 rfl (by kernel_rfl))
        rw [cmpZ_add] at h0
        exact step_value (v := .bool true) rfl rfl (wanted_free rfl) (by go_simp) hC rfl
      | 11, ht =>
        cases ht
        have h0 : a.tmps[65]?.getD undef = .bool true := (slot_eq a 65).symm.trans (hd 10 65 rfl (by kernel_rfl))
        exact step_value (v := .bool true) rfl rfl (wanted_free rfl) (by go_simp) hC rfl
      | 12, ht =>
        cases ht
        have gk : a.tmps.getD 66 undef = .bool true := hd 11 66 rfl (by kernel_rfl)
        have q0 : a.tmps[4]?.getD undef = .pointer (some ⟨w.heap.size + 1, 0, none⟩) := (hF.at_ 4 (by decide)).trans e4
        exact fz_load rfl rfl ((wanted_if rfl rfl rfl gk).trans rfl) rfl q0 (B4.out.below hC B4.out.lt) hC rfl
      | 13, ht =>
        cases ht
        have gk : a.tmps.getD 66 undef = .bool true := hd 11 66 rfl (by kernel_rfl)
        have h0 : a.tmps[67]?.getD undef = .agg #[.bool by1, .slice y.A y.n y.c] := (slot_eq a 67).symm.trans (hd 12 67 rfl (by kernel_rfl))
        exact fz_of1 (Z := (-Zb)) rfl rfl ((wanted_if rfl rfl rfl gk).trans rfl) (fun V2 hb => hC.trans (hb.mono hC.size)) (S.later (HW.out.trans (hC.mono HW.out.size))).neg (call1_run ⟨_, rfl⟩ h0 (enters_of Tryd.func12 (by kernel_rfl) rfl)) (R4.out V hC) rfl (fun _ _ h => h)
      | 14, ht =>
        cases ht
        have gk : a.tmps.getD 66 undef = .bool true := hd 11 66 rfl (by kernel_rfl)
        have q0 : a.tmps[3]?.getD undef = .pointer (some ⟨w.heap.size, 0, none⟩) := (hF.at_ 3 (by decide)).trans e3
        exact fz_load rfl rfl ((wanted_if rfl rfl rfl gk).trans rfl) rfl q0 (B3.out.below hC B3.out.lt) hC rfl
      | 15, ht =>
        cases ht
        have gk : a.tmps.getD 66 undef = .bool true := hd 11 66 rfl (by kernel_rfl)
        have h0 : a.tmps[69]?.getD undef = .agg #[.bool bx, .slice x.A x.n x.c] := (slot_eq a 69).symm.trans (hd 14 69 rfl (by kernel_rfl))
        exact fz_of1 (Z := (-Za)) rfl rfl ((wanted_if rfl rfl rfl gk).trans rfl) (fun V2 hb => hC.trans (hb.mono hC.size)) (S.later (HW.out.trans (hC.mono HW.out.size))).neg (call1_run ⟨_, rfl⟩ h0 (enters_of Tryd.func12 (by kernel_rfl) rfl)) (R3.out V hC) rfl (fun _ _ h => h)
      | 16, ht =>
        cases ht
        have gk : a.tmps.getD 66 undef = .bool true := hd 11 66 rfl (by kernel_rfl)
        have h0r : RepT (-Zb) (a.tmps.getD 68 undef) V := hd 13 68 rfl (by kernel_rfl)
        have h0 : a.tmps[68]?.getD undef = a.tmps.getD 68 undef := (slot_eq a 68).symm
        have h1r : RepT (-Za) (a.tmps.getD 70 undef) V := hd 15 70 rfl (by kernel_rfl)
        have h1 : a.tmps[70]?.getD undef = a.tmps.getD 70 undef := (slot_eq a 70).symm
        exact fz_say2 rfl rfl ((wanted_if rfl rfl rfl gk).trans rfl) (fun V2 hb => hC.trans (hb.mono hC.size)) (S.later (HW.out.trans (hC.mono HW.out.size))).cmp (call2_run ⟨_, rfl⟩ h0 h1 (enters_of Tryd.func23 (by kernel_rfl) rfl)) (h0r.z (lb_len (lb_neg Lb1) (by decide))) (h1r.z (lb_len (lb_neg La) (by decide))) rfl (fun _ => rfl)
      | 17, ht =>
        cases ht
        have gk : a.tmps.getD 66 undef = .bool true := hd 11 66 rfl (by kernel_rfl)
        have h0 : a.tmps[7]?.getD undef = .int .i64 (cmpZ Za Zb) := (hF.at_ 7 (by decide)).trans e7
        exact step_value (v := .int .i64 (cmpZ Za Zb)) rfl rfl ((wanted_if rfl rfl rfl gk).trans rfl) (by go_simp) hC rfl
      | 18, ht =>
        cases ht
        have gk : a.tmps.getD 66 undef = .bool true := hd 11 66 rfl (by kernel_rfl)
        have h0 : a.tmps[71]?.getD undef = .int .i64 (cmpZ (-Zb) (-Za)) := (slot_eq a 71).symm.trans (hd 16 71 rfl (by kernel_rfl))
        have h1 : a.tmps[72]?.getD undef = .int .i64 (cmpZ Za Zb) := (slot_eq a 72).symm.trans (hd 17 72 rfl (by kernel_rfl))
        rw [cmpZ_neg] at h0
        exact step_value (v := .bool true) rfl rfl ((wanted_if rfl rfl rfl gk).trans rfl) (by go_simp) hC rfl
      | 19, ht =>
        cases ht
        have h0 : a.tmps[66]?.getD undef = .bool true := (slot_eq a 66).symm.trans (hd 11 66 rfl (by kernel_rfl))
        have h1 : a.tmps[73]?.getD undef = .bool true := (slot_eq a 73).symm.trans (hd 18 73 rfl (by kernel_rfl))
        exact step_value (v := .bool true) rfl rfl (wanted_free rfl) (by go_simp) hC rfl
      | 20, ht =>
        cases ht
        have h0 : a.tmps[74]?.getD undef = .bool true := (slot_eq a 74).symm.trans (hd 19 74 rfl (by kernel_rfl))
        exact step_value (v := .bool true) rfl rfl (wanted_free rfl) (by go_simp) hC rfl
      | 21, ht =>
        cases ht
        have gk : a.tmps.getD 75 undef = .bool true := hd 20 75 rfl (by kernel_rfl)
        have q0 : a.tmps[3]?.getD undef = .pointer (some ⟨w.heap.size, 0, none⟩) := (hF.at_ 3 (by decide)).trans e3
        exact fz_load rfl rfl ((wanted_if rfl rfl rfl gk).trans rfl) rfl q0 (B3.out.below hC B3.out.lt) hC rfl
      | 22, ht =>
        cases ht
        have gk : a.tmps.getD 75 undef = .bool true := hd 20 75 rfl (by kernel_rfl)
        have q0 : a.tmps[4]?.getD undef = .pointer (some ⟨w.heap.size + 1, 0, none⟩) := (hF.at_ 4 (by decide)).trans e4
        exact fz_load rfl rfl ((wanted_if rfl rfl rfl gk).trans rfl) rfl q0 (B4.out.below hC B4.out.lt) hC rfl
      | 23, ht =>
        cases ht
        have gk : a.tmps.getD 75 undef = .bool true := hd 20 75 rfl (by kernel_rfl)
        have h0 : a.tmps[76]?.getD undef = .agg #[.bool bx, .slice x.A x.n x.c] := (slot_eq a 76).symm.trans (hd 21 76 rfl (by kernel_rfl))
        have h1 : a.tmps[77]?.getD undef = .agg #[.bool by1, .slice y.A y.n y.c] := (slot_eq a 77).symm.trans (hd 22 77 rfl (by kernel_rfl))
        exact fz_of2 (Z := (Za - Zb)) rfl rfl ((wanted_if rfl rfl rfl gk).trans rfl) (fun V2 hb => hC.trans (hb.mono hC.size)) (S.later (HW.out.trans (hC.mono HW.out.size))).sub (call2_run ⟨_, rfl⟩ h0 h1 (enters_of Tryd.func14 (by kernel_rfl) rfl)) (R3.out V hC) (R4.out V hC) rfl (fun _ _ h => h)
      | 24, ht =>
        cases ht
        have gk : a.tmps.getD 75 undef = .bool true := hd 20 75 rfl (by kernel_rfl)
        have h0r : RepT (Za - Zb) (a.tmps.getD 78 undef) V := hd 23 78 rfl (by kernel_rfl)
        have h0 : a.tmps[78]?.getD undef = a.tmps.getD 78 undef := (slot_eq a 78).symm
        exact fz_say rfl rfl ((wanted_if rfl rfl rfl gk).trans rfl) (fun V2 hb => hC.trans (hb.mono hC.size)) (S.later (HW.out.trans (hC.mono HW.out.size))).sign (call1_run ⟨_, rfl⟩ h0 (enters_of Tryd.func15 (by kernel_rfl) rfl)) (h0r.z (lb_len (lb_sub La Lb1) (by decide))) rfl (fun _ => rfl)
      | 25, ht =>
        cases ht
        have gk : a.tmps.getD 75 undef = .bool true := hd 20 75 rfl (by kernel_rfl)
        have h0 : a.tmps[7]?.getD undef = .int .i64 (cmpZ Za Zb) := (hF.at_ 7 (by decide)).trans e7
        exact step_value (v := .int .i64 (cmpZ Za Zb)) rfl rfl ((wanted_if rfl rfl rfl gk).trans rfl) (by go_simp) hC rfl
      | 26, ht =>
        cases ht
        have gk : a.tmps.getD 75 undef = .bool true := hd 20 75 rfl (by kernel_rfl)
        have h0 : a.tmps[79]?.getD undef = .int .i64 (Int.sign (Za - Zb)) := (slot_eq a 79).symm.trans (hd 24 79 rfl (by kernel_rfl))
        have h1 : a.tmps[80]?.getD undef = .int .i64 (cmpZ Za Zb) := (slot_eq a 80).symm.trans (hd 25 80 rfl (by kernel_rfl))
        rw [sign_cmp] at h0
        exact step_value (v := .bool true) rfl rfl ((wanted_if rfl rfl rfl gk).trans rfl) (by go_simp) hC rfl
      | 27, ht =>
        cases ht
        have h0 : a.tmps[75]?.getD undef = .bool true := (slot_eq a 75).symm.trans (hd 20 75 rfl (by kernel_rfl))
        have h1 : a.tmps[81]?.getD undef = .bool true := (slot_eq a 81).symm.trans (hd 26 81 rfl (by kernel_rfl))
        exact step_value (v := .bool true) rfl rfl (wanted_free rfl) (by go_simp) hC rfl
      | 28, ht =>
        cases ht
        have h0 : a.tmps[82]?.getD undef = .bool true := (slot_eq a 82).symm.trans (hd 27 82 rfl (by kernel_rfl))
        exact step_value (v := .bool true) rfl rfl (wanted_free rfl) (by go_simp) hC rfl
      | 29, ht =>
        cases ht
        have gk : a.tmps.getD 83 undef = .bool true := hd 28 83 rfl (by kernel_rfl)
        refine step_call (f := 8) (args := #[]) rfl rfl ((wanted_if rfl rfl rfl gk).trans rfl) (by have := (enters_of Tryd.func8 (by kernel_rfl) rfl) #[] V; go_simp) ((wakes5_E (w := V) (e := []) (S.later (HW.out.trans (hC.mono HW.out.size))) (Env.start (by simp))).mono ?_)
        rintro e2 V2 ⟨rfl, hE2⟩
        exact ⟨_, rfl, rfl, hE2.1, hC.trans (hE2.1.mono hC.size)⟩
      | 30, ht =>
        cases ht
        have h0 : a.tmps[83]?.getD undef = .bool true := (slot_eq a 83).symm.trans (hd 28 83 rfl (by kernel_rfl))
        have h1 : a.tmps[84]?.getD undef = .bool true := (slot_eq a 84).symm.trans (hd 29 84 rfl (by kernel_rfl))
        exact step_value (v := .bool true) rfl rfl (wanted_free rfl) (by go_simp) hC rfl
      | k + 31, ht => simp at ht
    · intro a7 V7 hC hF hf
      have HSZ7 := Lib.hid (show a7.tmps.size = 86 from hF.size.trans HSZ.out)
      have hd7 : a7.defers = [] := hF.defers.trans hdf
      have fr : a7.tmps[85]?.getD undef = .bool true := (slot_eq a7 85).symm.trans (hf 30 85 rfl)
      replace HW := Lib.hid (HW.out.trans (hC.mono HW.out.size))
      clear hf hF hC e3 e4 e5 e7 R3 R4 R5 B3 B4 B5
      show wpList _ _ _ [_] a7 V7
      go_wp2
      refine bodyPost_ret (results_tmp rfl _ _ _) rfl ?_
      exact ⟨by have := HSZ7.out; simp [this], HW.out⟩
  clear h4
  have HK := Lib.hid HK4
  clear HK4
  have hxy : ∀ V, Env W0 [x, y, z] V → x ∈ [x, y, z] ∧ y ∈ [x, y, z] ∧ z ∈ [x, y, z] := fun _ _ => by simp
  clear hxy
  have HC := True.intro
  rcases Int.lt_trichotomy Za Zb with hab | hab | hab
  · by_cases hbc : Zc < Zb
    · have HN := Lib.hid (show cmpZ Za Zb = -1 by unfold cmpZ; (repeat' split) <;> omega)
      obtain rfl : n = -1 := hn.symm.trans HN.out
      have hba : cmpZ Zb Za = 1 := by unfold cmpZ; (repeat' split) <;> omega
      have hsm : decide (Za = Zb) = false := by simp; omega
      clear hn
      have hm : cmpZ Zb Zc = 1 := by unfold cmpZ; (repeat' split) <;> omega
      clear HC
      obtain ⟨p1, q1, -, -⟩ := (B3.out.below hE1.out.1 B3.out.lt).cells
      obtain ⟨r1, s1, -, -⟩ := (B4.out.below hE1.out.1 B4.out.lt).cells
      obtain ⟨t1, u1, -, -⟩ := (B5.out.below hE1.out.1 B5.out.lt).cells
      go_wp2_with fail
      refine ((S.later HW.out).cmp _ _ _ by1 y bx x Zb Za hE1.out.1 hE1.out (by simp) (by simp) (by omega) (by omega) hZb hZa).mono ?_
      rintro e' W2 ⟨rfl, hE2⟩
      replace hE2 := Lib.hid hE2
      dsimp only
      rw [hba]
      obtain ⟨p2, q2, -, -⟩ := (B3.out.below hE2.out.1 B3.out.lt).cells
      obtain ⟨r2, s2, -, -⟩ := (B4.out.below hE2.out.1 B4.out.lt).cells
      obtain ⟨t2, u2, -, -⟩ := (B5.out.below hE2.out.1 B5.out.lt).cells
      go_wp2_with fail
      refine ((S.later HW.out).cmp _ _ _ by1 y bz z Zb Zc hE2.out.1 hE2.out (by simp) (by simp) (by omega) (by omega) hZb hZc).mono ?_
      rintro e' W3 ⟨rfl, hE3⟩
      replace hE3 := Lib.hid hE3
      dsimp only
      rw [hm]
      obtain ⟨p3, q3, -, -⟩ := (B3.out.below hE3.out.1 B3.out.lt).cells
      obtain ⟨r3, s3, -, -⟩ := (B4.out.below hE3.out.1 B4.out.lt).cells
      obtain ⟨t3, u3, -, -⟩ := (B5.out.below hE3.out.1 B5.out.lt).cells
      go_wp2_with fail
      refine ((S.later HW.out).same _ _ _ bx x by1 y Za Zb hE3.out.1 hE3.out (by simp) (by simp) (by omega) (by omega) hZa hZb).mono ?_
      rintro e' W4 ⟨rfl, hE4⟩
      replace hE4 := Lib.hid hE4
      dsimp only
      rw [hsm]
      go_wp2
      exact HK.out _ _ rfl rfl rfl rfl rfl (by rw [HN.out]; rfl) hE4.out
    · have HN := Lib.hid (show cmpZ Za Zb = -1 by unfold cmpZ; (repeat' split) <;> omega)
      obtain rfl : n = -1 := hn.symm.trans HN.out
      have hba : cmpZ Zb Za = 1 := by unfold cmpZ; (repeat' split) <;> omega
      have hsm : decide (Za = Zb) = false := by simp; omega
      clear hn
      obtain ⟨m, hm⟩ : ∃ m, cmpZ Zb Zc = m := ⟨_, rfl⟩
      obtain ⟨k, hk⟩ : ∃ k, cmpZ Za Zc = k := ⟨_, rfl⟩
      have hm0 : m ≤ 0 := by rw [← hm]; unfold cmpZ; (repeat' split) <;> omega
      have hk0 : k ≤ 0 := by rw [← hk]; unfold cmpZ; (repeat' split) <;> omega
      clear HC
      obtain ⟨p1, q1, -, -⟩ := (B3.out.below hE1.out.1 B3.out.lt).cells
      obtain ⟨r1, s1, -, -⟩ := (B4.out.below hE1.out.1 B4.out.lt).cells
      obtain ⟨t1, u1, -, -⟩ := (B5.out.below hE1.out.1 B5.out.lt).cells
      go_wp2_with fail
      refine ((S.later HW.out).cmp _ _ _ by1 y bx x Zb Za hE1.out.1 hE1.out (by simp) (by simp) (by omega) (by omega) hZb hZa).mono ?_
      rintro e' W2 ⟨rfl, hE2⟩
      replace hE2 := Lib.hid hE2
      dsimp only
      rw [hba]
      obtain ⟨p2, q2, -, -⟩ := (B3.out.below hE2.out.1 B3.out.lt).cells
      obtain ⟨r2, s2, -, -⟩ := (B4.out.below hE2.out.1 B4.out.lt).cells
      obtain ⟨t2, u2, -, -⟩ := (B5.out.below hE2.out.1 B5.out.lt).cells
      go_wp2_with fail
      refine ((S.later HW.out).cmp _ _ _ by1 y bz z Zb Zc hE2.out.1 hE2.out (by simp) (by simp) (by omega) (by omega) hZb hZc).mono ?_
      rintro e' W3 ⟨rfl, hE3⟩
      replace hE3 := Lib.hid hE3
      dsimp only
      rw [hm]
      obtain ⟨p3, q3, -, -⟩ := (B3.out.below hE3.out.1 B3.out.lt).cells
      obtain ⟨r3, s3, -, -⟩ := (B4.out.below hE3.out.1 B4.out.lt).cells
      obtain ⟨t3, u3, -, -⟩ := (B5.out.below hE3.out.1 B5.out.lt).cells
      go_wp2_with fail
      refine ((S.later HW.out).cmp _ _ _ bx x bz z Za Zc hE3.out.1 hE3.out (by simp) (by simp) (by omega) (by omega) hZa hZc).mono ?_
      rintro e' W4 ⟨rfl, hE4⟩
      replace hE4 := Lib.hid hE4
      dsimp only
      rw [hk]
      obtain ⟨p4, q4, -, -⟩ := (B3.out.below hE4.out.1 B3.out.lt).cells
      obtain ⟨r4, s4, -, -⟩ := (B4.out.below hE4.out.1 B4.out.lt).cells
      obtain ⟨t4, u4, -, -⟩ := (B5.out.below hE4.out.1 B5.out.lt).cells
      go_wp2_with fail
      refine ((S.later HW.out).same _ _ _ bx x by1 y Za Zb hE4.out.1 hE4.out (by simp) (by simp) (by omega) (by omega) hZa hZb).mono ?_
      rintro e' W5 ⟨rfl, hE5⟩
      replace hE5 := Lib.hid hE5
      dsimp only
      rw [hsm]
      go_wp2
      exact HK.out _ _ rfl rfl rfl rfl rfl (by rw [HN.out]; rfl) hE5.out
  · by_cases hbc : Zc < Zb
    · have HN := Lib.hid (show cmpZ Za Zb = 0 by unfold cmpZ; (repeat' split) <;> omega)
      obtain rfl : n = 0 := hn.symm.trans HN.out
      have hba : cmpZ Zb Za = 0 := by unfold cmpZ; (repeat' split) <;> omega
      have hsm : decide (Za = Zb) = true := by simp; omega
      clear hn
      have hm : cmpZ Zb Zc = 1 := by unfold cmpZ; (repeat' split) <;> omega
      clear HC
      obtain ⟨p1, q1, -, -⟩ := (B3.out.below hE1.out.1 B3.out.lt).cells
      obtain ⟨r1, s1, -, -⟩ := (B4.out.below hE1.out.1 B4.out.lt).cells
      obtain ⟨t1, u1, -, -⟩ := (B5.out.below hE1.out.1 B5.out.lt).cells
      go_wp2_with fail
      refine ((S.later HW.out).cmp _ _ _ by1 y bx x Zb Za hE1.out.1 hE1.out (by simp) (by simp) (by omega) (by omega) hZb hZa).mono ?_
      rintro e' W2 ⟨rfl, hE2⟩
      replace hE2 := Lib.hid hE2
      dsimp only
      rw [hba]
      obtain ⟨p2, q2, -, -⟩ := (B3.out.below hE2.out.1 B3.out.lt).cells
      obtain ⟨r2, s2, -, -⟩ := (B4.out.below hE2.out.1 B4.out.lt).cells
      obtain ⟨t2, u2, -, -⟩ := (B5.out.below hE2.out.1 B5.out.lt).cells
      go_wp2_with fail
      refine ((S.later HW.out).cmp _ _ _ by1 y bz z Zb Zc hE2.out.1 hE2.out (by simp) (by simp) (by omega) (by omega) hZb hZc).mono ?_
      rintro e' W3 ⟨rfl, hE3⟩
      replace hE3 := Lib.hid hE3
      dsimp only
      rw [hm]
      obtain ⟨p3, q3, -, -⟩ := (B3.out.below hE3.out.1 B3.out.lt).cells
      obtain ⟨r3, s3, -, -⟩ := (B4.out.below hE3.out.1 B4.out.lt).cells
      obtain ⟨t3, u3, -, -⟩ := (B5.out.below hE3.out.1 B5.out.lt).cells
      go_wp2_with fail
      refine ((S.later HW.out).same _ _ _ bx x by1 y Za Zb hE3.out.1 hE3.out (by simp) (by simp) (by omega) (by omega) hZa hZb).mono ?_
      rintro e' W4 ⟨rfl, hE4⟩
      replace hE4 := Lib.hid hE4
      dsimp only
      rw [hsm]
      go_wp2
      exact HK.out _ _ rfl rfl rfl rfl rfl (by rw [HN.out]; rfl) hE4.out
    · have HN := Lib.hid (show cmpZ Za Zb = 0 by unfold cmpZ; (repeat' split) <;> omega)
      obtain rfl : n = 0 := hn.symm.trans HN.out
      have hba : cmpZ Zb Za = 0 := by unfold cmpZ; (repeat' split) <;> omega
      have hsm : decide (Za = Zb) = true := by simp; omega
      clear hn
      obtain ⟨m, hm⟩ : ∃ m, cmpZ Zb Zc = m := ⟨_, rfl⟩
      obtain ⟨k, hk⟩ : ∃ k, cmpZ Za Zc = k := ⟨_, rfl⟩
      have hm0 : m ≤ 0 := by rw [← hm]; unfold cmpZ; (repeat' split) <;> omega
      have hk0 : k ≤ 0 := by rw [← hk]; unfold cmpZ; (repeat' split) <;> omega
      clear HC
      obtain ⟨p1, q1, -, -⟩ := (B3.out.below hE1.out.1 B3.out.lt).cells
      obtain ⟨r1, s1, -, -⟩ := (B4.out.below hE1.out.1 B4.out.lt).cells
      obtain ⟨t1, u1, -, -⟩ := (B5.out.below hE1.out.1 B5.out.lt).cells
      go_wp2_with fail
      refine ((S.later HW.out).cmp _ _ _ by1 y bx x Zb Za hE1.out.1 hE1.out (by simp) (by simp) (by omega) (by omega) hZb hZa).mono ?_
      rintro e' W2 ⟨rfl, hE2⟩
      replace hE2 := Lib.hid hE2
      dsimp only
      rw [hba]
      obtain ⟨p2, q2, -, -⟩ := (B3.out.below hE2.out.1 B3.out.lt).cells
      obtain ⟨r2, s2, -, -⟩ := (B4.out.below hE2.out.1 B4.out.lt).cells
      obtain ⟨t2, u2, -, -⟩ := (B5.out.below hE2.out.1 B5.out.lt).cells
      go_wp2_with fail
      refine ((S.later HW.out).cmp _ _ _ by1 y bz z Zb Zc hE2.out.1 hE2.out (by simp) (by simp) (by omega) (by omega) hZb hZc).mono ?_
      rintro e' W3 ⟨rfl, hE3⟩
      replace hE3 := Lib.hid hE3
      dsimp only
      rw [hm]
      obtain ⟨p3, q3, -, -⟩ := (B3.out.below hE3.out.1 B3.out.lt).cells
      obtain ⟨r3, s3, -, -⟩ := (B4.out.below hE3.out.1 B4.out.lt).cells
      obtain ⟨t3, u3, -, -⟩ := (B5.out.below hE3.out.1 B5.out.lt).cells
      go_wp2_with fail
      refine ((S.later HW.out).cmp _ _ _ bx x bz z Za Zc hE3.out.1 hE3.out (by simp) (by simp) (by omega) (by omega) hZa hZc).mono ?_
      rintro e' W4 ⟨rfl, hE4⟩
      replace hE4 := Lib.hid hE4
      dsimp only
      rw [hk]
      obtain ⟨p4, q4, -, -⟩ := (B3.out.below hE4.out.1 B3.out.lt).cells
      obtain ⟨r4, s4, -, -⟩ := (B4.out.below hE4.out.1 B4.out.lt).cells
      obtain ⟨t4, u4, -, -⟩ := (B5.out.below hE4.out.1 B5.out.lt).cells
      go_wp2_with fail
      refine ((S.later HW.out).same _ _ _ bx x by1 y Za Zb hE4.out.1 hE4.out (by simp) (by simp) (by omega) (by omega) hZa hZb).mono ?_
      rintro e' W5 ⟨rfl, hE5⟩
      replace hE5 := Lib.hid hE5
      dsimp only
      rw [hsm]
      go_wp2
      exact HK.out _ _ rfl rfl rfl rfl rfl (by rw [HN.out]; rfl) hE5.out
  · have HN := Lib.hid (show cmpZ Za Zb = 1 by unfold cmpZ; (repeat' split) <;> omega)
    obtain rfl : n = 1 := hn.symm.trans HN.out
    have hba : cmpZ Zb Za = -1 := by unfold cmpZ; (repeat' split) <;> omega
    have hsm : decide (Za = Zb) = false := by simp; omega
    clear hn
    clear HC
    obtain ⟨p1, q1, -, -⟩ := (B3.out.below hE1.out.1 B3.out.lt).cells
    obtain ⟨r1, s1, -, -⟩ := (B4.out.below hE1.out.1 B4.out.lt).cells
    obtain ⟨t1, u1, -, -⟩ := (B5.out.below hE1.out.1 B5.out.lt).cells
    go_wp2_with fail
    refine ((S.later HW.out).cmp _ _ _ by1 y bx x Zb Za hE1.out.1 hE1.out (by simp) (by simp) (by omega) (by omega) hZb hZa).mono ?_
    rintro e' W2 ⟨rfl, hE2⟩
    replace hE2 := Lib.hid hE2
    dsimp only
    rw [hba]
    obtain ⟨p2, q2, -, -⟩ := (B3.out.below hE2.out.1 B3.out.lt).cells
    obtain ⟨r2, s2, -, -⟩ := (B4.out.below hE2.out.1 B4.out.lt).cells
    obtain ⟨t2, u2, -, -⟩ := (B5.out.below hE2.out.1 B5.out.lt).cells
    go_wp2_with fail
    refine ((S.later HW.out).same _ _ _ bx x by1 y Za Zb hE2.out.1 hE2.out (by simp) (by simp) (by omega) (by omega) hZa hZb).mono ?_
    rintro e' W3 ⟨rfl, hE3⟩
    replace hE3 := Lib.hid hE3
    dsimp only
    rw [hsm]
    go_wp2
    exact HK.out _ _ rfl rfl rfl rfl rfl (by rw [HN.out]; rfl) hE3.out
end Go.Proofs.YtolldhfcnbbelaaDoor
