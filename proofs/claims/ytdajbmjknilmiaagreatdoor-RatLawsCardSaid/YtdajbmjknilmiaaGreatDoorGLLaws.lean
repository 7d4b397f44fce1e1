/- RatLaws: the laws of sums and products; the same numbers are told alike. -/
import Derived.Test.YtdajbmjknilmiaaGreatDoorGPOpsB
import Derived.Test.YtdajbmjknilmiaaGreatDoorGRatL
namespace Go.Proofs.YtdajbmjknilmiaaGreatDoor
open Go Go.RowKit
set_option maxRecDepth 100000 in
set_option maxHeartbeats 4000000 in
theorem rlaws_go (b0_ : Bool) (x0_ y0_ : Num) (b1_ : Bool) (x1_ y1_ : Num) (b2_ : Bool) (x2_ y2_ : Num)  {V : World} (T : TT V) (AM : AddMul V) (ox0 : x0_.ok V V.heap.size) (oy0 : y0_.ok V V.heap.size) (ox1 : x1_.ok V V.heap.size) (oy1 : y1_.ok V V.heap.size) (ox2 : x2_.ok V V.heap.size) (oy2 : y2_.ok V V.heap.size)  (hG : great7 [(b0_, x0_, y0_), (b1_, x1_, y1_), (b2_, x2_, y2_)] = false) :
    Calls Tryz.prog 4 #[(aG b0_ x0_ y0_), (aG b1_ x1_ y1_), (aG b2_ x2_ y2_)] V (Gives1 V (fun v _ => v = .bool true)) := by
  have hsz := sizeQ3_le hG
  have hkx0 : x0_.n ≤ 40 := by omega
  have hky0 : y0_.n ≤ 40 := by omega
  have hkx1 : x1_.n ≤ 40 := by omega
  have hky1 : y1_.n ≤ 40 := by omega
  have hkx2 : x2_.n ≤ 40 := by omega
  have hky2 : y2_.n ≤ 40 := by omega
  obtain ⟨q0, hqa0⟩ : ∃ q, qOf b0_ x0_.N y0_.N = q := ⟨_, rfl⟩
  obtain ⟨q1, hqa1⟩ : ∃ q, qOf b1_ x1_.N y1_.N = q := ⟨_, rfl⟩
  obtain ⟨q2, hqa2⟩ : ∃ q, qOf b2_ x2_.N y2_.N = q := ⟨_, rfl⟩
  refine frm_body (e := [x2_, y2_, x1_, y1_, x0_, y0_]) Tryz.func4 rfl Tryz.ntmps4 (Nat.le_of_ble_eq_true rfl) [(0, (aG b0_ x0_ y0_)), (1, (aG b1_ x1_ y1_)), (2, (aG b2_ x2_ y2_))] rfl (ok_cons ox2 (ok_cons oy2 (ok_cons ox1 (ok_cons oy1 (ok_cons ox0 (ok_cons oy0 ok_nil)))))) (fun a S => ?_)
  refine wp_seq_k fun K1 hK1 => ?_
  refine frm_plain ?_
  refine tl_box S (T := 27) (cs := (aL b0_ x0_ y0_)) (rn_box rfl (S.at 0 rfl) rfl) rfl rfl rfl (by decide) (ls' := [(0, (aG b0_ x0_ y0_)), (1, (aG b1_ x1_ y1_)), (2, (aG b2_ x2_ y2_))]) rfl (lb' := fun g1 => [⟨g1, 27, (aL b0_ x0_ y0_)⟩]) (fun _ => rfl) (fun g1 a V1 hgg1 S => ?_)
  refine tl_box S (T := 27) (cs := (aL b1_ x1_ y1_)) (rn_box rfl (S.at 2 rfl) rfl) rfl rfl rfl (by decide) (ls' := [(3, pT g1 0), (0, (aG b0_ x0_ y0_)), (1, (aG b1_ x1_ y1_)), (2, (aG b2_ x2_ y2_))]) rfl (lb' := fun g2 => [⟨g1, 27, (aL b0_ x0_ y0_)⟩, ⟨g2, 27, (aL b1_ x1_ y1_)⟩]) (fun _ => rfl) (fun g2 a V2 hgg2 S => ?_)
  refine tl_box S (T := 27) (cs := (aL b2_ x2_ y2_)) (rn_box rfl (S.at 4 rfl) rfl) rfl rfl rfl (by decide) (ls' := [(4, pT g2 0), (3, pT g1 0), (0, (aG b0_ x0_ y0_)), (1, (aG b1_ x1_ y1_)), (2, (aG b2_ x2_ y2_))]) rfl (lb' := fun g3 => [⟨g1, 27, (aL b0_ x0_ y0_)⟩, ⟨g2, 27, (aL b1_ x1_ y1_)⟩, ⟨g3, 27, (aL b2_ x2_ y2_)⟩]) (fun _ => rfl) (fun g3 a V3 hgg3 S => ?_)
  refine tl_val S (v := .bool false) (rn_assignc rfl) rfl rfl (by decide) (ls' := [(5, pT g3 0), (4, pT g2 0), (3, pT g1 0), (0, (aG b0_ x0_ y0_)), (1, (aG b1_ x1_ y1_)), (2, (aG b2_ x2_ y2_))]) rfl (fun a S => ?_)
  refine hK1 _ _ ?_
  refine wp_seq_k fun K2 hK2 => ?_
  refine wp_seq_k fun K3 hK3 => ?_
  have S := S.keep [5, 4, 3] (ls' := [(5, pT g3 0), (4, pT g2 0), (3, pT g1 0)]) rfl
  refine frm_plain ?_
  refine tl_val S (v := (aG b0_ x0_ y0_)) (rn_load rfl (S.at 2 rfl) (S.bx 0 rfl) Tryz.underlying27 rfl (vs := (aL b0_ x0_ y0_)) sz_Rat rfl) rfl rfl (by decide) (ls' := [(5, pT g3 0), (4, pT g2 0), (3, pT g1 0)]) rfl (fun a S => ?_)
  refine tl_val S (v := (aG b1_ x1_ y1_)) (rn_load rfl (S.at 2 rfl) (S.bx 1 rfl) Tryz.underlying27 rfl (vs := (aL b1_ x1_ y1_)) sz_Rat rfl) rfl rfl (by decide) (ls' := [(11, (aG b0_ x0_ y0_)), (5, pT g3 0), (4, pT g2 0), (3, pT g1 0)]) rfl (fun a S => ?_)
  refine tl_val S (v := (aG b2_ x2_ y2_)) (rn_load rfl (S.at 2 rfl) (S.bx 2 rfl) Tryz.underlying27 rfl (vs := (aL b2_ x2_ y2_)) sz_Rat rfl) rfl rfl (by decide) (ls' := [(12, (aG b1_ x1_ y1_)), (11, (aG b0_ x0_ y0_)), (5, pT g3 0), (4, pT g2 0), (3, pT g1 0)]) rfl (fun a S => ?_)
  refine tl_lays S (F := GL ([(b0_, x0_, y0_), (b1_, x1_, y1_), (b2_, x2_, y2_)])) (ly_grow3 rfl (S.at 2 rfl) (S.at 1 rfl) (S.at 0 rfl) (S.num 4 rfl) (S.num 5 rfl) (S.num 2 rfl) (S.num 3 rfl) (S.num 0 rfl) (S.num 1 rfl)) rfl rfl (by decide) (ls' := [(13, (aG b2_ x2_ y2_)), (12, (aG b1_ x1_ y1_)), (11, (aG b0_ x0_ y0_)), (5, pT g3 0), (4, pT g2 0), (3, pT g1 0)]) rfl (fun v a V4 hF hb S => ?_)
  obtain ⟨ov1, hov1⟩ : ∃ z, z = v := ⟨_, rfl⟩
  rw [← hov1] at hF S
  have rov1 := hF
  refine tl_call S (rn_call1 ⟨_, rfl⟩ (S.at 0 rfl) (enters_of Tryz.func8 (by kernel_rfl) rfl)) (F := (fun v _ => v = .bool false)) (l7Great rov1 hG) rfl rfl (by decide) (ls' := [(14, ov1), (13, (aG b2_ x2_ y2_)), (12, (aG b1_ x1_ y1_)), (11, (aG b0_ x0_ y0_)), (5, pT g3 0), (4, pT g2 0), (3, pT g1 0)]) rfl (fun v a V5 hF hb S => ?_)
  replace rov1 := rov1.keep hb
  subst hF
  refine hK3 _ _ ?_
  refine wp_cond_false (S.at 0 rfl) ?_
  refine wp_skip ?_
  refine hK2 _ _ ?_
  refine wp_seq_k fun K4 hK4 => ?_
  have S := S.keep [5, 4, 3] (ls' := [(5, pT g3 0), (4, pT g2 0), (3, pT g1 0)]) rfl
  obtain ⟨W1, hW1⟩ : ∃ W, W = V5 := ⟨_, rfl⟩
  rw [← hW1] at S ⊢
  have S0 := S
  refine frm_regs [(27, 3)] [some 17, some 18, some 19, some 20, some 21, some 22, some 23, some 24, some 7, some 8, none, none] (fun i v V => match i with
      | 0 => v = (aG b0_ x0_ y0_)
      | 1 => v = (aG b1_ x1_ y1_)
      | 2 => QL 40 6 ([q0, q1]) v V
      | 3 => QT 81 (q0 + q1) v V
      | 4 => v = (aG b0_ x0_ y0_)
      | 5 => v = (aG b1_ x1_ y1_)
      | 6 => QL 40 6 ([q0, q1]) v V
      | 7 => QT 80 (q0 * q1) v V
      | 8 => True
      | 9 => True
      | 10 => True
      | _ => True)
    [⟨8, 7, 27, [.bool false, .slice none 0 0, .slice none 0 0]⟩, ⟨9, 8, 27, [.bool false, .slice none 0 0, .slice none 0 0]⟩]
    [⟨10, 7, 27, QT 81 (q0 + q1)⟩, ⟨11, 8, 27, QT 80 (q0 * q1)⟩]
    []
    (lb := [⟨g1, 27, (aL b0_ x0_ y0_)⟩, ⟨g2, 27, (aL b1_ x1_ y1_)⟩, ⟨g3, 27, (aL b2_ x2_ y2_)⟩]) S (by kernel_rfl) (by kernel_rfl) rfl (by decide) rfl rfl
    (all_cons rfl (all_cons rfl all_nil))
    (all_cons rfl (all_cons rfl all_nil))
    ?_ (by decide) ?_ ?_ (all_cons (.inl ⟨_, List.mem_of_getElem? (i := 0) rfl, rfl, by kernel_rfl⟩) (all_cons (.inl ⟨_, List.mem_of_getElem? (i := 1) rfl, rfl, by kernel_rfl⟩) all_nil)) ?_ ?_ ?_ ?_ ?_ ?_ ?_ ?_ ?_
  · intro i hi
    match i, hi with
    | 0, hi => cases hi
    | 1, hi => cases hi
    | 2, hi => cases hi
    | 3, hi => cases hi
    | 4, hi => cases hi
    | 5, hi => cases hi
    | 6, hi => cases hi
    | 7, hi => cases hi
    | 8, hi => cases hi
    | 9, hi => cases hi
    | 10, hi => exact ⟨_, List.mem_of_getElem? (i := 0) rfl, rfl⟩
    | 11, hi => exact ⟨_, List.mem_of_getElem? (i := 1) rfl, rfl⟩
    | k + 12, hi => simp at hi
  · intro s hs s2 hs2 h
    exact st_inj (f := (·.i)) hs hs2 h (show List.Nodup [10, 11] from by decide)
  · intro s hs s2 hs2 h
    exact st_inj (f := (·.tb)) hs hs2 h (show List.Nodup [7, 8] from by decide)
  · intro i v V V2 hf hb
    match i, hf with
    | 0, hf => exact hf
    | 1, hf => exact hf
    | 2, hf => exact QL.keep hf hb
    | 3, hf => exact QT.keep hf hb
    | 4, hf => exact hf
    | 5, hf => exact hf
    | 6, hf => exact QL.keep hf hb
    | 7, hf => exact QT.keep hf hb
    | 8, hf => exact hf
    | 9, hf => exact hf
    | 10, hf => exact hf
    | _ + 11, hf => exact hf
  · intro i g vs v V V2 hf hb
    match i, hf with
    | 0, hf => exact hf
    | 1, hf => exact hf
    | 2, hf => exact QL.keepS hf hb (by decide)
    | 3, hf => exact QT.keepS hf hb
    | 4, hf => exact hf
    | 5, hf => exact hf
    | 6, hf => exact QL.keepS hf hb (by decide)
    | 7, hf => exact QT.keepS hf hb
    | 8, hf => exact hf
    | 9, hf => exact hf
    | 10, hf => exact hf
    | _ + 11, hf => exact hf
  · exact (all_cons (fun v V V2 hf hb => QT.keep hf hb) (all_cons (fun v V V2 hf hb => QT.keep hf hb) all_nil))
  · exact (all_cons (fun g vs v V V2 hf hb => QT.keepS hf hb) (all_cons (fun g vs v V V2 hf hb => QT.keepS hf hb) all_nil))
  · intro i t ht hnal a V S hB hd hp
    match i, ht, hnal with
    | 0, ht, hnal =>
      cases ht
      exact so_val rfl rfl (wanted_free rfl) (rn_load rfl (S.at 2 rfl) (S.bx 0 rfl) Tryz.underlying27 rfl (vs := (aL b0_ x0_ y0_)) sz_Rat rfl) rfl
    | 1, ht, hnal =>
      cases ht
      exact so_val rfl rfl (wanted_free rfl) (rn_load rfl (S.at 1 rfl) (S.bx 1 rfl) Tryz.underlying27 rfl (vs := (aL b1_ x1_ y1_)) sz_Rat rfl) rfl
    | 2, ht, hnal =>
      cases ht
      exact so_lays rfl rfl (wanted_free rfl) (ly_qrow2 rfl (show tG a 17 <| (aG b0_ x0_ y0_) from hd 0 17 rfl rfl (by kernel_rfl)) (show tG a 18 <| (aG b1_ x1_ y1_) from hd 1 18 rfl rfl (by kernel_rfl)) (show Q1 40 (q0) ((aG b0_ x0_ y0_)) _ from ⟨b0_, x0_, y0_, rfl, hqa0, hkx0, hky0, (S.num 4 rfl), (S.num 5 rfl)⟩) (show Q1 40 (q1) ((aG b1_ x1_ y1_)) _ from ⟨b1_, x1_, y1_, rfl, hqa1, hkx1, hky1, (S.num 2 rfl), (S.num 3 rfl)⟩))
    | 3, ht, hnal =>
      cases ht
      exact so_call rfl rfl (wanted_free rfl) (rn_call1 ⟨_, rfl⟩ rfl (enters_of Tryz.func27 (by kernel_rfl) rfl)) (AM.add2 (T.keep S.below) S.below ((show QL 40 6 ([q0, q1]) (a.tmps.getD 19 undef) V from hd 2 19 rfl rfl (by kernel_rfl))).row (by omega))
    | 4, ht, hnal =>
      cases ht
      exact so_val rfl rfl (wanted_free rfl) (rn_load rfl (S.at 2 rfl) (S.bx 0 rfl) Tryz.underlying27 rfl (vs := (aL b0_ x0_ y0_)) sz_Rat rfl) rfl
    | 5, ht, hnal =>
      cases ht
      exact so_val rfl rfl (wanted_free rfl) (rn_load rfl (S.at 1 rfl) (S.bx 1 rfl) Tryz.underlying27 rfl (vs := (aL b1_ x1_ y1_)) sz_Rat rfl) rfl
    | 6, ht, hnal =>
      cases ht
      exact so_lays rfl rfl (wanted_free rfl) (ly_qrow2 rfl (show tG a 21 <| (aG b0_ x0_ y0_) from hd 4 21 rfl rfl (by kernel_rfl)) (show tG a 22 <| (aG b1_ x1_ y1_) from hd 5 22 rfl rfl (by kernel_rfl)) (show Q1 40 (q0) ((aG b0_ x0_ y0_)) _ from ⟨b0_, x0_, y0_, rfl, hqa0, hkx0, hky0, (S.num 4 rfl), (S.num 5 rfl)⟩) (show Q1 40 (q1) ((aG b1_ x1_ y1_)) _ from ⟨b1_, x1_, y1_, rfl, hqa1, hkx1, hky1, (S.num 2 rfl), (S.num 3 rfl)⟩))
    | 7, ht, hnal =>
      cases ht
      exact so_call rfl rfl (wanted_free rfl) (rn_call1 ⟨_, rfl⟩ rfl (enters_of Tryz.func29 (by kernel_rfl) rfl)) (AM.mul2 (T.keep S.below) S.below ((show QL 40 6 ([q0, q1]) (a.tmps.getD 23 undef) V from hd 6 23 rfl rfl (by kernel_rfl))).row (by omega))
    | 8, ht, hnal => cases hnal
    | 9, ht, hnal => cases hnal
    | 10, ht, hnal => cases ht
    | 11, ht, hnal => cases ht
    | k + 12, ht, hnal => simp at ht
  · exact (all_cons ⟨rfl, _, rfl, rfl, rfl, fun a V S => (rn_alloc rfl (Tryz.zeroValue27 _) rfl)⟩ (all_cons ⟨rfl, _, rfl, rfl, rfl, fun a V S => (rn_alloc rfl (Tryz.zeroValue27 _) rfl)⟩ all_nil))
  · exact (all_cons ⟨_, 3, rfl, rfl, rfl, List.mem_of_getElem? (i := 0) rfl, (all_cons (fun h => ⟨rfl, rfl⟩) (all_cons (fun h => by cases h) all_nil)), all_nil, fun a V g S hg hd => st_rep (show QT 81 (q0 + q1) (a.tmps.getD 20 undef) V from hd 3 20 rfl rfl (by kernel_rfl)) ((show QT 81 (q0 + q1) (a.tmps.getD 20 undef) V from hd 3 20 rfl rfl (by kernel_rfl))).parts rfl hg rfl sz_Rat⟩ (all_cons ⟨_, 3, rfl, rfl, rfl, List.mem_of_getElem? (i := 0) rfl, (all_cons (fun h => by cases h) (all_cons (fun h => ⟨rfl, rfl⟩) all_nil)), all_nil, fun a V g S hg hd => st_rep (show QT 80 (q0 * q1) (a.tmps.getD 24 undef) V from hd 7 24 rfl rfl (by kernel_rfl)) ((show QT 80 (q0 * q1) (a.tmps.getD 24 undef) V from hd 7 24 rfl rfl (by kernel_rfl))).parts rfl hg rfl sz_Rat⟩ all_nil))
  rotate_left
  · exact all_nil
  · intro a1 V6 S hB hf hl hdis hs hp
    obtain ⟨g4, csg4, hvg4, hgg4, hbg4, hlg4, hng4, hkg4⟩ := hl _ (List.mem_of_getElem? (i := 0) rfl)
    obtain ⟨g5, csg5, hvg5, hgg5, hbg5, hlg5, hng5, hkg5⟩ := hl _ (List.mem_of_getElem? (i := 1) rfl)
    have hne_g4_g5 : g4 ≠ g5 := fun h => hdis _ (List.mem_of_getElem? (i := 0) rfl) _ (List.mem_of_getElem? (i := 1) rfl) (by decide) (hvg4.trans (h ▸ hvg5.symm))
    obtain ⟨gs1, vsgs1, hvgs1, -, hbgs1, hngs1, hPgs1⟩ := hs _ (List.mem_of_getElem? (i := 0) rfl)
    have hegs1 := ptr_inj ((hvg4).symm.trans hvgs1)
    subst hegs1
    obtain ⟨b1, x1, y1, hv1, hq1, hk1, hk2, ok1, ok2⟩ := (show QT 81 (q0 + q1) (.agg vsgs1.toArray) V6 from hPgs1)
    have hvsgs1 := agg_inj (ws := (aL b1 x1 y1)) hv1
    subst hvsgs1
    have S := S.know ok1
    have S := S.know ok2
    obtain ⟨gs2, vsgs2, hvgs2, -, hbgs2, hngs2, hPgs2⟩ := hs _ (List.mem_of_getElem? (i := 1) rfl)
    have hegs2 := ptr_inj ((hvg5).symm.trans hvgs2)
    subst hegs2
    obtain ⟨b2, x2, y2, hv2, hq2, hk3, hk4, ok3, ok4⟩ := (show QT 80 (q0 * q1) (.agg vsgs2.toArray) V6 from hPgs2)
    have hvsgs2 := agg_inj (ws := (aL b2 x2 y2)) hv2
    subst hvsgs2
    have S := S.know ok3
    have S := S.know ok4
    have S := Frm.readd (S.add hvg4) (Nat.le_trans S0.below.size hgg4) hbgs1 rfl (ne_cons (ne_of_lt_le (S0.lt 0 rfl) hgg4) (ne_cons (ne_of_lt_le (S0.lt 1 rfl) hgg4) (ne_cons (ne_of_lt_le (S0.lt 2 rfl) hgg4) ne_nil)))
    have S := Frm.readd (S.add hvg5) (Nat.le_trans S0.below.size hgg5) hbgs2 rfl (ne_cons (ne_of_lt_le (S0.lt 0 rfl) hgg5) (ne_cons (ne_of_lt_le (S0.lt 1 rfl) hgg5) (ne_cons (ne_of_lt_le (S0.lt 2 rfl) hgg5) (ne_cons hne_g4_g5 ne_nil))))
    have S : Frm 154 [(8, pT g5 0), (7, pT g4 0), (5, pT g3 0), (4, pT g2 0), (3, pT g1 0)] [⟨g1, 27, (aL b0_ x0_ y0_)⟩, ⟨g2, 27, (aL b1_ x1_ y1_)⟩, ⟨g3, 27, (aL b2_ x2_ y2_)⟩, ⟨g4, 27, (aL b1 x1 y1)⟩, ⟨g5, 27, (aL b2 x2 y2)⟩] V _ _ _ := S
    clear hf hl hdis hs hp S0
    refine hK4 _ _ ?_
    refine wp_seq_k fun K5 hK5 => ?_
    refine wp_seq_k fun K6 hK6 => ?_
    obtain ⟨W2, hW2⟩ : ∃ W, W = V6 := ⟨_, rfl⟩
    rw [← hW2] at S ⊢
    have S0 := S
    refine frm_region 46 [25, 26, 27, 28, 29, 30, 31, 32, 33, 34, 35, 36, 37, 38, 39, 40, 41, 42, 43, 44, 45, 46, 47, 48, 49, 50, 51, 52, 53, 54, 55, 56, 57, 58, 59, 60, 61, 62, 63, 64, 65, 66, 67, 68, 69, 70] (fun i v V => match i with
        | 0 => v = (aG b1 x1 y1)
        | 1 => v = (aG b1_ x1_ y1_)
        | 2 => v = (aG b0_ x0_ y0_)
        | 3 => QL 40 6 ([q1, q0]) v V
        | 4 => QT 81 (q1 + q0) v V
        | 5 => v = .bool true
        | 6 => v = .bool false
        | 7 => v = .bool false
        | 8 => v = (aG b2 x2 y2)
        | 9 => v = (aG b1_ x1_ y1_)
        | 10 => v = (aG b0_ x0_ y0_)
        | 11 => QL 40 6 ([q1, q0]) v V
        | 12 => QT 80 (q1 * q0) v V
        | 13 => v = .bool true
        | 14 => v = .bool false
        | 15 => v = .bool false
        | 16 => v = .bool false
        | 17 => v = (aG b1 x1 y1)
        | 18 => v = (aG b2_ x2_ y2_)
        | 19 => QL 81 6 ([q0 + q1, q2]) v V
        | 20 => QT 163 ((q0 + q1) + q2) v V
        | 21 => v = (aG b0_ x0_ y0_)
        | 22 => v = (aG b1_ x1_ y1_)
        | 23 => v = (aG b2_ x2_ y2_)
        | 24 => QL 40 6 ([q1, q2]) v V
        | 25 => QT 81 (q1 + q2) v V
        | 26 => QL 81 6 ([q0, q1 + q2]) v V
        | 27 => QT 163 (q0 + (q1 + q2)) v V
        | 28 => v = .bool true
        | 29 => v = .bool false
        | 30 => v = .bool false
        | 31 => v = .bool false
        | 32 => v = (aG b2 x2 y2)
        | 33 => v = (aG b2_ x2_ y2_)
        | 34 => QL 80 6 ([q0 * q1, q2]) v V
        | 35 => QT 160 ((q0 * q1) * q2) v V
        | 36 => v = (aG b0_ x0_ y0_)
        | 37 => v = (aG b1_ x1_ y1_)
        | 38 => v = (aG b2_ x2_ y2_)
        | 39 => QL 40 6 ([q1, q2]) v V
        | 40 => QT 80 (q1 * q2) v V
        | 41 => QL 80 6 ([q0, q1 * q2]) v V
        | 42 => QT 160 (q0 * (q1 * q2)) v V
        | 43 => v = .bool true
        | 44 => v = .bool false
        | _ => v = .bool false) S (by kernel_rfl) (by kernel_rfl) rfl (by decide) rfl rfl ?_ ?_ ?_
    · intro i v V V2 hf hb
      match i, hf with
      | 0, hf => exact hf
      | 1, hf => exact hf
      | 2, hf => exact hf
      | 3, hf => exact QL.keep hf hb
      | 4, hf => exact QT.keep hf hb
      | 5, hf => exact hf
      | 6, hf => exact hf
      | 7, hf => exact hf
      | 8, hf => exact hf
      | 9, hf => exact hf
      | 10, hf => exact hf
      | 11, hf => exact QL.keep hf hb
      | 12, hf => exact QT.keep hf hb
      | 13, hf => exact hf
      | 14, hf => exact hf
      | 15, hf => exact hf
      | 16, hf => exact hf
      | 17, hf => exact hf
      | 18, hf => exact hf
      | 19, hf => exact QL.keep hf hb
      | 20, hf => exact QT.keep hf hb
      | 21, hf => exact hf
      | 22, hf => exact hf
      | 23, hf => exact hf
      | 24, hf => exact QL.keep hf hb
      | 25, hf => exact QT.keep hf hb
      | 26, hf => exact QL.keep hf hb
      | 27, hf => exact QT.keep hf hb
      | 28, hf => exact hf
      | 29, hf => exact hf
      | 30, hf => exact hf
      | 31, hf => exact hf
      | 32, hf => exact hf
      | 33, hf => exact hf
      | 34, hf => exact QL.keep hf hb
      | 35, hf => exact QT.keep hf hb
      | 36, hf => exact hf
      | 37, hf => exact hf
      | 38, hf => exact hf
      | 39, hf => exact QL.keep hf hb
      | 40, hf => exact QT.keep hf hb
      | 41, hf => exact QL.keep hf hb
      | 42, hf => exact QT.keep hf hb
      | 43, hf => exact hf
      | 44, hf => exact hf
      | _ + 45, hf => exact hf
    · intro i t ht a V S hB hd
      match i, ht with
      | 0, ht =>
        cases ht
        exact so_val rfl rfl (wanted_free rfl) (rn_load rfl (S.at 1 rfl) (S.bx 3 rfl) Tryz.underlying27 rfl (vs := (aL b1 x1 y1)) sz_Rat rfl) rfl
      | 1, ht =>
        cases ht
        exact so_val rfl rfl (wanted_free rfl) (rn_load rfl (S.at 3 rfl) (S.bx 1 rfl) Tryz.underlying27 rfl (vs := (aL b1_ x1_ y1_)) sz_Rat rfl) rfl
      | 2, ht =>
        cases ht
        exact so_val rfl rfl (wanted_free rfl) (rn_load rfl (S.at 4 rfl) (S.bx 0 rfl) Tryz.underlying27 rfl (vs := (aL b0_ x0_ y0_)) sz_Rat rfl) rfl
      | 3, ht =>
        cases ht
        exact so_lays rfl rfl (wanted_free rfl) (ly_qrow2 rfl (show tG a 26 <| (aG b1_ x1_ y1_) from hd 1 26 rfl (by kernel_rfl)) (show tG a 27 <| (aG b0_ x0_ y0_) from hd 2 27 rfl (by kernel_rfl)) (show Q1 40 (q1) ((aG b1_ x1_ y1_)) _ from ⟨b1_, x1_, y1_, rfl, hqa1, hkx1, hky1, (S.num 6 rfl), (S.num 7 rfl)⟩) (show Q1 40 (q0) ((aG b0_ x0_ y0_)) _ from ⟨b0_, x0_, y0_, rfl, hqa0, hkx0, hky0, (S.num 8 rfl), (S.num 9 rfl)⟩))
      | 4, ht =>
        cases ht
        exact so_call rfl rfl (wanted_free rfl) (rn_call1 ⟨_, rfl⟩ rfl (enters_of Tryz.func27 (by kernel_rfl) rfl)) (AM.add2 (T.keep S.below) S.below ((show QL 40 6 ([q1, q0]) (a.tmps.getD 28 undef) V from hd 3 28 rfl (by kernel_rfl))).row (by omega))
      | 5, ht =>
        cases ht
        exact so_call rfl rfl (wanted_free rfl) (rn_call2 ⟨_, rfl⟩ (show tG a 25 <| (aG b1 x1 y1) from hd 0 25 rfl (by kernel_rfl)) rfl (enters_of Tryz.func14 (by kernel_rfl) rfl)) (l7same (show QT 81 (q0 + q1) ((aG b1 x1 y1)) _ from ⟨b1, x1, y1, rfl, hq1, hk1, hk2, (S.num 3 rfl), (S.num 2 rfl)⟩) (show QT 81 (q1 + q0) (a.tmps.getD 29 undef) V from hd 4 29 rfl (by kernel_rfl)) (by grind))
      | 6, ht =>
        cases ht
        exact so_val rfl rfl (wanted_free rfl) (rn_not (b := true) rfl (show tG a 30 <| .bool true from hd 5 30 rfl (by kernel_rfl))) rfl
      | 7, ht =>
        cases ht
        exact so_val rfl rfl (wanted_free rfl) (rn_move rfl (show tG a 31 <| .bool false from hd 6 31 rfl (by kernel_rfl))) rfl
      | 8, ht =>
        cases ht
        exact so_val rfl rfl ((wanted_if rfl rfl rfl (show tG a 32 <| .bool false from hd 7 32 rfl (by kernel_rfl))).trans rfl) (rn_load rfl (S.at 0 rfl) (S.bx 4 rfl) Tryz.underlying27 rfl (vs := (aL b2 x2 y2)) sz_Rat rfl) rfl
      | 9, ht =>
        cases ht
        exact so_val rfl rfl ((wanted_if rfl rfl rfl (show tG a 32 <| .bool false from hd 7 32 rfl (by kernel_rfl))).trans rfl) (rn_load rfl (S.at 3 rfl) (S.bx 1 rfl) Tryz.underlying27 rfl (vs := (aL b1_ x1_ y1_)) sz_Rat rfl) rfl
      | 10, ht =>
        cases ht
        exact so_val rfl rfl ((wanted_if rfl rfl rfl (show tG a 32 <| .bool false from hd 7 32 rfl (by kernel_rfl))).trans rfl) (rn_load rfl (S.at 4 rfl) (S.bx 0 rfl) Tryz.underlying27 rfl (vs := (aL b0_ x0_ y0_)) sz_Rat rfl) rfl
      | 11, ht =>
        cases ht
        exact so_lays rfl rfl ((wanted_if rfl rfl rfl (show tG a 32 <| .bool false from hd 7 32 rfl (by kernel_rfl))).trans rfl) (ly_qrow2 rfl (show tG a 34 <| (aG b1_ x1_ y1_) from hd 9 34 rfl (by kernel_rfl)) (show tG a 35 <| (aG b0_ x0_ y0_) from hd 10 35 rfl (by kernel_rfl)) (show Q1 40 (q1) ((aG b1_ x1_ y1_)) _ from ⟨b1_, x1_, y1_, rfl, hqa1, hkx1, hky1, (S.num 6 rfl), (S.num 7 rfl)⟩) (show Q1 40 (q0) ((aG b0_ x0_ y0_)) _ from ⟨b0_, x0_, y0_, rfl, hqa0, hkx0, hky0, (S.num 8 rfl), (S.num 9 rfl)⟩))
      | 12, ht =>
        cases ht
        exact so_call rfl rfl ((wanted_if rfl rfl rfl (show tG a 32 <| .bool false from hd 7 32 rfl (by kernel_rfl))).trans rfl) (rn_call1 ⟨_, rfl⟩ rfl (enters_of Tryz.func29 (by kernel_rfl) rfl)) (AM.mul2 (T.keep S.below) S.below ((show QL 40 6 ([q1, q0]) (a.tmps.getD 36 undef) V from hd 11 36 rfl (by kernel_rfl))).row (by omega))
      | 13, ht =>
        cases ht
        exact so_call rfl rfl ((wanted_if rfl rfl rfl (show tG a 32 <| .bool false from hd 7 32 rfl (by kernel_rfl))).trans rfl) (rn_call2 ⟨_, rfl⟩ (show tG a 33 <| (aG b2 x2 y2) from hd 8 33 rfl (by kernel_rfl)) rfl (enters_of Tryz.func14 (by kernel_rfl) rfl)) (l7same (show QT 80 (q0 * q1) ((aG b2 x2 y2)) _ from ⟨b2, x2, y2, rfl, hq2, hk3, hk4, (S.num 1 rfl), (S.num 0 rfl)⟩) (show QT 80 (q1 * q0) (a.tmps.getD 37 undef) V from hd 12 37 rfl (by kernel_rfl)) (by grind))
      | 14, ht =>
        cases ht
        exact so_val rfl rfl ((wanted_if rfl rfl rfl (show tG a 32 <| .bool false from hd 7 32 rfl (by kernel_rfl))).trans rfl) (rn_not (b := true) rfl (show tG a 38 <| .bool true from hd 13 38 rfl (by kernel_rfl))) rfl
      | 15, ht =>
        cases ht
        exact so_val rfl rfl (wanted_free rfl) (rn_pick false rfl (show tG a 32 <| .bool false from hd 7 32 rfl (by kernel_rfl)) (show tG a 39 <| .bool false from hd 14 39 rfl (by kernel_rfl))) rfl
      | 16, ht =>
        cases ht
        exact so_val rfl rfl (wanted_free rfl) (rn_move rfl (show tG a 40 <| .bool false from hd 15 40 rfl (by kernel_rfl))) rfl
      | 17, ht =>
        cases ht
        exact so_val rfl rfl ((wanted_if rfl rfl rfl (show tG a 41 <| .bool false from hd 16 41 rfl (by kernel_rfl))).trans rfl) (rn_load rfl (S.at 1 rfl) (S.bx 3 rfl) Tryz.underlying27 rfl (vs := (aL b1 x1 y1)) sz_Rat rfl) rfl
      | 18, ht =>
        cases ht
        exact so_val rfl rfl ((wanted_if rfl rfl rfl (show tG a 41 <| .bool false from hd 16 41 rfl (by kernel_rfl))).trans rfl) (rn_load rfl (S.at 2 rfl) (S.bx 2 rfl) Tryz.underlying27 rfl (vs := (aL b2_ x2_ y2_)) sz_Rat rfl) rfl
      | 19, ht =>
        cases ht
        exact so_lays rfl rfl ((wanted_if rfl rfl rfl (show tG a 41 <| .bool false from hd 16 41 rfl (by kernel_rfl))).trans rfl) (ly_qrow2 rfl (show tG a 42 <| (aG b1 x1 y1) from hd 17 42 rfl (by kernel_rfl)) (show tG a 43 <| (aG b2_ x2_ y2_) from hd 18 43 rfl (by kernel_rfl)) (show QT 81 (q0 + q1) ((aG b1 x1 y1)) _ from ⟨b1, x1, y1, rfl, hq1, hk1, hk2, (S.num 3 rfl), (S.num 2 rfl)⟩).any (((show Q1 40 (q2) ((aG b2_ x2_ y2_)) _ from ⟨b2_, x2_, y2_, rfl, hqa2, hkx2, hky2, (S.num 4 rfl), (S.num 5 rfl)⟩)).to rfl (by omega)))
      | 20, ht =>
        cases ht
        exact so_call rfl rfl ((wanted_if rfl rfl rfl (show tG a 41 <| .bool false from hd 16 41 rfl (by kernel_rfl))).trans rfl) (rn_call1 ⟨_, rfl⟩ rfl (enters_of Tryz.func27 (by kernel_rfl) rfl)) (AM.add2 (T.keep S.below) S.below ((show QL 81 6 ([q0 + q1, q2]) (a.tmps.getD 44 undef) V from hd 19 44 rfl (by kernel_rfl))).row (by omega))
      | 21, ht =>
        cases ht
        exact so_val rfl rfl ((wanted_if rfl rfl rfl (show tG a 41 <| .bool false from hd 16 41 rfl (by kernel_rfl))).trans rfl) (rn_load rfl (S.at 4 rfl) (S.bx 0 rfl) Tryz.underlying27 rfl (vs := (aL b0_ x0_ y0_)) sz_Rat rfl) rfl
      | 22, ht =>
        cases ht
        exact so_val rfl rfl ((wanted_if rfl rfl rfl (show tG a 41 <| .bool false from hd 16 41 rfl (by kernel_rfl))).trans rfl) (rn_load rfl (S.at 3 rfl) (S.bx 1 rfl) Tryz.underlying27 rfl (vs := (aL b1_ x1_ y1_)) sz_Rat rfl) rfl
      | 23, ht =>
        cases ht
        exact so_val rfl rfl ((wanted_if rfl rfl rfl (show tG a 41 <| .bool false from hd 16 41 rfl (by kernel_rfl))).trans rfl) (rn_load rfl (S.at 2 rfl) (S.bx 2 rfl) Tryz.underlying27 rfl (vs := (aL b2_ x2_ y2_)) sz_Rat rfl) rfl
      | 24, ht =>
        cases ht
        exact so_lays rfl rfl ((wanted_if rfl rfl rfl (show tG a 41 <| .bool false from hd 16 41 rfl (by kernel_rfl))).trans rfl) (ly_qrow2 rfl (show tG a 47 <| (aG b1_ x1_ y1_) from hd 22 47 rfl (by kernel_rfl)) (show tG a 48 <| (aG b2_ x2_ y2_) from hd 23 48 rfl (by kernel_rfl)) (show Q1 40 (q1) ((aG b1_ x1_ y1_)) _ from ⟨b1_, x1_, y1_, rfl, hqa1, hkx1, hky1, (S.num 6 rfl), (S.num 7 rfl)⟩) (show Q1 40 (q2) ((aG b2_ x2_ y2_)) _ from ⟨b2_, x2_, y2_, rfl, hqa2, hkx2, hky2, (S.num 4 rfl), (S.num 5 rfl)⟩))
      | 25, ht =>
        cases ht
        exact so_call rfl rfl ((wanted_if rfl rfl rfl (show tG a 41 <| .bool false from hd 16 41 rfl (by kernel_rfl))).trans rfl) (rn_call1 ⟨_, rfl⟩ rfl (enters_of Tryz.func27 (by kernel_rfl) rfl)) (AM.add2 (T.keep S.below) S.below ((show QL 40 6 ([q1, q2]) (a.tmps.getD 49 undef) V from hd 24 49 rfl (by kernel_rfl))).row (by omega))
      | 26, ht =>
        cases ht
        exact so_lays rfl rfl ((wanted_if rfl rfl rfl (show tG a 41 <| .bool false from hd 16 41 rfl (by kernel_rfl))).trans rfl) (ly_qrow2 rfl (show tG a 46 <| (aG b0_ x0_ y0_) from hd 21 46 rfl (by kernel_rfl)) rfl (((show Q1 40 (q0) ((aG b0_ x0_ y0_)) _ from ⟨b0_, x0_, y0_, rfl, hqa0, hkx0, hky0, (S.num 8 rfl), (S.num 9 rfl)⟩)).to rfl (by omega)) ((show QT 81 (q1 + q2) (a.tmps.getD 50 undef) V from hd 25 50 rfl (by kernel_rfl))).any)
      | 27, ht =>
        cases ht
        exact so_call rfl rfl ((wanted_if rfl rfl rfl (show tG a 41 <| .bool false from hd 16 41 rfl (by kernel_rfl))).trans rfl) (rn_call1 ⟨_, rfl⟩ rfl (enters_of Tryz.func27 (by kernel_rfl) rfl)) (AM.add2 (T.keep S.below) S.below ((show QL 81 6 ([q0, q1 + q2]) (a.tmps.getD 51 undef) V from hd 26 51 rfl (by kernel_rfl))).row (by omega))
      | 28, ht =>
        cases ht
        exact so_call rfl rfl ((wanted_if rfl rfl rfl (show tG a 41 <| .bool false from hd 16 41 rfl (by kernel_rfl))).trans rfl) (rn_call2 ⟨_, rfl⟩ rfl rfl (enters_of Tryz.func14 (by kernel_rfl) rfl)) (l7same (show QT 163 ((q0 + q1) + q2) (a.tmps.getD 45 undef) V from hd 20 45 rfl (by kernel_rfl)) (show QT 163 (q0 + (q1 + q2)) (a.tmps.getD 52 undef) V from hd 27 52 rfl (by kernel_rfl)) (by grind))
      | 29, ht =>
        cases ht
        exact so_val rfl rfl ((wanted_if rfl rfl rfl (show tG a 41 <| .bool false from hd 16 41 rfl (by kernel_rfl))).trans rfl) (rn_not (b := true) rfl (show tG a 53 <| .bool true from hd 28 53 rfl (by kernel_rfl))) rfl
      | 30, ht =>
        cases ht
        exact so_val rfl rfl (wanted_free rfl) (rn_pick false rfl (show tG a 41 <| .bool false from hd 16 41 rfl (by kernel_rfl)) (show tG a 54 <| .bool false from hd 29 54 rfl (by kernel_rfl))) rfl
      | 31, ht =>
        cases ht
        exact so_val rfl rfl (wanted_free rfl) (rn_move rfl (show tG a 55 <| .bool false from hd 30 55 rfl (by kernel_rfl))) rfl
      | 32, ht =>
        cases ht
        exact so_val rfl rfl ((wanted_if rfl rfl rfl (show tG a 56 <| .bool false from hd 31 56 rfl (by kernel_rfl))).trans rfl) (rn_load rfl (S.at 0 rfl) (S.bx 4 rfl) Tryz.underlying27 rfl (vs := (aL b2 x2 y2)) sz_Rat rfl) rfl
      | 33, ht =>
        cases ht
        exact so_val rfl rfl ((wanted_if rfl rfl rfl (show tG a 56 <| .bool false from hd 31 56 rfl (by kernel_rfl))).trans rfl) (rn_load rfl (S.at 2 rfl) (S.bx 2 rfl) Tryz.underlying27 rfl (vs := (aL b2_ x2_ y2_)) sz_Rat rfl) rfl
      | 34, ht =>
        cases ht
        exact so_lays rfl rfl ((wanted_if rfl rfl rfl (show tG a 56 <| .bool false from hd 31 56 rfl (by kernel_rfl))).trans rfl) (ly_qrow2 rfl (show tG a 57 <| (aG b2 x2 y2) from hd 32 57 rfl (by kernel_rfl)) (show tG a 58 <| (aG b2_ x2_ y2_) from hd 33 58 rfl (by kernel_rfl)) (show QT 80 (q0 * q1) ((aG b2 x2 y2)) _ from ⟨b2, x2, y2, rfl, hq2, hk3, hk4, (S.num 1 rfl), (S.num 0 rfl)⟩).any (((show Q1 40 (q2) ((aG b2_ x2_ y2_)) _ from ⟨b2_, x2_, y2_, rfl, hqa2, hkx2, hky2, (S.num 4 rfl), (S.num 5 rfl)⟩)).to rfl (by omega)))
      | 35, ht =>
        cases ht
        exact so_call rfl rfl ((wanted_if rfl rfl rfl (show tG a 56 <| .bool false from hd 31 56 rfl (by kernel_rfl))).trans rfl) (rn_call1 ⟨_, rfl⟩ rfl (enters_of Tryz.func29 (by kernel_rfl) rfl)) (AM.mul2 (T.keep S.below) S.below ((show QL 80 6 ([q0 * q1, q2]) (a.tmps.getD 59 undef) V from hd 34 59 rfl (by kernel_rfl))).row (by omega))
      | 36, ht =>
        cases ht
        exact so_val rfl rfl ((wanted_if rfl rfl rfl (show tG a 56 <| .bool false from hd 31 56 rfl (by kernel_rfl))).trans rfl) (rn_load rfl (S.at 4 rfl) (S.bx 0 rfl) Tryz.underlying27 rfl (vs := (aL b0_ x0_ y0_)) sz_Rat rfl) rfl
      | 37, ht =>
        cases ht
        exact so_val rfl rfl ((wanted_if rfl rfl rfl (show tG a 56 <| .bool false from hd 31 56 rfl (by kernel_rfl))).trans rfl) (rn_load rfl (S.at 3 rfl) (S.bx 1 rfl) Tryz.underlying27 rfl (vs := (aL b1_ x1_ y1_)) sz_Rat rfl) rfl
      | 38, ht =>
        cases ht
        exact so_val rfl rfl ((wanted_if rfl rfl rfl (show tG a 56 <| .bool false from hd 31 56 rfl (by kernel_rfl))).trans rfl) (rn_load rfl (S.at 2 rfl) (S.bx 2 rfl) Tryz.underlying27 rfl (vs := (aL b2_ x2_ y2_)) sz_Rat rfl) rfl
      | 39, ht =>
        cases ht
        exact so_lays rfl rfl ((wanted_if rfl rfl rfl (show tG a 56 <| .bool false from hd 31 56 rfl (by kernel_rfl))).trans rfl) (ly_qrow2 rfl (show tG a 62 <| (aG b1_ x1_ y1_) from hd 37 62 rfl (by kernel_rfl)) (show tG a 63 <| (aG b2_ x2_ y2_) from hd 38 63 rfl (by kernel_rfl)) (show Q1 40 (q1) ((aG b1_ x1_ y1_)) _ from ⟨b1_, x1_, y1_, rfl, hqa1, hkx1, hky1, (S.num 6 rfl), (S.num 7 rfl)⟩) (show Q1 40 (q2) ((aG b2_ x2_ y2_)) _ from ⟨b2_, x2_, y2_, rfl, hqa2, hkx2, hky2, (S.num 4 rfl), (S.num 5 rfl)⟩))
      | 40, ht =>
        cases ht
        exact so_call rfl rfl ((wanted_if rfl rfl rfl (show tG a 56 <| .bool false from hd 31 56 rfl (by kernel_rfl))).trans rfl) (rn_call1 ⟨_, rfl⟩ rfl (enters_of Tryz.func29 (by kernel_rfl) rfl)) (AM.mul2 (T.keep S.below) S.below ((show QL 40 6 ([q1, q2]) (a.tmps.getD 64 undef) V from hd 39 64 rfl (by kernel_rfl))).row (by omega))
      | 41, ht =>
        cases ht
        exact so_lays rfl rfl ((wanted_if rfl rfl rfl (show tG a 56 <| .bool false from hd 31 56 rfl (by kernel_rfl))).trans rfl) (ly_qrow2 rfl (show tG a 61 <| (aG b0_ x0_ y0_) from hd 36 61 rfl (by kernel_rfl)) rfl (((show Q1 40 (q0) ((aG b0_ x0_ y0_)) _ from ⟨b0_, x0_, y0_, rfl, hqa0, hkx0, hky0, (S.num 8 rfl), (S.num 9 rfl)⟩)).to rfl (by omega)) ((show QT 80 (q1 * q2) (a.tmps.getD 65 undef) V from hd 40 65 rfl (by kernel_rfl))).any)
      | 42, ht =>
        cases ht
        exact so_call rfl rfl ((wanted_if rfl rfl rfl (show tG a 56 <| .bool false from hd 31 56 rfl (by kernel_rfl))).trans rfl) (rn_call1 ⟨_, rfl⟩ rfl (enters_of Tryz.func29 (by kernel_rfl) rfl)) (AM.mul2 (T.keep S.below) S.below ((show QL 80 6 ([q0, q1 * q2]) (a.tmps.getD 66 undef) V from hd 41 66 rfl (by kernel_rfl))).row (by omega))
      | 43, ht =>
        cases ht
        exact so_call rfl rfl ((wanted_if rfl rfl rfl (show tG a 56 <| .bool false from hd 31 56 rfl (by kernel_rfl))).trans rfl) (rn_call2 ⟨_, rfl⟩ rfl rfl (enters_of Tryz.func14 (by kernel_rfl) rfl)) (l7same (show QT 160 ((q0 * q1) * q2) (a.tmps.getD 60 undef) V from hd 35 60 rfl (by kernel_rfl)) (show QT 160 (q0 * (q1 * q2)) (a.tmps.getD 67 undef) V from hd 42 67 rfl (by kernel_rfl)) (by grind))
      | 44, ht =>
        cases ht
        exact so_val rfl rfl ((wanted_if rfl rfl rfl (show tG a 56 <| .bool false from hd 31 56 rfl (by kernel_rfl))).trans rfl) (rn_not (b := true) rfl (show tG a 68 <| .bool true from hd 43 68 rfl (by kernel_rfl))) rfl
      | 45, ht =>
        cases ht
        exact so_val rfl rfl (wanted_free rfl) (rn_pick false rfl (show tG a 56 <| .bool false from hd 31 56 rfl (by kernel_rfl)) (show tG a 69 <| .bool false from hd 44 69 rfl (by kernel_rfl))) rfl
      | k + 46, ht => simp at ht
    · intro a2 V7 S hB hf
      have S := S.add (show a2.tmps.getD 70 undef = .bool false from hf 45 70 rfl)
      clear hf S0
      show wpList _ _ _ [] _ _
      refine hK6 _ _ ?_
      refine wp_cond_false (S.at 0 rfl) ?_
      refine wp_skip ?_
      refine hK5 _ _ ?_
      refine wp_seq_k fun K7 hK7 => ?_
      refine wp_seq_k fun K8 hK8 => ?_
      have S := S.keep [8, 7, 5, 4, 3] (ls' := [(8, pT g5 0), (7, pT g4 0), (5, pT g3 0), (4, pT g2 0), (3, pT g1 0)]) rfl
      obtain ⟨W3, hW3⟩ : ∃ W, W = V7 := ⟨_, rfl⟩
      rw [← hW3] at S ⊢
      have S0 := S
      refine frm_region 48 [71, 72, 73, 74, 75, 76, 77, 78, 79, 80, 81, 82, 83, 84, 85, 86, 87, 88, 89, 90, 91, 92, 93, 94, 95, 96, 97, 98, 99, 100, 101, 102, 103, 104, 105, 106, 107, 108, 109, 110, 111, 112, 113, 114, 115, 116, 117, 118] (fun i v V => match i with
          | 0 => v = (aG b1 x1 y1)
          | 1 => v = (aG b2_ x2_ y2_)
          | 2 => QL 81 6 ([q0 + q1, q2]) v V
          | 3 => QT 162 ((q0 + q1) * q2) v V
          | 4 => v = (aG b0_ x0_ y0_)
          | 5 => v = (aG b2_ x2_ y2_)
          | 6 => QL 40 6 ([q0, q2]) v V
          | 7 => QT 80 (q0 * q2) v V
          | 8 => v = (aG b1_ x1_ y1_)
          | 9 => v = (aG b2_ x2_ y2_)
          | 10 => QL 40 6 ([q1, q2]) v V
          | 11 => QT 80 (q1 * q2) v V
          | 12 => QL 80 6 ([q0 * q2, q1 * q2]) v V
          | 13 => QT 161 ((q0 * q2) + (q1 * q2)) v V
          | 14 => v = .bool true
          | 15 => v = .bool false
          | 16 => v = .bool false
          | 17 => v = (aG b0_ x0_ y0_)
          | 18 => v = (aG b0_ x0_ y0_)
          | 19 => QT 40 (-q0) v V
          | 20 => QL 40 6 ([q0, -q0]) v V
          | 21 => QT 81 (q0 + (-q0)) v V
          | 22 => QT 1 ((0 : Rat)) v V
          | 23 => v = .bool true
          | 24 => v = .bool false
          | 25 => v = .bool false
          | 26 => v = .bool false
          | 27 => v = (aG b1 x1 y1)
          | 28 => v = (aG b1_ x1_ y1_)
          | 29 => QT 122 ((q0 + q1) - q1) v V
          | 30 => v = (aG b0_ x0_ y0_)
          | 31 => QT 40 (q0) v V
          | 32 => v = .bool true
          | 33 => v = .bool false
          | 34 => v = .bool false
          | 35 => v = .bool false
          | 36 => v = (aG b0_ x0_ y0_)
          | 37 => v = (aG b1_ x1_ y1_)
          | 38 => QT 82 ((q0 + q1) / 2) v V
          | 39 => v = (aG b0_ x0_ y0_)
          | 40 => v = (aG b1_ x1_ y1_)
          | 41 => QT 82 ((q0 + q1) / 2) v V
          | 42 => QL 82 6 ([(q0 + q1) / 2, (q0 + q1) / 2]) v V
          | 43 => QT 165 (((q0 + q1) / 2) + ((q0 + q1) / 2)) v V
          | 44 => v = (aG b1 x1 y1)
          | 45 => v = .bool true
          | 46 => v = .bool false
          | _ => v = .bool false) S (by kernel_rfl) (by kernel_rfl) rfl (by decide) rfl rfl ?_ ?_ ?_
      · intro i v V V2 hf hb
        match i, hf with
        | 0, hf => exact hf
        | 1, hf => exact hf
        | 2, hf => exact QL.keep hf hb
        | 3, hf => exact QT.keep hf hb
        | 4, hf => exact hf
        | 5, hf => exact hf
        | 6, hf => exact QL.keep hf hb
        | 7, hf => exact QT.keep hf hb
        | 8, hf => exact hf
        | 9, hf => exact hf
        | 10, hf => exact QL.keep hf hb
        | 11, hf => exact QT.keep hf hb
        | 12, hf => exact QL.keep hf hb
        | 13, hf => exact QT.keep hf hb
        | 14, hf => exact hf
        | 15, hf => exact hf
        | 16, hf => exact hf
        | 17, hf => exact hf
        | 18, hf => exact hf
        | 19, hf => exact QT.keep hf hb
        | 20, hf => exact QL.keep hf hb
        | 21, hf => exact QT.keep hf hb
        | 22, hf => exact QT.keep hf hb
        | 23, hf => exact hf
        | 24, hf => exact hf
        | 25, hf => exact hf
        | 26, hf => exact hf
        | 27, hf => exact hf
        | 28, hf => exact hf
        | 29, hf => exact QT.keep hf hb
        | 30, hf => exact hf
        | 31, hf => exact QT.keep hf hb
        | 32, hf => exact hf
        | 33, hf => exact hf
        | 34, hf => exact hf
        | 35, hf => exact hf
        | 36, hf => exact hf
        | 37, hf => exact hf
        | 38, hf => exact QT.keep hf hb
        | 39, hf => exact hf
        | 40, hf => exact hf
        | 41, hf => exact QT.keep hf hb
        | 42, hf => exact QL.keep hf hb
        | 43, hf => exact QT.keep hf hb
        | 44, hf => exact hf
        | 45, hf => exact hf
        | 46, hf => exact hf
        | _ + 47, hf => exact hf
      · intro i t ht a V S hB hd
        match i, ht with
        | 0, ht =>
          cases ht
          exact so_val rfl rfl (wanted_free rfl) (rn_load rfl (S.at 1 rfl) (S.bx 3 rfl) Tryz.underlying27 rfl (vs := (aL b1 x1 y1)) sz_Rat rfl) rfl
        | 1, ht =>
          cases ht
          exact so_val rfl rfl (wanted_free rfl) (rn_load rfl (S.at 2 rfl) (S.bx 2 rfl) Tryz.underlying27 rfl (vs := (aL b2_ x2_ y2_)) sz_Rat rfl) rfl
        | 2, ht =>
          cases ht
          exact so_lays rfl rfl (wanted_free rfl) (ly_qrow2 rfl (show tG a 71 <| (aG b1 x1 y1) from hd 0 71 rfl (by kernel_rfl)) (show tG a 72 <| (aG b2_ x2_ y2_) from hd 1 72 rfl (by kernel_rfl)) (show QT 81 (q0 + q1) ((aG b1 x1 y1)) _ from ⟨b1, x1, y1, rfl, hq1, hk1, hk2, (S.num 3 rfl), (S.num 2 rfl)⟩).any (((show Q1 40 (q2) ((aG b2_ x2_ y2_)) _ from ⟨b2_, x2_, y2_, rfl, hqa2, hkx2, hky2, (S.num 4 rfl), (S.num 5 rfl)⟩)).to rfl (by omega)))
        | 3, ht =>
          cases ht
          exact so_call rfl rfl (wanted_free rfl) (rn_call1 ⟨_, rfl⟩ rfl (enters_of Tryz.func29 (by kernel_rfl) rfl)) (AM.mul2 (T.keep S.below) S.below ((show QL 81 6 ([q0 + q1, q2]) (a.tmps.getD 73 undef) V from hd 2 73 rfl (by kernel_rfl))).row (by omega))
        | 4, ht =>
          cases ht
          exact so_val rfl rfl (wanted_free rfl) (rn_load rfl (S.at 4 rfl) (S.bx 0 rfl) Tryz.underlying27 rfl (vs := (aL b0_ x0_ y0_)) sz_Rat rfl) rfl
        | 5, ht =>
          cases ht
          exact so_val rfl rfl (wanted_free rfl) (rn_load rfl (S.at 2 rfl) (S.bx 2 rfl) Tryz.underlying27 rfl (vs := (aL b2_ x2_ y2_)) sz_Rat rfl) rfl
        | 6, ht =>
          cases ht
          exact so_lays rfl rfl (wanted_free rfl) (ly_qrow2 rfl (show tG a 75 <| (aG b0_ x0_ y0_) from hd 4 75 rfl (by kernel_rfl)) (show tG a 76 <| (aG b2_ x2_ y2_) from hd 5 76 rfl (by kernel_rfl)) (show Q1 40 (q0) ((aG b0_ x0_ y0_)) _ from ⟨b0_, x0_, y0_, rfl, hqa0, hkx0, hky0, (S.num 8 rfl), (S.num 9 rfl)⟩) (show Q1 40 (q2) ((aG b2_ x2_ y2_)) _ from ⟨b2_, x2_, y2_, rfl, hqa2, hkx2, hky2, (S.num 4 rfl), (S.num 5 rfl)⟩))
        | 7, ht =>
          cases ht
          exact so_call rfl rfl (wanted_free rfl) (rn_call1 ⟨_, rfl⟩ rfl (enters_of Tryz.func29 (by kernel_rfl) rfl)) (AM.mul2 (T.keep S.below) S.below ((show QL 40 6 ([q0, q2]) (a.tmps.getD 77 undef) V from hd 6 77 rfl (by kernel_rfl))).row (by omega))
        | 8, ht =>
          cases ht
          exact so_val rfl rfl (wanted_free rfl) (rn_load rfl (S.at 3 rfl) (S.bx 1 rfl) Tryz.underlying27 rfl (vs := (aL b1_ x1_ y1_)) sz_Rat rfl) rfl
        | 9, ht =>
          cases ht
          exact so_val rfl rfl (wanted_free rfl) (rn_load rfl (S.at 2 rfl) (S.bx 2 rfl) Tryz.underlying27 rfl (vs := (aL b2_ x2_ y2_)) sz_Rat rfl) rfl
        | 10, ht =>
          cases ht
          exact so_lays rfl rfl (wanted_free rfl) (ly_qrow2 rfl (show tG a 79 <| (aG b1_ x1_ y1_) from hd 8 79 rfl (by kernel_rfl)) (show tG a 80 <| (aG b2_ x2_ y2_) from hd 9 80 rfl (by kernel_rfl)) (show Q1 40 (q1) ((aG b1_ x1_ y1_)) _ from ⟨b1_, x1_, y1_, rfl, hqa1, hkx1, hky1, (S.num 6 rfl), (S.num 7 rfl)⟩) (show Q1 40 (q2) ((aG b2_ x2_ y2_)) _ from ⟨b2_, x2_, y2_, rfl, hqa2, hkx2, hky2, (S.num 4 rfl), (S.num 5 rfl)⟩))
        | 11, ht =>
          cases ht
          exact so_call rfl rfl (wanted_free rfl) (rn_call1 ⟨_, rfl⟩ rfl (enters_of Tryz.func29 (by kernel_rfl) rfl)) (AM.mul2 (T.keep S.below) S.below ((show QL 40 6 ([q1, q2]) (a.tmps.getD 81 undef) V from hd 10 81 rfl (by kernel_rfl))).row (by omega))
        | 12, ht =>
          cases ht
          exact so_lays rfl rfl (wanted_free rfl) (ly_qrow2 rfl rfl rfl ((show QT 80 (q0 * q2) (a.tmps.getD 78 undef) V from hd 7 78 rfl (by kernel_rfl))).any ((show QT 80 (q1 * q2) (a.tmps.getD 82 undef) V from hd 11 82 rfl (by kernel_rfl))).any)
        | 13, ht =>
          cases ht
          exact so_call rfl rfl (wanted_free rfl) (rn_call1 ⟨_, rfl⟩ rfl (enters_of Tryz.func27 (by kernel_rfl) rfl)) (AM.add2 (T.keep S.below) S.below ((show QL 80 6 ([q0 * q2, q1 * q2]) (a.tmps.getD 83 undef) V from hd 12 83 rfl (by kernel_rfl))).row (by omega))
        | 14, ht =>
          cases ht
          exact so_call rfl rfl (wanted_free rfl) (rn_call2 ⟨_, rfl⟩ rfl rfl (enters_of Tryz.func14 (by kernel_rfl) rfl)) (l7same (show QT 162 ((q0 + q1) * q2) (a.tmps.getD 74 undef) V from hd 3 74 rfl (by kernel_rfl)) (show QT 161 ((q0 * q2) + (q1 * q2)) (a.tmps.getD 84 undef) V from hd 13 84 rfl (by kernel_rfl)) (by grind))
        | 15, ht =>
          cases ht
          exact so_val rfl rfl (wanted_free rfl) (rn_not (b := true) rfl (show tG a 85 <| .bool true from hd 14 85 rfl (by kernel_rfl))) rfl
        | 16, ht =>
          cases ht
          exact so_val rfl rfl (wanted_free rfl) (rn_move rfl (show tG a 86 <| .bool false from hd 15 86 rfl (by kernel_rfl))) rfl
        | 17, ht =>
          cases ht
          exact so_val rfl rfl ((wanted_if rfl rfl rfl (show tG a 87 <| .bool false from hd 16 87 rfl (by kernel_rfl))).trans rfl) (rn_load rfl (S.at 4 rfl) (S.bx 0 rfl) Tryz.underlying27 rfl (vs := (aL b0_ x0_ y0_)) sz_Rat rfl) rfl
        | 18, ht =>
          cases ht
          exact so_val rfl rfl ((wanted_if rfl rfl rfl (show tG a 87 <| .bool false from hd 16 87 rfl (by kernel_rfl))).trans rfl) (rn_load rfl (S.at 4 rfl) (S.bx 0 rfl) Tryz.underlying27 rfl (vs := (aL b0_ x0_ y0_)) sz_Rat rfl) rfl
        | 19, ht =>
          cases ht
          exact so_call rfl rfl ((wanted_if rfl rfl rfl (show tG a 87 <| .bool false from hd 16 87 rfl (by kernel_rfl))).trans rfl) (rn_call1 ⟨_, rfl⟩ (show tG a 89 <| (aG b0_ x0_ y0_) from hd 18 89 rfl (by kernel_rfl)) (enters_of Tryz.func25 (by kernel_rfl) rfl)) (p7Neg (T.keep S.below) (show Q1 40 (q0) ((aG b0_ x0_ y0_)) _ from ⟨b0_, x0_, y0_, rfl, hqa0, hkx0, hky0, (S.num 8 rfl), (S.num 9 rfl)⟩) (by omega))
        | 20, ht =>
          cases ht
          exact so_lays rfl rfl ((wanted_if rfl rfl rfl (show tG a 87 <| .bool false from hd 16 87 rfl (by kernel_rfl))).trans rfl) (ly_qrow2 rfl (show tG a 88 <| (aG b0_ x0_ y0_) from hd 17 88 rfl (by kernel_rfl)) rfl (show Q1 40 (q0) ((aG b0_ x0_ y0_)) _ from ⟨b0_, x0_, y0_, rfl, hqa0, hkx0, hky0, (S.num 8 rfl), (S.num 9 rfl)⟩) ((show QT 40 (-q0) (a.tmps.getD 90 undef) V from hd 19 90 rfl (by kernel_rfl))).any)
        | 21, ht =>
          cases ht
          exact so_call rfl rfl ((wanted_if rfl rfl rfl (show tG a 87 <| .bool false from hd 16 87 rfl (by kernel_rfl))).trans rfl) (rn_call1 ⟨_, rfl⟩ rfl (enters_of Tryz.func27 (by kernel_rfl) rfl)) (AM.add2 (T.keep S.below) S.below ((show QL 40 6 ([q0, -q0]) (a.tmps.getD 91 undef) V from hd 20 91 rfl (by kernel_rfl))).row (by omega))
        | 22, ht =>
          cases ht
          exact so_call rfl rfl ((wanted_if rfl rfl rfl (show tG a 87 <| .bool false from hd 16 87 rfl (by kernel_rfl))).trans rfl) (rn_callc ⟨_, rfl⟩  (enters_of Tryz.func21 (by kernel_rfl) rfl)) p7Of0
        | 23, ht =>
          cases ht
          exact so_call rfl rfl ((wanted_if rfl rfl rfl (show tG a 87 <| .bool false from hd 16 87 rfl (by kernel_rfl))).trans rfl) (rn_call2 ⟨_, rfl⟩ rfl rfl (enters_of Tryz.func14 (by kernel_rfl) rfl)) (l7same (show QT 81 (q0 + (-q0)) (a.tmps.getD 92 undef) V from hd 21 92 rfl (by kernel_rfl)) (show QT 1 ((0 : Rat)) (a.tmps.getD 93 undef) V from hd 22 93 rfl (by kernel_rfl)) (by grind))
        | 24, ht =>
          cases ht
          exact so_val rfl rfl ((wanted_if rfl rfl rfl (show tG a 87 <| .bool false from hd 16 87 rfl (by kernel_rfl))).trans rfl) (rn_not (b := true) rfl (show tG a 94 <| .bool true from hd 23 94 rfl (by kernel_rfl))) rfl
        | 25, ht =>
          cases ht
          exact so_val rfl rfl (wanted_free rfl) (rn_pick false rfl (show tG a 87 <| .bool false from hd 16 87 rfl (by kernel_rfl)) (show tG a 95 <| .bool false from hd 24 95 rfl (by kernel_rfl))) rfl
        | 26, ht =>
          cases ht
          exact so_val rfl rfl (wanted_free rfl) (rn_move rfl (show tG a 96 <| .bool false from hd 25 96 rfl (by kernel_rfl))) rfl
        | 27, ht =>
          cases ht
          exact so_val rfl rfl ((wanted_if rfl rfl rfl (show tG a 97 <| .bool false from hd 26 97 rfl (by kernel_rfl))).trans rfl) (rn_load rfl (S.at 1 rfl) (S.bx 3 rfl) Tryz.underlying27 rfl (vs := (aL b1 x1 y1)) sz_Rat rfl) rfl
        | 28, ht =>
          cases ht
          exact so_val rfl rfl ((wanted_if rfl rfl rfl (show tG a 97 <| .bool false from hd 26 97 rfl (by kernel_rfl))).trans rfl) (rn_load rfl (S.at 3 rfl) (S.bx 1 rfl) Tryz.underlying27 rfl (vs := (aL b1_ x1_ y1_)) sz_Rat rfl) rfl
        | 29, ht =>
          cases ht
          exact so_call rfl rfl ((wanted_if rfl rfl rfl (show tG a 97 <| .bool false from hd 26 97 rfl (by kernel_rfl))).trans rfl) (rn_call2 ⟨_, rfl⟩ (show tG a 98 <| (aG b1 x1 y1) from hd 27 98 rfl (by kernel_rfl)) (show tG a 99 <| (aG b1_ x1_ y1_) from hd 28 99 rfl (by kernel_rfl)) (enters_of Tryz.func33 (by kernel_rfl) rfl)) (p7Sub (T.keep S.below) (show QT 81 (q0 + q1) ((aG b1 x1 y1)) _ from ⟨b1, x1, y1, rfl, hq1, hk1, hk2, (S.num 3 rfl), (S.num 2 rfl)⟩).any (show Q1 40 (q1) ((aG b1_ x1_ y1_)) _ from ⟨b1_, x1_, y1_, rfl, hqa1, hkx1, hky1, (S.num 6 rfl), (S.num 7 rfl)⟩) (by omega) (by omega))
        | 30, ht =>
          cases ht
          exact so_val rfl rfl ((wanted_if rfl rfl rfl (show tG a 97 <| .bool false from hd 26 97 rfl (by kernel_rfl))).trans rfl) (rn_load rfl (S.at 4 rfl) (S.bx 0 rfl) Tryz.underlying27 rfl (vs := (aL b0_ x0_ y0_)) sz_Rat rfl) rfl
        | 31, ht =>
          cases ht
          exact so_call rfl rfl ((wanted_if rfl rfl rfl (show tG a 97 <| .bool false from hd 26 97 rfl (by kernel_rfl))).trans rfl) (rn_call1 ⟨_, rfl⟩ (show tG a 101 <| (aG b0_ x0_ y0_) from hd 30 101 rfl (by kernel_rfl)) (enters_of Tryz.func23 (by kernel_rfl) rfl)) (p7Norm (T.keep S.below) (show Q1 40 (q0) ((aG b0_ x0_ y0_)) _ from ⟨b0_, x0_, y0_, rfl, hqa0, hkx0, hky0, (S.num 8 rfl), (S.num 9 rfl)⟩) (by omega))
        | 32, ht =>
          cases ht
          exact so_call rfl rfl ((wanted_if rfl rfl rfl (show tG a 97 <| .bool false from hd 26 97 rfl (by kernel_rfl))).trans rfl) (rn_call2 ⟨_, rfl⟩ rfl rfl (enters_of Tryz.func14 (by kernel_rfl) rfl)) (l7same (show QT 122 ((q0 + q1) - q1) (a.tmps.getD 100 undef) V from hd 29 100 rfl (by kernel_rfl)) (show QT 40 (q0) (a.tmps.getD 102 undef) V from hd 31 102 rfl (by kernel_rfl)) (by grind))
        | 33, ht =>
          cases ht
          exact so_val rfl rfl ((wanted_if rfl rfl rfl (show tG a 97 <| .bool false from hd 26 97 rfl (by kernel_rfl))).trans rfl) (rn_not (b := true) rfl (show tG a 103 <| .bool true from hd 32 103 rfl (by kernel_rfl))) rfl
        | 34, ht =>
          cases ht
          exact so_val rfl rfl (wanted_free rfl) (rn_pick false rfl (show tG a 97 <| .bool false from hd 26 97 rfl (by kernel_rfl)) (show tG a 104 <| .bool false from hd 33 104 rfl (by kernel_rfl))) rfl
        | 35, ht =>
          cases ht
          exact so_val rfl rfl (wanted_free rfl) (rn_move rfl (show tG a 105 <| .bool false from hd 34 105 rfl (by kernel_rfl))) rfl
        | 36, ht =>
          cases ht
          exact so_val rfl rfl ((wanted_if rfl rfl rfl (show tG a 106 <| .bool false from hd 35 106 rfl (by kernel_rfl))).trans rfl) (rn_load rfl (S.at 4 rfl) (S.bx 0 rfl) Tryz.underlying27 rfl (vs := (aL b0_ x0_ y0_)) sz_Rat rfl) rfl
        | 37, ht =>
          cases ht
          exact so_val rfl rfl ((wanted_if rfl rfl rfl (show tG a 106 <| .bool false from hd 35 106 rfl (by kernel_rfl))).trans rfl) (rn_load rfl (S.at 3 rfl) (S.bx 1 rfl) Tryz.underlying27 rfl (vs := (aL b1_ x1_ y1_)) sz_Rat rfl) rfl
        | 38, ht =>
          cases ht
          exact so_call rfl rfl ((wanted_if rfl rfl rfl (show tG a 106 <| .bool false from hd 35 106 rfl (by kernel_rfl))).trans rfl) (rn_call2 ⟨_, rfl⟩ (show tG a 107 <| (aG b0_ x0_ y0_) from hd 36 107 rfl (by kernel_rfl)) (show tG a 108 <| (aG b1_ x1_ y1_) from hd 37 108 rfl (by kernel_rfl)) (enters_of Tryz.func35 (by kernel_rfl) rfl)) (p7Mid (T.keep S.below) (show Q1 40 (q0) ((aG b0_ x0_ y0_)) _ from ⟨b0_, x0_, y0_, rfl, hqa0, hkx0, hky0, (S.num 8 rfl), (S.num 9 rfl)⟩) (show Q1 40 (q1) ((aG b1_ x1_ y1_)) _ from ⟨b1_, x1_, y1_, rfl, hqa1, hkx1, hky1, (S.num 6 rfl), (S.num 7 rfl)⟩) (by omega) (by omega))
        | 39, ht =>
          cases ht
          exact so_val rfl rfl ((wanted_if rfl rfl rfl (show tG a 106 <| .bool false from hd 35 106 rfl (by kernel_rfl))).trans rfl) (rn_load rfl (S.at 4 rfl) (S.bx 0 rfl) Tryz.underlying27 rfl (vs := (aL b0_ x0_ y0_)) sz_Rat rfl) rfl
        | 40, ht =>
          cases ht
          exact so_val rfl rfl ((wanted_if rfl rfl rfl (show tG a 106 <| .bool false from hd 35 106 rfl (by kernel_rfl))).trans rfl) (rn_load rfl (S.at 3 rfl) (S.bx 1 rfl) Tryz.underlying27 rfl (vs := (aL b1_ x1_ y1_)) sz_Rat rfl) rfl
        | 41, ht =>
          cases ht
          exact so_call rfl rfl ((wanted_if rfl rfl rfl (show tG a 106 <| .bool false from hd 35 106 rfl (by kernel_rfl))).trans rfl) (rn_call2 ⟨_, rfl⟩ (show tG a 110 <| (aG b0_ x0_ y0_) from hd 39 110 rfl (by kernel_rfl)) (show tG a 111 <| (aG b1_ x1_ y1_) from hd 40 111 rfl (by kernel_rfl)) (enters_of Tryz.func35 (by kernel_rfl) rfl)) (p7Mid (T.keep S.below) (show Q1 40 (q0) ((aG b0_ x0_ y0_)) _ from ⟨b0_, x0_, y0_, rfl, hqa0, hkx0, hky0, (S.num 8 rfl), (S.num 9 rfl)⟩) (show Q1 40 (q1) ((aG b1_ x1_ y1_)) _ from ⟨b1_, x1_, y1_, rfl, hqa1, hkx1, hky1, (S.num 6 rfl), (S.num 7 rfl)⟩) (by omega) (by omega))
        | 42, ht =>
          cases ht
          exact so_lays rfl rfl ((wanted_if rfl rfl rfl (show tG a 106 <| .bool false from hd 35 106 rfl (by kernel_rfl))).trans rfl) (ly_qrow2 rfl rfl rfl ((show QT 82 ((q0 + q1) / 2) (a.tmps.getD 109 undef) V from hd 38 109 rfl (by kernel_rfl))).any ((show QT 82 ((q0 + q1) / 2) (a.tmps.getD 112 undef) V from hd 41 112 rfl (by kernel_rfl))).any)
        | 43, ht =>
          cases ht
          exact so_call rfl rfl ((wanted_if rfl rfl rfl (show tG a 106 <| .bool false from hd 35 106 rfl (by kernel_rfl))).trans rfl) (rn_call1 ⟨_, rfl⟩ rfl (enters_of Tryz.func27 (by kernel_rfl) rfl)) (AM.add2 (T.keep S.below) S.below ((show QL 82 6 ([(q0 + q1) / 2, (q0 + q1) / 2]) (a.tmps.getD 113 undef) V from hd 42 113 rfl (by kernel_rfl))).row (by omega))
        | 44, ht =>
          cases ht
          exact so_val rfl rfl ((wanted_if rfl rfl rfl (show tG a 106 <| .bool false from hd 35 106 rfl (by kernel_rfl))).trans rfl) (rn_load rfl (S.at 1 rfl) (S.bx 3 rfl) Tryz.underlying27 rfl (vs := (aL b1 x1 y1)) sz_Rat rfl) rfl
        | 45, ht =>
          cases ht
          exact so_call rfl rfl ((wanted_if rfl rfl rfl (show tG a 106 <| .bool false from hd 35 106 rfl (by kernel_rfl))).trans rfl) (rn_call2 ⟨_, rfl⟩ rfl (show tG a 115 <| (aG b1 x1 y1) from hd 44 115 rfl (by kernel_rfl)) (enters_of Tryz.func14 (by kernel_rfl) rfl)) (l7same (show QT 165 (((q0 + q1) / 2) + ((q0 + q1) / 2)) (a.tmps.getD 114 undef) V from hd 43 114 rfl (by kernel_rfl)) (show QT 81 (q0 + q1) ((aG b1 x1 y1)) _ from ⟨b1, x1, y1, rfl, hq1, hk1, hk2, (S.num 3 rfl), (S.num 2 rfl)⟩) (by grind))
        | 46, ht =>
          cases ht
          exact so_val rfl rfl ((wanted_if rfl rfl rfl (show tG a 106 <| .bool false from hd 35 106 rfl (by kernel_rfl))).trans rfl) (rn_not (b := true) rfl (show tG a 116 <| .bool true from hd 45 116 rfl (by kernel_rfl))) rfl
        | 47, ht =>
          cases ht
          exact so_val rfl rfl (wanted_free rfl) (rn_pick false rfl (show tG a 106 <| .bool false from hd 35 106 rfl (by kernel_rfl)) (show tG a 117 <| .bool false from hd 46 117 rfl (by kernel_rfl))) rfl
        | k + 48, ht => simp at ht
      · intro a3 V8 S hB hf
        have S := S.add (show a3.tmps.getD 118 undef = .bool false from hf 47 118 rfl)
        clear hf S0
        show wpList _ _ _ [] _ _
        refine hK8 _ _ ?_
        refine wp_cond_false (S.at 0 rfl) ?_
        refine wp_skip ?_
        refine hK7 _ _ ?_
        refine wp_seq_k fun K9 hK9 => ?_
        have S := S.keep [8, 4, 3] (ls' := [(8, pT g5 0), (4, pT g2 0), (3, pT g1 0)]) rfl
        refine frm_plain ?_
        refine tl_val S (v := (aG b2 x2 y2)) (rn_load rfl (S.at 0 rfl) (S.bx 4 rfl) Tryz.underlying27 rfl (vs := (aL b2 x2 y2)) sz_Rat rfl) rfl rfl (by decide) (ls' := [(8, pT g5 0), (4, pT g2 0), (3, pT g1 0)]) rfl (fun a S => ?_)
        refine tl_val S (v := (aG b1_ x1_ y1_)) (rn_load rfl (S.at 2 rfl) (S.bx 1 rfl) Tryz.underlying27 rfl (vs := (aL b1_ x1_ y1_)) sz_Rat rfl) rfl rfl (by decide) (ls' := [(120, (aG b2 x2 y2)), (8, pT g5 0), (4, pT g2 0), (3, pT g1 0)]) rfl (fun a S => ?_)
        refine tl_call S (rn_call2 ⟨_, rfl⟩ (S.at 1 rfl) (S.at 0 rfl) (enters_of Tryz.func12 (by kernel_rfl) rfl)) (F := QE 120 ((q0 * q1) / q1) (erq q1)) (p7Quo (T.keep S.below) (show QT 80 (q0 * q1) ((aG b2 x2 y2)) _ from ⟨b2, x2, y2, rfl, hq2, hk3, hk4, (S.num 1 rfl), (S.num 0 rfl)⟩).any (show Q1 40 (q1) ((aG b1_ x1_ y1_)) _ from ⟨b1_, x1_, y1_, rfl, hqa1, hkx1, hky1, (S.num 6 rfl), (S.num 7 rfl)⟩) (by omega) (by omega)) rfl rfl (by decide) (ls' := [(121, (aG b1_ x1_ y1_)), (120, (aG b2 x2 y2)), (8, pT g5 0), (4, pT g2 0), (3, pT g1 0)]) rfl (fun v a V9 hF hb S => ?_)
        obtain ⟨b3, x3, y3, rfl, hq3, hk5, hk6, ok5, ok6⟩ := hF
        have S := S.know ok5
        have S := S.know ok6
        refine tl_val S (v := .tuple #[(aG b3 x3 y3), .int .i64 (erq q1)]) (rn_move rfl (S.at 0 rfl)) rfl rfl (by decide) (ls' := [(122, .tuple #[(aG b3 x3 y3), .int .i64 (erq q1)]), (121, (aG b1_ x1_ y1_)), (120, (aG b2 x2 y2)), (8, pT g5 0), (4, pT g2 0), (3, pT g1 0)]) rfl (fun a S => ?_)
        refine tl_val S (v := (aG b3 x3 y3)) (rn_extract rfl (S.at 0 rfl) rfl) rfl rfl (by decide) (ls' := [(119, .tuple #[(aG b3 x3 y3), .int .i64 (erq q1)]), (122, .tuple #[(aG b3 x3 y3), .int .i64 (erq q1)]), (121, (aG b1_ x1_ y1_)), (120, (aG b2 x2 y2)), (8, pT g5 0), (4, pT g2 0), (3, pT g1 0)]) rfl (fun a S => ?_)
        refine tl_val S (v := .int .i64 (erq q1)) (rn_extract rfl (S.at 1 rfl) rfl) rfl rfl (by decide) (ls' := [(123, (aG b3 x3 y3)), (119, .tuple #[(aG b3 x3 y3), .int .i64 (erq q1)]), (122, .tuple #[(aG b3 x3 y3), .int .i64 (erq q1)]), (121, (aG b1_ x1_ y1_)), (120, (aG b2 x2 y2)), (8, pT g5 0), (4, pT g2 0), (3, pT g1 0)]) rfl (fun a S => ?_)
        refine tl_box S (T := 27) (cs := [.bool false, .slice none 0 0, .slice none 0 0]) (rn_alloc rfl (Tryz.zeroValue27 _) rfl) rfl rfl rfl (by decide) (ls' := [(124, .int .i64 (erq q1)), (123, (aG b3 x3 y3)), (119, .tuple #[(aG b3 x3 y3), .int .i64 (erq q1)]), (122, .tuple #[(aG b3 x3 y3), .int .i64 (erq q1)]), (121, (aG b1_ x1_ y1_)), (120, (aG b2 x2 y2)), (8, pT g5 0), (4, pT g2 0), (3, pT g1 0)]) rfl (lb' := fun g6 => [⟨g1, 27, (aL b0_ x0_ y0_)⟩, ⟨g2, 27, (aL b1_ x1_ y1_)⟩, ⟨g3, 27, (aL b2_ x2_ y2_)⟩, ⟨g4, 27, (aL b1 x1 y1)⟩, ⟨g5, 27, (aL b2 x2 y2)⟩, ⟨g6, 27, [.bool false, .slice none 0 0, .slice none 0 0]⟩]) (fun _ => rfl) (fun g6 a V10 hgg6 S => ?_)
        refine tl_store S (i := 5) (vs := (aL b3 x3 y3)) rfl (fun ht => rn_store rfl (S.at 0 rfl) (S.at 2 rfl) sz_Rat rfl (Nat.le_of_ble_eq_true rfl) ht) (Nat.le_of_ble_eq_true rfl) rfl rfl rfl (lb' := [⟨g1, 27, (aL b0_ x0_ y0_)⟩, ⟨g2, 27, (aL b1_ x1_ y1_)⟩, ⟨g3, 27, (aL b2_ x2_ y2_)⟩, ⟨g4, 27, (aL b1 x1 y1)⟩, ⟨g5, 27, (aL b2 x2 y2)⟩, ⟨g6, 27, (aL b3 x3 y3)⟩]) rfl (fun V11 S => ?_)
        refine tl_val S (v := .int .i64 (erq q1)) (rn_assign rfl (S.at 1 rfl)) rfl rfl (by decide) (ls' := [(9, pT g6 0), (124, .int .i64 (erq q1)), (123, (aG b3 x3 y3)), (119, .tuple #[(aG b3 x3 y3), .int .i64 (erq q1)]), (122, .tuple #[(aG b3 x3 y3), .int .i64 (erq q1)]), (121, (aG b1_ x1_ y1_)), (120, (aG b2 x2 y2)), (8, pT g5 0), (4, pT g2 0), (3, pT g1 0)]) rfl (fun a S => ?_)
        refine hK9 _ _ ?_
        refine wp_seq_k fun K10 hK10 => ?_
        refine wp_seq_k fun K11 hK11 => ?_
        have S := S.keep [10, 9, 8, 4, 3] (ls' := [(10, .int .i64 (erq q1)), (9, pT g6 0), (8, pT g5 0), (4, pT g2 0), (3, pT g1 0)]) rfl
        refine frm_plain ?_
        refine tl_val S (v := (aG b1_ x1_ y1_)) (rn_load rfl (S.at 3 rfl) (S.bx 1 rfl) Tryz.underlying27 rfl (vs := (aL b1_ x1_ y1_)) sz_Rat rfl) rfl rfl (by decide) (ls' := [(10, .int .i64 (erq q1)), (9, pT g6 0), (8, pT g5 0), (4, pT g2 0), (3, pT g1 0)]) rfl (fun a S => ?_)
        refine tl_call S (rn_call1 ⟨_, rfl⟩ (S.at 0 rfl) (enters_of Tryz.func15 (by kernel_rfl) rfl)) (F := (fun v _ => v = .int .i64 (cmpR q1 0))) (p7Sign (T.keep S.below) (show Q1 40 (q1) ((aG b1_ x1_ y1_)) _ from ⟨b1_, x1_, y1_, rfl, hqa1, hkx1, hky1, (S.num 8 rfl), (S.num 9 rfl)⟩) (by omega)) rfl rfl (by decide) (ls' := [(125, (aG b1_ x1_ y1_)), (10, .int .i64 (erq q1)), (9, pT g6 0), (8, pT g5 0), (4, pT g2 0), (3, pT g1 0)]) rfl (fun v a V12 hF hb S => ?_)
        subst hF
        refine tl_val S (v := .bool (decide (cmpR q1 0 = 0))) (rn_eql _ (by decide) rfl (S.at 0 rfl) rfl) rfl rfl (by decide) (ls' := [(126, .int .i64 (cmpR q1 0)), (125, (aG b1_ x1_ y1_)), (10, .int .i64 (erq q1)), (9, pT g6 0), (8, pT g5 0), (4, pT g2 0), (3, pT g1 0)]) rfl (fun a S => ?_)
        refine hK11 _ _ ?_
        rcases Bool.eq_false_or_eq_true (decide (cmpR q1 0 = 0)) with hc127 | hc127
        · refine wp_cond_true ((S.at 0 rfl).trans (congrArg Value.bool hc127)) ?_
          refine wp_seq_k fun K12 hK12 => ?_
          have S := S.keep [10] (ls' := [(10, .int .i64 (erq q1))]) rfl
          refine frm_plain ?_
          refine tl_val S (v := .int .i64 (erq q1)) (rn_move rfl (S.at 0 rfl)) rfl rfl (by decide) (ls' := [(10, .int .i64 (erq q1))]) rfl (fun a S => ?_)
          refine tl_val S (v := .bool true) (rn_bool (rn_eql _ (by decide) rfl (S.at 0 rfl) rfl) (show (decide (erq q1 = 30)) = true from (by rw [erq_of (z_of hc127)]; rfl))) rfl rfl (by decide) (ls' := [(128, .int .i64 (erq q1)), (10, .int .i64 (erq q1))]) rfl (fun a S => ?_)
          refine tl_val S (v := .bool true) (rn_move rfl (S.at 0 rfl)) rfl rfl (by decide) (ls' := [(129, .bool true), (128, .int .i64 (erq q1)), (10, .int .i64 (erq q1))]) rfl (fun a S => ?_)
          refine tl_callg S rfl rfl rfl (S.at 0 rfl) rfl (rn_call0 ⟨_, rfl⟩  (enters_of Tryz.func9 (by kernel_rfl) rfl)) (F := (fun v _ => v = .bool true)) (l7wakes (T.keep S.below)) rfl (by decide) (ls' := [(130, .bool true), (129, .bool true), (128, .int .i64 (erq q1)), (10, .int .i64 (erq q1))]) rfl (fun v a V13 hF hb S => ?_)
          subst hF
          refine tl_val S (v := .bool true) (rn_pick true rfl (S.at 1 rfl) (S.at 0 rfl)) rfl rfl (by decide) (ls' := [(131, .bool true), (130, .bool true), (129, .bool true), (128, .int .i64 (erq q1)), (10, .int .i64 (erq q1))]) rfl (fun a S => ?_)
          refine tl_val S (v := .bool true) (rn_assign rfl (S.at 0 rfl)) rfl rfl (by decide) (ls' := [(132, .bool true), (131, .bool true), (130, .bool true), (129, .bool true), (128, .int .i64 (erq q1)), (10, .int .i64 (erq q1))]) rfl (fun a S => ?_)
          refine hK12 _ _ ?_
          refine wp_ret ?_
          exact frm_ret1 rfl S (S.at 0 rfl) ⟨_, rfl, rfl, S.below⟩
        · refine wp_cond_false ((S.at 0 rfl).trans (congrArg Value.bool hc127)) ?_
          refine wp_skip ?_
          refine hK10 _ _ ?_
          refine wp_seq_k fun K13 hK13 => ?_
          have S := S.keep [10, 9, 8, 4, 3] (ls' := [(10, .int .i64 (erq q1)), (9, pT g6 0), (8, pT g5 0), (4, pT g2 0), (3, pT g1 0)]) rfl
          obtain ⟨W4, hW4⟩ : ∃ W, W = V12 := ⟨_, rfl⟩
          rw [← hW4] at S ⊢
          have S0 := S
          refine frm_region 21 [133, 134, 135, 136, 137, 138, 139, 140, 141, 142, 143, 144, 145, 146, 147, 148, 149, 150, 151, 152, 153] (fun i v V => match i with
              | 0 => v = .int .i64 (erq q1)
              | 1 => v = .bool true
              | 2 => v = .bool true
              | 3 => v = (aG b3 x3 y3)
              | 4 => v = (aG b0_ x0_ y0_)
              | 5 => QT 40 (q0) v V
              | 6 => v = .bool true
              | 7 => v = .bool true
              | 8 => v = .bool true
              | 9 => v = (aG b2 x2 y2)
              | 10 => v = .int .i64 (cmpR (q0 * q1) 0)
              | 11 => v = (aG b0_ x0_ y0_)
              | 12 => v = .int .i64 (cmpR q0 0)
              | 13 => v = (aG b1_ x1_ y1_)
              | 14 => v = .int .i64 (cmpR q1 0)
              | 15 => v = .int .i64 ((cmpR q0 0) * (cmpR q1 0))
              | 16 => v = .bool true
              | 17 => v = .bool true
              | 18 => v = .bool true
              | 19 => v = .bool true
              | _ => v = .bool true) S (by kernel_rfl) (by kernel_rfl) rfl (by decide) rfl rfl ?_ ?_ ?_
          · intro i v V V2 hf hb
            match i, hf with
            | 0, hf => exact hf
            | 1, hf => exact hf
            | 2, hf => exact hf
            | 3, hf => exact hf
            | 4, hf => exact hf
            | 5, hf => exact QT.keep hf hb
            | 6, hf => exact hf
            | 7, hf => exact hf
            | 8, hf => exact hf
            | 9, hf => exact hf
            | 10, hf => exact hf
            | 11, hf => exact hf
            | 12, hf => exact hf
            | 13, hf => exact hf
            | 14, hf => exact hf
            | 15, hf => exact hf
            | 16, hf => exact hf
            | 17, hf => exact hf
            | 18, hf => exact hf
            | 19, hf => exact hf
            | _ + 20, hf => exact hf
          · intro i t ht a V S hB hd
            match i, ht with
            | 0, ht =>
              cases ht
              exact so_val rfl rfl (wanted_free rfl) (rn_move rfl (S.at 0 rfl)) rfl
            | 1, ht =>
              cases ht
              exact so_val rfl rfl (wanted_free rfl) (rn_bool (rn_eql _ (by decide) rfl (show tG a 133 <| .int .i64 (erq q1) from hd 0 133 rfl (by kernel_rfl)) rfl) (show (decide (erq q1 = 0)) = true from (by rw [erq_no2 (nz_of hc127)]; rfl))) rfl
            | 2, ht =>
              cases ht
              exact so_val rfl rfl (wanted_free rfl) (rn_move rfl (show tG a 134 <| .bool true from hd 1 134 rfl (by kernel_rfl))) rfl
            | 3, ht =>
              cases ht
              exact so_val rfl rfl ((wanted_if rfl rfl rfl (show tG a 135 <| .bool true from hd 2 135 rfl (by kernel_rfl))).trans rfl) (rn_load rfl (S.at 1 rfl) (S.bx 5 rfl) Tryz.underlying27 rfl (vs := (aL b3 x3 y3)) sz_Rat rfl) rfl
            | 4, ht =>
              cases ht
              exact so_val rfl rfl ((wanted_if rfl rfl rfl (show tG a 135 <| .bool true from hd 2 135 rfl (by kernel_rfl))).trans rfl) (rn_load rfl (S.at 4 rfl) (S.bx 0 rfl) Tryz.underlying27 rfl (vs := (aL b0_ x0_ y0_)) sz_Rat rfl) rfl
            | 5, ht =>
              cases ht
              exact so_call rfl rfl ((wanted_if rfl rfl rfl (show tG a 135 <| .bool true from hd 2 135 rfl (by kernel_rfl))).trans rfl) (rn_call1 ⟨_, rfl⟩ (show tG a 137 <| (aG b0_ x0_ y0_) from hd 4 137 rfl (by kernel_rfl)) (enters_of Tryz.func23 (by kernel_rfl) rfl)) (p7Norm (T.keep S.below) (show Q1 40 (q0) ((aG b0_ x0_ y0_)) _ from ⟨b0_, x0_, y0_, rfl, hqa0, hkx0, hky0, (S.num 10 rfl), (S.num 11 rfl)⟩) (by omega))
            | 6, ht =>
              cases ht
              exact so_call rfl rfl ((wanted_if rfl rfl rfl (show tG a 135 <| .bool true from hd 2 135 rfl (by kernel_rfl))).trans rfl) (rn_call2 ⟨_, rfl⟩ (show tG a 136 <| (aG b3 x3 y3) from hd 3 136 rfl (by kernel_rfl)) rfl (enters_of Tryz.func14 (by kernel_rfl) rfl)) (l7same (show QT 120 ((q0 * q1) / q1) ((aG b3 x3 y3)) _ from ⟨b3, x3, y3, rfl, hq3, hk5, hk6, (S.num 1 rfl), (S.num 0 rfl)⟩) (show QT 40 (q0) (a.tmps.getD 138 undef) V from hd 5 138 rfl (by kernel_rfl)) (ratR_quo q0 q1 (nz_of hc127)))
            | 7, ht =>
              cases ht
              exact so_val rfl rfl (wanted_free rfl) (rn_pick true rfl (show tG a 135 <| .bool true from hd 2 135 rfl (by kernel_rfl)) (show tG a 139 <| .bool true from hd 6 139 rfl (by kernel_rfl))) rfl
            | 8, ht =>
              cases ht
              exact so_val rfl rfl (wanted_free rfl) (rn_move rfl (show tG a 140 <| .bool true from hd 7 140 rfl (by kernel_rfl))) rfl
            | 9, ht =>
              cases ht
              exact so_val rfl rfl ((wanted_if rfl rfl rfl (show tG a 141 <| .bool true from hd 8 141 rfl (by kernel_rfl))).trans rfl) (rn_load rfl (S.at 2 rfl) (S.bx 4 rfl) Tryz.underlying27 rfl (vs := (aL b2 x2 y2)) sz_Rat rfl) rfl
            | 10, ht =>
              cases ht
              exact so_call rfl rfl ((wanted_if rfl rfl rfl (show tG a 141 <| .bool true from hd 8 141 rfl (by kernel_rfl))).trans rfl) (rn_call1 ⟨_, rfl⟩ (show tG a 142 <| (aG b2 x2 y2) from hd 9 142 rfl (by kernel_rfl)) (enters_of Tryz.func15 (by kernel_rfl) rfl)) (p7Sign (T.keep S.below) (show QT 80 (q0 * q1) ((aG b2 x2 y2)) _ from ⟨b2, x2, y2, rfl, hq2, hk3, hk4, (S.num 3 rfl), (S.num 2 rfl)⟩).any (by omega))
            | 11, ht =>
              cases ht
              exact so_val rfl rfl ((wanted_if rfl rfl rfl (show tG a 141 <| .bool true from hd 8 141 rfl (by kernel_rfl))).trans rfl) (rn_load rfl (S.at 4 rfl) (S.bx 0 rfl) Tryz.underlying27 rfl (vs := (aL b0_ x0_ y0_)) sz_Rat rfl) rfl
            | 12, ht =>
              cases ht
              exact so_call rfl rfl ((wanted_if rfl rfl rfl (show tG a 141 <| .bool true from hd 8 141 rfl (by kernel_rfl))).trans rfl) (rn_call1 ⟨_, rfl⟩ (show tG a 144 <| (aG b0_ x0_ y0_) from hd 11 144 rfl (by kernel_rfl)) (enters_of Tryz.func15 (by kernel_rfl) rfl)) (p7Sign (T.keep S.below) (show Q1 40 (q0) ((aG b0_ x0_ y0_)) _ from ⟨b0_, x0_, y0_, rfl, hqa0, hkx0, hky0, (S.num 10 rfl), (S.num 11 rfl)⟩) (by omega))
            | 13, ht =>
              cases ht
              exact so_val rfl rfl ((wanted_if rfl rfl rfl (show tG a 141 <| .bool true from hd 8 141 rfl (by kernel_rfl))).trans rfl) (rn_load rfl (S.at 3 rfl) (S.bx 1 rfl) Tryz.underlying27 rfl (vs := (aL b1_ x1_ y1_)) sz_Rat rfl) rfl
            | 14, ht =>
              cases ht
              exact so_call rfl rfl ((wanted_if rfl rfl rfl (show tG a 141 <| .bool true from hd 8 141 rfl (by kernel_rfl))).trans rfl) (rn_call1 ⟨_, rfl⟩ (show tG a 146 <| (aG b1_ x1_ y1_) from hd 13 146 rfl (by kernel_rfl)) (enters_of Tryz.func15 (by kernel_rfl) rfl)) (p7Sign (T.keep S.below) (show Q1 40 (q1) ((aG b1_ x1_ y1_)) _ from ⟨b1_, x1_, y1_, rfl, hqa1, hkx1, hky1, (S.num 8 rfl), (S.num 9 rfl)⟩) (by omega))
            | 15, ht =>
              cases ht
              exact so_val rfl rfl ((wanted_if rfl rfl rfl (show tG a 141 <| .bool true from hd 8 141 rfl (by kernel_rfl))).trans rfl) (rn_mul rfl (show tG a 145 <| .int .i64 (cmpR q0 0) from hd 12 145 rfl (by kernel_rfl)) (show tG a 147 <| .int .i64 (cmpR q1 0) from hd 14 147 rfl (by kernel_rfl)) (inr_cc _ _ _ _)) rfl
            | 16, ht =>
              cases ht
              exact so_val rfl rfl ((wanted_if rfl rfl rfl (show tG a 141 <| .bool true from hd 8 141 rfl (by kernel_rfl))).trans rfl) (rn_bool (rn_eql _ (by decide) rfl (show tG a 143 <| .int .i64 (cmpR (q0 * q1) 0) from hd 10 143 rfl (by kernel_rfl)) (show tG a 148 <| .int .i64 ((cmpR q0 0) * (cmpR q1 0)) from hd 15 148 rfl (by kernel_rfl))) (show (decide (cmpR (q0 * q1) 0 = (cmpR q0 0) * (cmpR q1 0))) = true from (decide_eq_true (sign_mulR q0 q1)))) rfl
            | 17, ht =>
              cases ht
              exact so_val rfl rfl (wanted_free rfl) (rn_pick true rfl (show tG a 141 <| .bool true from hd 8 141 rfl (by kernel_rfl)) (show tG a 149 <| .bool true from hd 16 149 rfl (by kernel_rfl))) rfl
            | 18, ht =>
              cases ht
              exact so_val rfl rfl (wanted_free rfl) (rn_move rfl (show tG a 150 <| .bool true from hd 17 150 rfl (by kernel_rfl))) rfl
            | 19, ht =>
              cases ht
              exact so_call rfl rfl ((wanted_if rfl rfl rfl (show tG a 151 <| .bool true from hd 18 151 rfl (by kernel_rfl))).trans rfl) (rn_call0 ⟨_, rfl⟩  (enters_of Tryz.func9 (by kernel_rfl) rfl)) (l7wakes (T.keep S.below))
            | 20, ht =>
              cases ht
              exact so_val rfl rfl (wanted_free rfl) (rn_pick true rfl (show tG a 151 <| .bool true from hd 18 151 rfl (by kernel_rfl)) (show tG a 152 <| .bool true from hd 19 152 rfl (by kernel_rfl))) rfl
            | k + 21, ht => simp at ht
          · intro a4 V14 S hB hf
            have S := S.add (show a4.tmps.getD 153 undef = .bool true from hf 20 153 rfl)
            clear hf S0
            show wpList _ _ _ [_] _ _
            refine tl_val S (v := .bool true) (rn_assign rfl (S.at 0 rfl)) rfl rfl (by decide) (ls' := [(153, .bool true), (10, .int .i64 (erq q1)), (9, pT g6 0), (8, pT g5 0), (4, pT g2 0), (3, pT g1 0)]) rfl (fun a S => ?_)
            refine hK13 _ _ ?_
            refine wp_ret ?_
            exact frm_ret1 rfl S (S.at 0 rfl) ⟨_, rfl, rfl, S.below⟩
set_option maxRecDepth 100000 in
set_option maxHeartbeats 4000000 in
theorem rlaws_great (b0_ : Bool) (x0_ y0_ : Num) (b1_ : Bool) (x1_ y1_ : Num) (b2_ : Bool) (x2_ y2_ : Num)  {V : World} (T : TT V) (_AM : AddMul V) (ox0 : x0_.ok V V.heap.size) (oy0 : y0_.ok V V.heap.size) (ox1 : x1_.ok V V.heap.size) (oy1 : y1_.ok V V.heap.size) (ox2 : x2_.ok V V.heap.size) (oy2 : y2_.ok V V.heap.size)  (hG : great7 [(b0_, x0_, y0_), (b1_, x1_, y1_), (b2_, x2_, y2_)] = true) :
    Calls Tryz.prog 4 #[(aG b0_ x0_ y0_), (aG b1_ x1_ y1_), (aG b2_ x2_ y2_)] V (Gives1 V (fun v _ => v = .bool true)) := by
  obtain ⟨q0, hqa0⟩ : ∃ q, qOf b0_ x0_.N y0_.N = q := ⟨_, rfl⟩
  obtain ⟨q1, hqa1⟩ : ∃ q, qOf b1_ x1_.N y1_.N = q := ⟨_, rfl⟩
  obtain ⟨q2, hqa2⟩ : ∃ q, qOf b2_ x2_.N y2_.N = q := ⟨_, rfl⟩
  refine frm_body (e := [x2_, y2_, x1_, y1_, x0_, y0_]) Tryz.func4 rfl Tryz.ntmps4 (Nat.le_of_ble_eq_true rfl) [(0, (aG b0_ x0_ y0_)), (1, (aG b1_ x1_ y1_)), (2, (aG b2_ x2_ y2_))] rfl (ok_cons ox2 (ok_cons oy2 (ok_cons ox1 (ok_cons oy1 (ok_cons ox0 (ok_cons oy0 ok_nil)))))) (fun a S => ?_)
  refine wp_seq_k fun K1 hK1 => ?_
  refine frm_plain ?_
  refine tl_box S (T := 27) (cs := (aL b0_ x0_ y0_)) (rn_box rfl (S.at 0 rfl) rfl) rfl rfl rfl (by decide) (ls' := [(0, (aG b0_ x0_ y0_)), (1, (aG b1_ x1_ y1_)), (2, (aG b2_ x2_ y2_))]) rfl (lb' := fun g1 => [⟨g1, 27, (aL b0_ x0_ y0_)⟩]) (fun _ => rfl) (fun g1 a V1 hgg1 S => ?_)
  refine tl_box S (T := 27) (cs := (aL b1_ x1_ y1_)) (rn_box rfl (S.at 2 rfl) rfl) rfl rfl rfl (by decide) (ls' := [(3, pT g1 0), (0, (aG b0_ x0_ y0_)), (1, (aG b1_ x1_ y1_)), (2, (aG b2_ x2_ y2_))]) rfl (lb' := fun g2 => [⟨g1, 27, (aL b0_ x0_ y0_)⟩, ⟨g2, 27, (aL b1_ x1_ y1_)⟩]) (fun _ => rfl) (fun g2 a V2 hgg2 S => ?_)
  refine tl_box S (T := 27) (cs := (aL b2_ x2_ y2_)) (rn_box rfl (S.at 4 rfl) rfl) rfl rfl rfl (by decide) (ls' := [(4, pT g2 0), (3, pT g1 0), (0, (aG b0_ x0_ y0_)), (1, (aG b1_ x1_ y1_)), (2, (aG b2_ x2_ y2_))]) rfl (lb' := fun g3 => [⟨g1, 27, (aL b0_ x0_ y0_)⟩, ⟨g2, 27, (aL b1_ x1_ y1_)⟩, ⟨g3, 27, (aL b2_ x2_ y2_)⟩]) (fun _ => rfl) (fun g3 a V3 hgg3 S => ?_)
  refine tl_val S (v := .bool false) (rn_assignc rfl) rfl rfl (by decide) (ls' := [(5, pT g3 0), (4, pT g2 0), (3, pT g1 0), (0, (aG b0_ x0_ y0_)), (1, (aG b1_ x1_ y1_)), (2, (aG b2_ x2_ y2_))]) rfl (fun a S => ?_)
  refine hK1 _ _ ?_
  refine wp_seq_k fun K2 hK2 => ?_
  refine wp_seq_k fun K3 hK3 => ?_
  have S := S.keep [5, 4, 3] (ls' := [(5, pT g3 0), (4, pT g2 0), (3, pT g1 0)]) rfl
  refine frm_plain ?_
  refine tl_val S (v := (aG b0_ x0_ y0_)) (rn_load rfl (S.at 2 rfl) (S.bx 0 rfl) Tryz.underlying27 rfl (vs := (aL b0_ x0_ y0_)) sz_Rat rfl) rfl rfl (by decide) (ls' := [(5, pT g3 0), (4, pT g2 0), (3, pT g1 0)]) rfl (fun a S => ?_)
  refine tl_val S (v := (aG b1_ x1_ y1_)) (rn_load rfl (S.at 2 rfl) (S.bx 1 rfl) Tryz.underlying27 rfl (vs := (aL b1_ x1_ y1_)) sz_Rat rfl) rfl rfl (by decide) (ls' := [(11, (aG b0_ x0_ y0_)), (5, pT g3 0), (4, pT g2 0), (3, pT g1 0)]) rfl (fun a S => ?_)
  refine tl_val S (v := (aG b2_ x2_ y2_)) (rn_load rfl (S.at 2 rfl) (S.bx 2 rfl) Tryz.underlying27 rfl (vs := (aL b2_ x2_ y2_)) sz_Rat rfl) rfl rfl (by decide) (ls' := [(12, (aG b1_ x1_ y1_)), (11, (aG b0_ x0_ y0_)), (5, pT g3 0), (4, pT g2 0), (3, pT g1 0)]) rfl (fun a S => ?_)
  refine tl_lays S (F := GL ([(b0_, x0_, y0_), (b1_, x1_, y1_), (b2_, x2_, y2_)])) (ly_grow3 rfl (S.at 2 rfl) (S.at 1 rfl) (S.at 0 rfl) (S.num 4 rfl) (S.num 5 rfl) (S.num 2 rfl) (S.num 3 rfl) (S.num 0 rfl) (S.num 1 rfl)) rfl rfl (by decide) (ls' := [(13, (aG b2_ x2_ y2_)), (12, (aG b1_ x1_ y1_)), (11, (aG b0_ x0_ y0_)), (5, pT g3 0), (4, pT g2 0), (3, pT g1 0)]) rfl (fun v a V4 hF hb S => ?_)
  obtain ⟨ov1, hov1⟩ : ∃ z, z = v := ⟨_, rfl⟩
  rw [← hov1] at hF S
  have rov1 := hF
  refine tl_call S (rn_call1 ⟨_, rfl⟩ (S.at 0 rfl) (enters_of Tryz.func8 (by kernel_rfl) rfl)) (F := (fun v _ => v = .bool true)) (l7Great rov1 hG) rfl rfl (by decide) (ls' := [(14, ov1), (13, (aG b2_ x2_ y2_)), (12, (aG b1_ x1_ y1_)), (11, (aG b0_ x0_ y0_)), (5, pT g3 0), (4, pT g2 0), (3, pT g1 0)]) rfl (fun v a V5 hF hb S => ?_)
  replace rov1 := rov1.keep hb
  subst hF
  refine hK3 _ _ ?_
  refine wp_cond_true (S.at 0 rfl) ?_
  refine wp_seq_k fun K4 hK4 => ?_
  have S := S.keep [] (ls' := []) rfl
  refine frm_plain ?_
  refine tl_call S (rn_call0 ⟨_, rfl⟩  (enters_of Tryz.func9 (by kernel_rfl) rfl)) (F := (fun v _ => v = .bool true)) (l7wakes (T.keep S.below)) rfl rfl (by decide) (ls' := []) rfl (fun v a V6 hF hb S => ?_)
  subst hF
  refine tl_val S (v := .bool true) (rn_assign rfl (S.at 0 rfl)) rfl rfl (by decide) (ls' := [(16, .bool true)]) rfl (fun a S => ?_)
  refine hK4 _ _ ?_
  refine wp_ret ?_
  exact frm_ret1 rfl S (S.at 0 rfl) ⟨_, rfl, rfl, S.below⟩
end Go.Proofs.YtdajbmjknilmiaaGreatDoor
