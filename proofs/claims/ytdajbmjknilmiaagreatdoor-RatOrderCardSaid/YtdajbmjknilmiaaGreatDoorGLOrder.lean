/- RatOrder: just one of two is less, or they are the same; order is kept by adding, and by multiplying with what is above nought; the middle lies between. -/
import Derived.Test.YtdajbmjknilmiaaGreatDoorGRatL
namespace Go.Proofs.YtdajbmjknilmiaaGreatDoor
open Go Go.RowKit
set_option maxRecDepth 100000 in
set_option maxHeartbeats 4000000 in
theorem rorder_go (b0_ : Bool) (x0_ y0_ : Num) (b1_ : Bool) (x1_ y1_ : Num) (b2_ : Bool) (x2_ y2_ : Num)  {V : World} (T : TT V) (AM : AddMul V) (ox0 : x0_.ok V V.heap.size) (oy0 : y0_.ok V V.heap.size) (ox1 : x1_.ok V V.heap.size) (oy1 : y1_.ok V V.heap.size) (ox2 : x2_.ok V V.heap.size) (oy2 : y2_.ok V V.heap.size)  (hG : great7 [(b0_, x0_, y0_), (b1_, x1_, y1_), (b2_, x2_, y2_)] = false) :
    Calls Tryz.prog 6 #[(aG b0_ x0_ y0_), (aG b1_ x1_ y1_), (aG b2_ x2_ y2_)] V (Gives1 V (fun v _ => v = .bool true)) := by
  have hsz := sizeQ3_le hG
  have hkx0 : x0_.n ≤ 40 := by omega
  have hky0 : y0_.n ≤ 40 := by omega
  have hkx1 : x1_.n ≤ 40 := by omega
  have hky1 : y1_.n ≤ 40 := by omega
  have hkx2 : x2_.n ≤ 40 := by omega
  have hky2 : y2_.n ≤ 40 := by omega
  obtain ⟨q0, hqa0⟩ : ∃ q, qOf b0_ x0_.N y0_.N = q := ⟨_, rfl⟩
  obtain ⟨q1, hqa1⟩ : ∃ q, qOf b1_ x1_.N y1_.N = q := ⟨_, rfl⟩
  obtain ⟨q2, hqa2⟩ : ∃ q, qOf b2_ x2_.N y2_.N = q := ⟨_, rfl⟩
  refine frm_body (e := [x2_, y2_, x1_, y1_, x0_, y0_]) Tryz.func6 rfl Tryz.ntmps6 (Nat.le_of_ble_eq_true rfl) [(0, (aG b0_ x0_ y0_)), (1, (aG b1_ x1_ y1_)), (2, (aG b2_ x2_ y2_))] rfl (ok_cons ox2 (ok_cons oy2 (ok_cons ox1 (ok_cons oy1 (ok_cons ox0 (ok_cons oy0 ok_nil)))))) (fun a S => ?_)
  refine wp_seq_k fun K1 hK1 => ?_
  refine frm_plain ?_
  refine tl_box S (T := 27) (cs := (aL b0_ x0_ y0_)) (rn_box rfl (S.at 0 rfl) rfl) rfl rfl rfl (by decide) (ls' := [(0, (aG b0_ x0_ y0_)), (1, (aG b1_ x1_ y1_)), (2, (aG b2_ x2_ y2_))]) rfl (lb' := fun g1 => [⟨g1, 27, (aL b0_ x0_ y0_)⟩]) (fun _ => rfl) (fun g1 a V1 hgg1 S => ?_)
  refine tl_box S (T := 27) (cs := (aL b1_ x1_ y1_)) (rn_box rfl (S.at 2 rfl) rfl) rfl rfl rfl (by decide) (ls' := [(3, pT g1 0), (0, (aG b0_ x0_ y0_)), (1, (aG b1_ x1_ y1_)), (2, (aG b2_ x2_ y2_))]) rfl (lb' := fun g2 => [⟨g1, 27, (aL b0_ x0_ y0_)⟩, ⟨g2, 27, (aL b1_ x1_ y1_)⟩]) (fun _ => rfl) (fun g2 a V2 hgg2 S => ?_)
  refine tl_box S (T := 27) (cs := (aL b2_ x2_ y2_)) (rn_box rfl (S.at 4 rfl) rfl) rfl rfl rfl (by decide) (ls' := [(4, pT g2 0), (3, pT g1 0), (0, (aG b0_ x0_ y0_)), (1, (aG b1_ x1_ y1_)), (2, (aG b2_ x2_ y2_))]) rfl (lb' := fun g3 => [⟨g1, 27, (aL b0_ x0_ y0_)⟩, ⟨g2, 27, (aL b1_ x1_ y1_)⟩, ⟨g3, 27, (aL b2_ x2_ y2_)⟩]) (fun _ => rfl) (fun g3 a V3 hgg3 S => ?_)
  refine tl_val S (v := .bool false) (rn_assignc rfl) rfl rfl (by decide) (ls' := [(5, pT g3 0), (4, pT g2 0), (3, pT g1 0), (0, (aG b0_ x0_ y0_)), (1, (aG b1_ x1_ y1_)), (2, (aG b2_ x2_ y2_))]) rfl (fun a S => ?_)
  refine hK1 _ _ ?_
  refine wp_seq_k fun K2 hK2 => ?_
  refine wp_seq_k fun K3 hK3 => ?_
  have S := S.keep [5, 4, 3] (ls' := [(5, pT g3 0), (4, pT g2 0), (3, pT g1 0)]) rfl
  refine frm_plain ?_
  refine tl_val S (v := (aG b0_ x0_ y0_)) (rn_load rfl (S.at 2 rfl) (S.bx 0 rfl) Tryz.underlying27 rfl (vs := (aL b0_ x0_ y0_)) sz_Rat rfl) rfl rfl (by decide) (ls' := [(5, pT g3 0), (4, pT g2 0), (3, pT g1 0)]) rfl (fun a S => ?_)
  refine tl_val S (v := (aG b1_ x1_ y1_)) (rn_load rfl (S.at 2 rfl) (S.bx 1 rfl) Tryz.underlying27 rfl (vs := (aL b1_ x1_ y1_)) sz_Rat rfl) rfl rfl (by decide) (ls' := [(11, (aG b0_ x0_ y0_)), (5, pT g3 0), (4, pT g2 0), (3, pT g1 0)]) rfl (fun a S => ?_)
  refine tl_val S (v := (aG b2_ x2_ y2_)) (rn_load rfl (S.at 2 rfl) (S.bx 2 rfl) Tryz.underlying27 rfl (vs := (aL b2_ x2_ y2_)) sz_Rat rfl) rfl rfl (by decide) (ls' := [(12, (aG b1_ x1_ y1_)), (11, (aG b0_ x0_ y0_)), (5, pT g3 0), (4, pT g2 0), (3, pT g1 0)]) rfl (fun a S => ?_)
  refine tl_lays S (F := GL ([(b0_, x0_, y0_), (b1_, x1_, y1_), (b2_, x2_, y2_)])) (ly_grow3 rfl (S.at 2 rfl) (S.at 1 rfl) (S.at 0 rfl) (S.num 4 rfl) (S.num 5 rfl) (S.num 2 rfl) (S.num 3 rfl) (S.num 0 rfl) (S.num 1 rfl)) rfl rfl (by decide) (ls' := [(13, (aG b2_ x2_ y2_)), (12, (aG b1_ x1_ y1_)), (11, (aG b0_ x0_ y0_)), (5, pT g3 0), (4, pT g2 0), (3, pT g1 0)]) rfl (fun v a V4 hF hb S => ?_)
  obtain ⟨ov1, hov1⟩ : ∃ z, z = v := ⟨_, rfl⟩
  rw [← hov1] at hF S
  have rov1 := hF
  refine tl_call S (rn_call1 ⟨_, rfl⟩ (S.at 0 rfl) (enters_of Tryz.func8 (by kernel_rfl) rfl)) (F := (fun v _ => v = .bool false)) (l7Great rov1 hG) rfl rfl (by decide) (ls' := [(14, ov1), (13, (aG b2_ x2_ y2_)), (12, (aG b1_ x1_ y1_)), (11, (aG b0_ x0_ y0_)), (5, pT g3 0), (4, pT g2 0), (3, pT g1 0)]) rfl (fun v a V5 hF hb S => ?_)
  replace rov1 := rov1.keep hb
  subst hF
  refine hK3 _ _ ?_
  refine wp_cond_false (S.at 0 rfl) ?_
  refine wp_skip ?_
  refine hK2 _ _ ?_
  refine wp_seq_k fun K4 hK4 => ?_
  have S := S.keep [5, 4, 3] (ls' := [(5, pT g3 0), (4, pT g2 0), (3, pT g1 0)]) rfl
  refine frm_plain ?_
  refine tl_val S (v := (aG b0_ x0_ y0_)) (rn_load rfl (S.at 2 rfl) (S.bx 0 rfl) Tryz.underlying27 rfl (vs := (aL b0_ x0_ y0_)) sz_Rat rfl) rfl rfl (by decide) (ls' := [(5, pT g3 0), (4, pT g2 0), (3, pT g1 0)]) rfl (fun a S => ?_)
  refine tl_val S (v := (aG b1_ x1_ y1_)) (rn_load rfl (S.at 2 rfl) (S.bx 1 rfl) Tryz.underlying27 rfl (vs := (aL b1_ x1_ y1_)) sz_Rat rfl) rfl rfl (by decide) (ls' := [(17, (aG b0_ x0_ y0_)), (5, pT g3 0), (4, pT g2 0), (3, pT g1 0)]) rfl (fun a S => ?_)
  refine tl_call S (rn_call2 ⟨_, rfl⟩ (S.at 1 rfl) (S.at 0 rfl) (enters_of Tryz.func17 (by kernel_rfl) rfl)) (F := (fun v _ => v = .int .i64 (cmpR q0 q1))) (p7Cmp (T.keep S.below) (show Q1 40 (q0) ((aG b0_ x0_ y0_)) _ from ⟨b0_, x0_, y0_, rfl, hqa0, hkx0, hky0, (S.num 4 rfl), (S.num 5 rfl)⟩) (show Q1 40 (q1) ((aG b1_ x1_ y1_)) _ from ⟨b1_, x1_, y1_, rfl, hqa1, hkx1, hky1, (S.num 2 rfl), (S.num 3 rfl)⟩) (by omega) (by omega)) rfl rfl (by decide) (ls' := [(18, (aG b1_ x1_ y1_)), (17, (aG b0_ x0_ y0_)), (5, pT g3 0), (4, pT g2 0), (3, pT g1 0)]) rfl (fun v a V6 hF hb S => ?_)
  subst hF
  refine tl_val S (v := .int .i64 (cmpR q0 q1)) (rn_assign rfl (S.at 0 rfl)) rfl rfl (by decide) (ls' := [(19, .int .i64 (cmpR q0 q1)), (18, (aG b1_ x1_ y1_)), (17, (aG b0_ x0_ y0_)), (5, pT g3 0), (4, pT g2 0), (3, pT g1 0)]) rfl (fun a S => ?_)
  refine hK4 _ _ ?_
  refine wp_seq_k fun K5 hK5 => ?_
  refine wp_seq_k fun K6 hK6 => ?_
  rcases Bool.eq_false_or_eq_true (decide (cmpR q0 q1 ≤ 0)) with hs1 | hs1
  · skip
    rcases Bool.eq_false_or_eq_true (decide (cmpR q1 q2 ≤ 0)) with hs2 | hs2
    · skip
      have S := S.keep [7, 5, 4, 3] (ls' := [(7, .int .i64 (cmpR q0 q1)), (5, pT g3 0), (4, pT g2 0), (3, pT g1 0)]) rfl
      obtain ⟨W1, hW1⟩ : ∃ W, W = V6 := ⟨_, rfl⟩
      rw [← hW1] at S ⊢
      have S0 := S
      refine frm_region 51 [20, 21, 22, 23, 24, 25, 26, 27, 28, 29, 30, 31, 32, 33, 34, 35, 36, 37, 38, 39, 40, 41, 42, 43, 44, 45, 46, 47, 48, 49, 50, 51, 52, 53, 54, 55, 56, 57, 58, 59, 60, 61, 62, 63, 64, 65, 66, 67, 68, 69, 70] (fun i v V => match i with
          | 0 => v = .int .i64 (cmpR q0 q1)
          | 1 => v = .bool false
          | 2 => v = .bool false
          | 3 => v = .int .i64 (cmpR q0 q1)
          | 4 => v = .bool false
          | 5 => v = .bool false
          | 6 => v = .bool false
          | 7 => v = (aG b1_ x1_ y1_)
          | 8 => v = (aG b0_ x0_ y0_)
          | 9 => v = .int .i64 (cmpR q1 q0)
          | 10 => v = .int .i64 (cmpR q0 q1)
          | 11 => v = .int .i64 (-(cmpR q0 q1))
          | 12 => v = .bool false
          | 13 => v = .bool false
          | 14 => v = .bool false
          | 15 => v = .int .i64 (cmpR q0 q1)
          | 16 => v = .bool true
          | 17 => v = .bool true
          | 18 => v = (aG b1_ x1_ y1_)
          | 19 => v = (aG b2_ x2_ y2_)
          | 20 => v = .int .i64 (cmpR q1 q2)
          | 21 => v = .bool true
          | 22 => v = .bool true
          | 23 => v = .bool true
          | 24 => v = (aG b0_ x0_ y0_)
          | 25 => v = (aG b2_ x2_ y2_)
          | 26 => v = .int .i64 (cmpR q0 q2)
          | 27 => v = .bool false
          | 28 => v = .bool false
          | 29 => v = .bool false
          | 30 => v = .bool false
          | 31 => v = (aG b0_ x0_ y0_)
          | 32 => v = (aG b1_ x1_ y1_)
          | 33 => v = .bool (decide (cmpR q0 q1 = 0))
          | 34 => v = .int .i64 (cmpR q0 q1)
          | 35 => v = .bool (decide (cmpR q0 q1 = 0))
          | 36 => v = .bool false
          | 37 => v = .bool false
          | 38 => v = .bool false
          | 39 => v = (aG b0_ x0_ y0_)
          | 40 => v = (aG b2_ x2_ y2_)
          | 41 => QL 40 6 ([q0, q2]) v V
          | 42 => QT 81 (q0 + q2) v V
          | 43 => v = (aG b1_ x1_ y1_)
          | 44 => v = (aG b2_ x2_ y2_)
          | 45 => QL 40 6 ([q1, q2]) v V
          | 46 => QT 81 (q1 + q2) v V
          | 47 => v = .int .i64 (cmpR (q0 + q2) (q1 + q2))
          | 48 => v = .int .i64 (cmpR q0 q1)
          | 49 => v = .bool false
          | _ => v = .bool false) S (by kernel_rfl) (by kernel_rfl) rfl (by decide) rfl rfl ?_ ?_ ?_
      · intro i v V V2 hf hb
        match i, hf with
        | 0, hf => exact hf
        | 1, hf => exact hf
        | 2, hf => exact hf
        | 3, hf => exact hf
        | 4, hf => exact hf
        | 5, hf => exact hf
        | 6, hf => exact hf
        | 7, hf => exact hf
        | 8, hf => exact hf
        | 9, hf => exact hf
        | 10, hf => exact hf
        | 11, hf => exact hf
        | 12, hf => exact hf
        | 13, hf => exact hf
        | 14, hf => exact hf
        | 15, hf => exact hf
        | 16, hf => exact hf
        | 17, hf => exact hf
        | 18, hf => exact hf
        | 19, hf => exact hf
        | 20, hf => exact hf
        | 21, hf => exact hf
        | 22, hf => exact hf
        | 23, hf => exact hf
        | 24, hf => exact hf
        | 25, hf => exact hf
        | 26, hf => exact hf
        | 27, hf => exact hf
        | 28, hf => exact hf
        | 29, hf => exact hf
        | 30, hf => exact hf
        | 31, hf => exact hf
        | 32, hf => exact hf
        | 33, hf => exact hf
        | 34, hf => exact hf
        | 35, hf => exact hf
        | 36, hf => exact hf
        | 37, hf => exact hf
        | 38, hf => exact hf
        | 39, hf => exact hf
        | 40, hf => exact hf
        | 41, hf => exact QL.keep hf hb
        | 42, hf => exact QT.keep hf hb
        | 43, hf => exact hf
        | 44, hf => exact hf
        | 45, hf => exact QL.keep hf hb
        | 46, hf => exact QT.keep hf hb
        | 47, hf => exact hf
        | 48, hf => exact hf
        | 49, hf => exact hf
        | _ + 50, hf => exact hf
      · intro i t ht a V S hB hd
        match i, ht with
        | 0, ht =>
          cases ht
          exact so_val rfl rfl (wanted_free rfl) (rn_move rfl (S.at 0 rfl)) rfl
        | 1, ht =>
          cases ht
          exact so_val rfl rfl (wanted_free rfl) (rn_bool (rn_lss rfl (show tG a 20 <| .int .i64 (cmpR q0 q1) from hd 0 20 rfl (by kernel_rfl)) rfl) (show (decide (cmpR q0 q1 < -1)) = false from (decide_eq_false (by have := cmpR_range q0 q1; omega)))) rfl
        | 2, ht =>
          cases ht
          exact so_val rfl rfl (wanted_free rfl) (rn_move rfl (show tG a 21 <| .bool false from hd 1 21 rfl (by kernel_rfl))) rfl
        | 3, ht =>
          cases ht
          exact so_val rfl rfl ((wanted_if rfl rfl rfl (show tG a 22 <| .bool false from hd 2 22 rfl (by kernel_rfl))).trans rfl) (rn_move rfl (S.at 0 rfl)) rfl
        | 4, ht =>
          cases ht
          exact so_val rfl rfl ((wanted_if rfl rfl rfl (show tG a 22 <| .bool false from hd 2 22 rfl (by kernel_rfl))).trans rfl) (rn_bool (rn_gtr rfl (show tG a 23 <| .int .i64 (cmpR q0 q1) from hd 3 23 rfl (by kernel_rfl)) rfl) (show (decide (1 < cmpR q0 q1)) = false from (decide_eq_false (by have := cmpR_range q0 q1; omega)))) rfl
        | 5, ht =>
          cases ht
          exact so_val rfl rfl (wanted_free rfl) (rn_pick false rfl (show tG a 22 <| .bool false from hd 2 22 rfl (by kernel_rfl)) (show tG a 24 <| .bool false from hd 4 24 rfl (by kernel_rfl))) rfl
        | 6, ht =>
          cases ht
          exact so_val rfl rfl (wanted_free rfl) (rn_move rfl (show tG a 25 <| .bool false from hd 5 25 rfl (by kernel_rfl))) rfl
        | 7, ht =>
          cases ht
          exact so_val rfl rfl ((wanted_if rfl rfl rfl (show tG a 26 <| .bool false from hd 6 26 rfl (by kernel_rfl))).trans rfl) (rn_load rfl (S.at 2 rfl) (S.bx 1 rfl) Tryz.underlying27 rfl (vs := (aL b1_ x1_ y1_)) sz_Rat rfl) rfl
        | 8, ht =>
          cases ht
          exact so_val rfl rfl ((wanted_if rfl rfl rfl (show tG a 26 <| .bool false from hd 6 26 rfl (by kernel_rfl))).trans rfl) (rn_load rfl (S.at 3 rfl) (S.bx 0 rfl) Tryz.underlying27 rfl (vs := (aL b0_ x0_ y0_)) sz_Rat rfl) rfl
        | 9, ht =>
          cases ht
          exact so_call rfl rfl ((wanted_if rfl rfl rfl (show tG a 26 <| .bool false from hd 6 26 rfl (by kernel_rfl))).trans rfl) (rn_call2 ⟨_, rfl⟩ (show tG a 27 <| (aG b1_ x1_ y1_) from hd 7 27 rfl (by kernel_rfl)) (show tG a 28 <| (aG b0_ x0_ y0_) from hd 8 28 rfl (by kernel_rfl)) (enters_of Tryz.func17 (by kernel_rfl) rfl)) (p7Cmp (T.keep S.below) (show Q1 40 (q1) ((aG b1_ x1_ y1_)) _ from ⟨b1_, x1_, y1_, rfl, hqa1, hkx1, hky1, (S.num 2 rfl), (S.num 3 rfl)⟩) (show Q1 40 (q0) ((aG b0_ x0_ y0_)) _ from ⟨b0_, x0_, y0_, rfl, hqa0, hkx0, hky0, (S.num 4 rfl), (S.num 5 rfl)⟩) (by omega) (by omega))
        | 10, ht =>
          cases ht
          exact so_val rfl rfl ((wanted_if rfl rfl rfl (show tG a 26 <| .bool false from hd 6 26 rfl (by kernel_rfl))).trans rfl) (rn_move rfl (S.at 0 rfl)) rfl
        | 11, ht =>
          cases ht
          exact so_val rfl rfl ((wanted_if rfl rfl rfl (show tG a 26 <| .bool false from hd 6 26 rfl (by kernel_rfl))).trans rfl) (rn_neg rfl (show tG a 30 <| .int .i64 (cmpR q0 q1) from hd 10 30 rfl (by kernel_rfl)) (inr_neg _ _)) rfl
        | 12, ht =>
          cases ht
          exact so_val rfl rfl ((wanted_if rfl rfl rfl (show tG a 26 <| .bool false from hd 6 26 rfl (by kernel_rfl))).trans rfl) (rn_bool (rn_neq _ (by decide) rfl (show tG a 29 <| .int .i64 (cmpR q1 q0) from hd 9 29 rfl (by kernel_rfl)) (show tG a 31 <| .int .i64 (-(cmpR q0 q1)) from hd 11 31 rfl (by kernel_rfl))) (show (!decide (cmpR q1 q0 = -(cmpR q0 q1))) = false from (by rw [cmpR_neg q0 q1]; simp))) rfl
        | 13, ht =>
          cases ht
          exact so_val rfl rfl (wanted_free rfl) (rn_pick false rfl (show tG a 26 <| .bool false from hd 6 26 rfl (by kernel_rfl)) (show tG a 32 <| .bool false from hd 12 32 rfl (by kernel_rfl))) rfl
        | 14, ht =>
          cases ht
          exact so_val rfl rfl (wanted_free rfl) (rn_move rfl (show tG a 33 <| .bool false from hd 13 33 rfl (by kernel_rfl))) rfl
        | 15, ht =>
          cases ht
          exact so_val rfl rfl ((wanted_if rfl rfl rfl (show tG a 34 <| .bool false from hd 14 34 rfl (by kernel_rfl))).trans rfl) (rn_move rfl (S.at 0 rfl)) rfl
        | 16, ht =>
          cases ht
          exact so_val rfl rfl ((wanted_if rfl rfl rfl (show tG a 34 <| .bool false from hd 14 34 rfl (by kernel_rfl))).trans rfl) (rn_bool (rn_leq rfl (show tG a 35 <| .int .i64 (cmpR q0 q1) from hd 15 35 rfl (by kernel_rfl)) rfl) (show (decide (cmpR q0 q1 ≤ 0)) = true from hs1)) rfl
        | 17, ht =>
          cases ht
          exact so_val rfl rfl ((wanted_if rfl rfl rfl (show tG a 34 <| .bool false from hd 14 34 rfl (by kernel_rfl))).trans rfl) (rn_move rfl (show tG a 36 <| .bool true from hd 16 36 rfl (by kernel_rfl))) rfl
        | 18, ht =>
          cases ht
          exact so_val rfl rfl ((wanted_if rfl rfl rfl (show tG a 37 <| .bool true from hd 17 37 rfl (by kernel_rfl))).trans rfl) (rn_load rfl (S.at 2 rfl) (S.bx 1 rfl) Tryz.underlying27 rfl (vs := (aL b1_ x1_ y1_)) sz_Rat rfl) rfl
        | 19, ht =>
          cases ht
          exact so_val rfl rfl ((wanted_if rfl rfl rfl (show tG a 37 <| .bool true from hd 17 37 rfl (by kernel_rfl))).trans rfl) (rn_load rfl (S.at 1 rfl) (S.bx 2 rfl) Tryz.underlying27 rfl (vs := (aL b2_ x2_ y2_)) sz_Rat rfl) rfl
        | 20, ht =>
          cases ht
          exact so_call rfl rfl ((wanted_if rfl rfl rfl (show tG a 37 <| .bool true from hd 17 37 rfl (by kernel_rfl))).trans rfl) (rn_call2 ⟨_, rfl⟩ (show tG a 38 <| (aG b1_ x1_ y1_) from hd 18 38 rfl (by kernel_rfl)) (show tG a 39 <| (aG b2_ x2_ y2_) from hd 19 39 rfl (by kernel_rfl)) (enters_of Tryz.func17 (by kernel_rfl) rfl)) (p7Cmp (T.keep S.below) (show Q1 40 (q1) ((aG b1_ x1_ y1_)) _ from ⟨b1_, x1_, y1_, rfl, hqa1, hkx1, hky1, (S.num 2 rfl), (S.num 3 rfl)⟩) (show Q1 40 (q2) ((aG b2_ x2_ y2_)) _ from ⟨b2_, x2_, y2_, rfl, hqa2, hkx2, hky2, (S.num 0 rfl), (S.num 1 rfl)⟩) (by omega) (by omega))
        | 21, ht =>
          cases ht
          exact so_val rfl rfl ((wanted_if rfl rfl rfl (show tG a 37 <| .bool true from hd 17 37 rfl (by kernel_rfl))).trans rfl) (rn_bool (rn_leq rfl (show tG a 40 <| .int .i64 (cmpR q1 q2) from hd 20 40 rfl (by kernel_rfl)) rfl) (show (decide (cmpR q1 q2 ≤ 0)) = true from hs2)) rfl
        | 22, ht =>
          cases ht
          exact so_val rfl rfl ((wanted_if rfl rfl rfl (show tG a 34 <| .bool false from hd 14 34 rfl (by kernel_rfl))).trans rfl) (rn_pick true rfl (show tG a 37 <| .bool true from hd 17 37 rfl (by kernel_rfl)) (show tG a 41 <| .bool true from hd 21 41 rfl (by kernel_rfl))) rfl
        | 23, ht =>
          cases ht
          exact so_val rfl rfl ((wanted_if rfl rfl rfl (show tG a 34 <| .bool false from hd 14 34 rfl (by kernel_rfl))).trans rfl) (rn_move rfl (show tG a 42 <| .bool true from hd 22 42 rfl (by kernel_rfl))) rfl
        | 24, ht =>
          cases ht
          exact so_val rfl rfl ((wanted_if rfl rfl rfl (show tG a 43 <| .bool true from hd 23 43 rfl (by kernel_rfl))).trans rfl) (rn_load rfl (S.at 3 rfl) (S.bx 0 rfl) Tryz.underlying27 rfl (vs := (aL b0_ x0_ y0_)) sz_Rat rfl) rfl
        | 25, ht =>
          cases ht
          exact so_val rfl rfl ((wanted_if rfl rfl rfl (show tG a 43 <| .bool true from hd 23 43 rfl (by kernel_rfl))).trans rfl) (rn_load rfl (S.at 1 rfl) (S.bx 2 rfl) Tryz.underlying27 rfl (vs := (aL b2_ x2_ y2_)) sz_Rat rfl) rfl
        | 26, ht =>
          cases ht
          exact so_call rfl rfl ((wanted_if rfl rfl rfl (show tG a 43 <| .bool true from hd 23 43 rfl (by kernel_rfl))).trans rfl) (rn_call2 ⟨_, rfl⟩ (show tG a 44 <| (aG b0_ x0_ y0_) from hd 24 44 rfl (by kernel_rfl)) (show tG a 45 <| (aG b2_ x2_ y2_) from hd 25 45 rfl (by kernel_rfl)) (enters_of Tryz.func17 (by kernel_rfl) rfl)) (p7Cmp (T.keep S.below) (show Q1 40 (q0) ((aG b0_ x0_ y0_)) _ from ⟨b0_, x0_, y0_, rfl, hqa0, hkx0, hky0, (S.num 4 rfl), (S.num 5 rfl)⟩) (show Q1 40 (q2) ((aG b2_ x2_ y2_)) _ from ⟨b2_, x2_, y2_, rfl, hqa2, hkx2, hky2, (S.num 0 rfl), (S.num 1 rfl)⟩) (by omega) (by omega))
        | 27, ht =>
          cases ht
          exact so_val rfl rfl ((wanted_if rfl rfl rfl (show tG a 43 <| .bool true from hd 23 43 rfl (by kernel_rfl))).trans rfl) (rn_bool (rn_gtr rfl (show tG a 46 <| .int .i64 (cmpR q0 q2) from hd 26 46 rfl (by kernel_rfl)) rfl) (show (decide (0 < cmpR q0 q2)) = false from (decide_eq_false (by have := cmpR_trans (of_decide_eq_true hs1) (of_decide_eq_true hs2); omega)))) rfl
        | 28, ht =>
          cases ht
          exact so_val rfl rfl ((wanted_if rfl rfl rfl (show tG a 34 <| .bool false from hd 14 34 rfl (by kernel_rfl))).trans rfl) (rn_pick true rfl (show tG a 43 <| .bool true from hd 23 43 rfl (by kernel_rfl)) (show tG a 47 <| .bool false from hd 27 47 rfl (by kernel_rfl))) rfl
        | 29, ht =>
          cases ht
          exact so_val rfl rfl (wanted_free rfl) (rn_pick false rfl (show tG a 34 <| .bool false from hd 14 34 rfl (by kernel_rfl)) (show tG a 48 <| .bool false from hd 28 48 rfl (by kernel_rfl))) rfl
        | 30, ht =>
          cases ht
          exact so_val rfl rfl (wanted_free rfl) (rn_move rfl (show tG a 49 <| .bool false from hd 29 49 rfl (by kernel_rfl))) rfl
        | 31, ht =>
          cases ht
          exact so_val rfl rfl ((wanted_if rfl rfl rfl (show tG a 50 <| .bool false from hd 30 50 rfl (by kernel_rfl))).trans rfl) (rn_load rfl (S.at 3 rfl) (S.bx 0 rfl) Tryz.underlying27 rfl (vs := (aL b0_ x0_ y0_)) sz_Rat rfl) rfl
        | 32, ht =>
          cases ht
          exact so_val rfl rfl ((wanted_if rfl rfl rfl (show tG a 50 <| .bool false from hd 30 50 rfl (by kernel_rfl))).trans rfl) (rn_load rfl (S.at 2 rfl) (S.bx 1 rfl) Tryz.underlying27 rfl (vs := (aL b1_ x1_ y1_)) sz_Rat rfl) rfl
        | 33, ht =>
          cases ht
          exact so_call rfl rfl ((wanted_if rfl rfl rfl (show tG a 50 <| .bool false from hd 30 50 rfl (by kernel_rfl))).trans rfl) (rn_call2 ⟨_, rfl⟩ (show tG a 51 <| (aG b0_ x0_ y0_) from hd 31 51 rfl (by kernel_rfl)) (show tG a 52 <| (aG b1_ x1_ y1_) from hd 32 52 rfl (by kernel_rfl)) (enters_of Tryz.func19 (by kernel_rfl) rfl)) (p7Same (T.keep S.below) (show Q1 40 (q0) ((aG b0_ x0_ y0_)) _ from ⟨b0_, x0_, y0_, rfl, hqa0, hkx0, hky0, (S.num 4 rfl), (S.num 5 rfl)⟩) (show Q1 40 (q1) ((aG b1_ x1_ y1_)) _ from ⟨b1_, x1_, y1_, rfl, hqa1, hkx1, hky1, (S.num 2 rfl), (S.num 3 rfl)⟩) (by omega) (by omega))
        | 34, ht =>
          cases ht
          exact so_val rfl rfl ((wanted_if rfl rfl rfl (show tG a 50 <| .bool false from hd 30 50 rfl (by kernel_rfl))).trans rfl) (rn_move rfl (S.at 0 rfl)) rfl
        | 35, ht =>
          cases ht
          exact so_val rfl rfl ((wanted_if rfl rfl rfl (show tG a 50 <| .bool false from hd 30 50 rfl (by kernel_rfl))).trans rfl) (rn_eql _ (by decide) rfl (show tG a 54 <| .int .i64 (cmpR q0 q1) from hd 34 54 rfl (by kernel_rfl)) rfl) rfl
        | 36, ht =>
          cases ht
          exact so_val rfl rfl ((wanted_if rfl rfl rfl (show tG a 50 <| .bool false from hd 30 50 rfl (by kernel_rfl))).trans rfl) (rn_bool (rn_neqb rfl (show tG a 53 <| .bool (decide (cmpR q0 q1 = 0)) from hd 33 53 rfl (by kernel_rfl)) (show tG a 55 <| .bool (decide (cmpR q0 q1 = 0)) from hd 35 55 rfl (by kernel_rfl))) (show ((decide (cmpR q0 q1 = 0)) != (decide (cmpR q0 q1 = 0))) = false from (by simp))) rfl
        | 37, ht =>
          cases ht
          exact so_val rfl rfl (wanted_free rfl) (rn_pick false rfl (show tG a 50 <| .bool false from hd 30 50 rfl (by kernel_rfl)) (show tG a 56 <| .bool false from hd 36 56 rfl (by kernel_rfl))) rfl
        | 38, ht =>
          cases ht
          exact so_val rfl rfl (wanted_free rfl) (rn_move rfl (show tG a 57 <| .bool false from hd 37 57 rfl (by kernel_rfl))) rfl
        | 39, ht =>
          cases ht
          exact so_val rfl rfl ((wanted_if rfl rfl rfl (show tG a 58 <| .bool false from hd 38 58 rfl (by kernel_rfl))).trans rfl) (rn_load rfl (S.at 3 rfl) (S.bx 0 rfl) Tryz.underlying27 rfl (vs := (aL b0_ x0_ y0_)) sz_Rat rfl) rfl
        | 40, ht =>
          cases ht
          exact so_val rfl rfl ((wanted_if rfl rfl rfl (show tG a 58 <| .bool false from hd 38 58 rfl (by kernel_rfl))).trans rfl) (rn_load rfl (S.at 1 rfl) (S.bx 2 rfl) Tryz.underlying27 rfl (vs := (aL b2_ x2_ y2_)) sz_Rat rfl) rfl
        | 41, ht =>
          cases ht
          exact so_lays rfl rfl ((wanted_if rfl rfl rfl (show tG a 58 <| .bool false from hd 38 58 rfl (by kernel_rfl))).trans rfl) (ly_qrow2 rfl (show tG a 59 <| (aG b0_ x0_ y0_) from hd 39 59 rfl (by kernel_rfl)) (show tG a 60 <| (aG b2_ x2_ y2_) from hd 40 60 rfl (by kernel_rfl)) (show Q1 40 (q0) ((aG b0_ x0_ y0_)) _ from ⟨b0_, x0_, y0_, rfl, hqa0, hkx0, hky0, (S.num 4 rfl), (S.num 5 rfl)⟩) (show Q1 40 (q2) ((aG b2_ x2_ y2_)) _ from ⟨b2_, x2_, y2_, rfl, hqa2, hkx2, hky2, (S.num 0 rfl), (S.num 1 rfl)⟩))
        | 42, ht =>
          cases ht
          exact so_call rfl rfl ((wanted_if rfl rfl rfl (show tG a 58 <| .bool false from hd 38 58 rfl (by kernel_rfl))).trans rfl) (rn_call1 ⟨_, rfl⟩ rfl (enters_of Tryz.func27 (by kernel_rfl) rfl)) (AM.add2 (T.keep S.below) S.below ((show QL 40 6 ([q0, q2]) (a.tmps.getD 61 undef) V from hd 41 61 rfl (by kernel_rfl))).row (by omega))
        | 43, ht =>
          cases ht
          exact so_val rfl rfl ((wanted_if rfl rfl rfl (show tG a 58 <| .bool false from hd 38 58 rfl (by kernel_rfl))).trans rfl) (rn_load rfl (S.at 2 rfl) (S.bx 1 rfl) Tryz.underlying27 rfl (vs := (aL b1_ x1_ y1_)) sz_Rat rfl) rfl
        | 44, ht =>
          cases ht
          exact so_val rfl rfl ((wanted_if rfl rfl rfl (show tG a 58 <| .bool false from hd 38 58 rfl (by kernel_rfl))).trans rfl) (rn_load rfl (S.at 1 rfl) (S.bx 2 rfl) Tryz.underlying27 rfl (vs := (aL b2_ x2_ y2_)) sz_Rat rfl) rfl
        | 45, ht =>
          cases ht
          exact so_lays rfl rfl ((wanted_if rfl rfl rfl (show tG a 58 <| .bool false from hd 38 58 rfl (by kernel_rfl))).trans rfl) (ly_qrow2 rfl (show tG a 63 <| (aG b1_ x1_ y1_) from hd 43 63 rfl (by kernel_rfl)) (show tG a 64 <| (aG b2_ x2_ y2_) from hd 44 64 rfl (by kernel_rfl)) (show Q1 40 (q1) ((aG b1_ x1_ y1_)) _ from ⟨b1_, x1_, y1_, rfl, hqa1, hkx1, hky1, (S.num 2 rfl), (S.num 3 rfl)⟩) (show Q1 40 (q2) ((aG b2_ x2_ y2_)) _ from ⟨b2_, x2_, y2_, rfl, hqa2, hkx2, hky2, (S.num 0 rfl), (S.num 1 rfl)⟩))
        | 46, ht =>
          cases ht
          exact so_call rfl rfl ((wanted_if rfl rfl rfl (show tG a 58 <| .bool false from hd 38 58 rfl (by kernel_rfl))).trans rfl) (rn_call1 ⟨_, rfl⟩ rfl (enters_of Tryz.func27 (by kernel_rfl) rfl)) (AM.add2 (T.keep S.below) S.below ((show QL 40 6 ([q1, q2]) (a.tmps.getD 65 undef) V from hd 45 65 rfl (by kernel_rfl))).row (by omega))
        | 47, ht =>
          cases ht
          exact so_call rfl rfl ((wanted_if rfl rfl rfl (show tG a 58 <| .bool false from hd 38 58 rfl (by kernel_rfl))).trans rfl) (rn_call2 ⟨_, rfl⟩ rfl rfl (enters_of Tryz.func17 (by kernel_rfl) rfl)) (p7Cmp (T.keep S.below) ((show QT 81 (q0 + q2) (a.tmps.getD 62 undef) V from hd 42 62 rfl (by kernel_rfl))).any ((show QT 81 (q1 + q2) (a.tmps.getD 66 undef) V from hd 46 66 rfl (by kernel_rfl))).any (by omega) (by omega))
        | 48, ht =>
          cases ht
          exact so_val rfl rfl ((wanted_if rfl rfl rfl (show tG a 58 <| .bool false from hd 38 58 rfl (by kernel_rfl))).trans rfl) (rn_move rfl (S.at 0 rfl)) rfl
        | 49, ht =>
          cases ht
          exact so_val rfl rfl ((wanted_if rfl rfl rfl (show tG a 58 <| .bool false from hd 38 58 rfl (by kernel_rfl))).trans rfl) (rn_bool (rn_neq _ (by decide) rfl (show tG a 67 <| .int .i64 (cmpR (q0 + q2) (q1 + q2)) from hd 47 67 rfl (by kernel_rfl)) (show tG a 68 <| .int .i64 (cmpR q0 q1) from hd 48 68 rfl (by kernel_rfl))) (show (!decide (cmpR (q0 + q2) (q1 + q2) = cmpR q0 q1)) = false from (by rw [cmpR_add]; simp))) rfl
        | 50, ht =>
          cases ht
          exact so_val rfl rfl (wanted_free rfl) (rn_pick false rfl (show tG a 58 <| .bool false from hd 38 58 rfl (by kernel_rfl)) (show tG a 69 <| .bool false from hd 49 69 rfl (by kernel_rfl))) rfl
        | k + 51, ht => simp at ht
      · intro a1 V7 S hB hf
        have S := S.add (show a1.tmps.getD 70 undef = .bool false from hf 50 70 rfl)
        clear hf S0
        show wpList _ _ _ [] _ _
        refine hK6 _ _ ?_
        refine wp_cond_false (S.at 0 rfl) ?_
        refine wp_skip ?_
        refine hK5 _ _ ?_
        refine wp_seq_k fun K7 hK7 => ?_
        have S := S.keep [7, 5, 4, 3] (ls' := [(7, .int .i64 (cmpR q0 q1)), (5, pT g3 0), (4, pT g2 0), (3, pT g1 0)]) rfl
        refine frm_plain ?_
        refine tl_val S (v := (aG b0_ x0_ y0_)) (rn_load rfl (S.at 3 rfl) (S.bx 0 rfl) Tryz.underlying27 rfl (vs := (aL b0_ x0_ y0_)) sz_Rat rfl) rfl rfl (by decide) (ls' := [(7, .int .i64 (cmpR q0 q1)), (5, pT g3 0), (4, pT g2 0), (3, pT g1 0)]) rfl (fun a S => ?_)
        refine tl_val S (v := (aG b1_ x1_ y1_)) (rn_load rfl (S.at 3 rfl) (S.bx 1 rfl) Tryz.underlying27 rfl (vs := (aL b1_ x1_ y1_)) sz_Rat rfl) rfl rfl (by decide) (ls' := [(71, (aG b0_ x0_ y0_)), (7, .int .i64 (cmpR q0 q1)), (5, pT g3 0), (4, pT g2 0), (3, pT g1 0)]) rfl (fun a S => ?_)
        refine tl_call S (rn_call2 ⟨_, rfl⟩ (S.at 1 rfl) (S.at 0 rfl) (enters_of Tryz.func35 (by kernel_rfl) rfl)) (F := QT 82 ((q0 + q1) / 2)) (p7Mid (T.keep S.below) (show Q1 40 (q0) ((aG b0_ x0_ y0_)) _ from ⟨b0_, x0_, y0_, rfl, hqa0, hkx0, hky0, (S.num 4 rfl), (S.num 5 rfl)⟩) (show Q1 40 (q1) ((aG b1_ x1_ y1_)) _ from ⟨b1_, x1_, y1_, rfl, hqa1, hkx1, hky1, (S.num 2 rfl), (S.num 3 rfl)⟩) (by omega) (by omega)) rfl rfl (by decide) (ls' := [(72, (aG b1_ x1_ y1_)), (71, (aG b0_ x0_ y0_)), (7, .int .i64 (cmpR q0 q1)), (5, pT g3 0), (4, pT g2 0), (3, pT g1 0)]) rfl (fun v a V8 hF hb S => ?_)
        obtain ⟨b1, x1, y1, rfl, hq1, hk1, hk2, ok1, ok2⟩ := hF
        have S := S.know ok1
        have S := S.know ok2
        refine tl_box S (T := 27) (cs := [.bool false, .slice none 0 0, .slice none 0 0]) (rn_alloc rfl (Tryz.zeroValue27 _) rfl) rfl rfl rfl (by decide) (ls' := [(73, (aG b1 x1 y1)), (72, (aG b1_ x1_ y1_)), (71, (aG b0_ x0_ y0_)), (7, .int .i64 (cmpR q0 q1)), (5, pT g3 0), (4, pT g2 0), (3, pT g1 0)]) rfl (lb' := fun g4 => [⟨g1, 27, (aL b0_ x0_ y0_)⟩, ⟨g2, 27, (aL b1_ x1_ y1_)⟩, ⟨g3, 27, (aL b2_ x2_ y2_)⟩, ⟨g4, 27, [.bool false, .slice none 0 0, .slice none 0 0]⟩]) (fun _ => rfl) (fun g4 a V9 hgg4 S => ?_)
        refine tl_store S (i := 3) (vs := (aL b1 x1 y1)) rfl (fun ht => rn_store rfl (S.at 0 rfl) (S.at 1 rfl) sz_Rat rfl (Nat.le_of_ble_eq_true rfl) ht) (Nat.le_of_ble_eq_true rfl) rfl rfl rfl (lb' := [⟨g1, 27, (aL b0_ x0_ y0_)⟩, ⟨g2, 27, (aL b1_ x1_ y1_)⟩, ⟨g3, 27, (aL b2_ x2_ y2_)⟩, ⟨g4, 27, (aL b1 x1 y1)⟩]) rfl (fun V10 S => ?_)
        refine hK7 _ _ ?_
        refine wp_seq_k fun K8 hK8 => ?_
        refine wp_seq_k fun K9 hK9 => ?_
        have S := S.keep [8, 7, 5, 4, 3] (ls' := [(8, pT g4 0), (7, .int .i64 (cmpR q0 q1)), (5, pT g3 0), (4, pT g2 0), (3, pT g1 0)]) rfl
        obtain ⟨W2, hW2⟩ : ∃ W, W = V10 := ⟨_, rfl⟩
        rw [← hW2] at S ⊢
        have S0 := S
        refine frm_region 28 [74, 75, 76, 77, 78, 79, 80, 81, 82, 83, 84, 85, 86, 87, 88, 89, 90, 91, 92, 93, 94, 95, 96, 97, 98, 99, 100, 101] (fun i v V => match i with
            | 0 => v = (aG b0_ x0_ y0_)
            | 1 => v = (aG b1 x1 y1)
            | 2 => v = .int .i64 (cmpR q0 ((q0 + q1) / 2))
            | 3 => v = .int .i64 (cmpR q0 q1)
            | 4 => v = .bool false
            | 5 => v = .bool false
            | 6 => v = (aG b1 x1 y1)
            | 7 => v = (aG b1_ x1_ y1_)
            | 8 => v = .int .i64 (cmpR ((q0 + q1) / 2) q1)
            | 9 => v = .int .i64 (cmpR q0 q1)
            | 10 => v = .bool false
            | 11 => v = .bool false
            | 12 => v = .bool false
            | 13 => v = (aG b0_ x0_ y0_)
            | 14 => v = (aG b2_ x2_ y2_)
            | 15 => QL 40 6 ([q0, q2]) v V
            | 16 => QT 80 (q0 * q2) v V
            | 17 => v = (aG b1_ x1_ y1_)
            | 18 => v = (aG b2_ x2_ y2_)
            | 19 => QL 40 6 ([q1, q2]) v V
            | 20 => QT 80 (q1 * q2) v V
            | 21 => v = .int .i64 (cmpR (q0 * q2) (q1 * q2))
            | 22 => v = .int .i64 (cmpR q0 q1)
            | 23 => v = (aG b2_ x2_ y2_)
            | 24 => v = .int .i64 (cmpR q2 0)
            | 25 => v = .int .i64 ((cmpR q0 q1) * (cmpR q2 0))
            | 26 => v = .bool false
            | _ => v = .bool false) S (by kernel_rfl) (by kernel_rfl) rfl (by decide) rfl rfl ?_ ?_ ?_
        · intro i v V V2 hf hb
          match i, hf with
          | 0, hf => exact hf
          | 1, hf => exact hf
          | 2, hf => exact hf
          | 3, hf => exact hf
          | 4, hf => exact hf
          | 5, hf => exact hf
          | 6, hf => exact hf
          | 7, hf => exact hf
          | 8, hf => exact hf
          | 9, hf => exact hf
          | 10, hf => exact hf
          | 11, hf => exact hf
          | 12, hf => exact hf
          | 13, hf => exact hf
          | 14, hf => exact hf
          | 15, hf => exact QL.keep hf hb
          | 16, hf => exact QT.keep hf hb
          | 17, hf => exact hf
          | 18, hf => exact hf
          | 19, hf => exact QL.keep hf hb
          | 20, hf => exact QT.keep hf hb
          | 21, hf => exact hf
          | 22, hf => exact hf
          | 23, hf => exact hf
          | 24, hf => exact hf
          | 25, hf => exact hf
          | 26, hf => exact hf
          | _ + 27, hf => exact hf
        · intro i t ht a V S hB hd
          match i, ht with
          | 0, ht =>
            cases ht
            exact so_val rfl rfl (wanted_free rfl) (rn_load rfl (S.at 4 rfl) (S.bx 0 rfl) Tryz.underlying27 rfl (vs := (aL b0_ x0_ y0_)) sz_Rat rfl) rfl
          | 1, ht =>
            cases ht
            exact so_val rfl rfl (wanted_free rfl) (rn_load rfl (S.at 0 rfl) (S.bx 3 rfl) Tryz.underlying27 rfl (vs := (aL b1 x1 y1)) sz_Rat rfl) rfl
          | 2, ht =>
            cases ht
            exact so_call rfl rfl (wanted_free rfl) (rn_call2 ⟨_, rfl⟩ (show tG a 74 <| (aG b0_ x0_ y0_) from hd 0 74 rfl (by kernel_rfl)) (show tG a 75 <| (aG b1 x1 y1) from hd 1 75 rfl (by kernel_rfl)) (enters_of Tryz.func17 (by kernel_rfl) rfl)) (p7Cmp (T.keep S.below) (show Q1 40 (q0) ((aG b0_ x0_ y0_)) _ from ⟨b0_, x0_, y0_, rfl, hqa0, hkx0, hky0, (S.num 6 rfl), (S.num 7 rfl)⟩) (show QT 82 ((q0 + q1) / 2) ((aG b1 x1 y1)) _ from ⟨b1, x1, y1, rfl, hq1, hk1, hk2, (S.num 1 rfl), (S.num 0 rfl)⟩).any (by omega) (by omega))
          | 3, ht =>
            cases ht
            exact so_val rfl rfl (wanted_free rfl) (rn_move rfl (S.at 1 rfl)) rfl
          | 4, ht =>
            cases ht
            exact so_val rfl rfl (wanted_free rfl) (rn_bool (rn_neq _ (by decide) rfl (show tG a 76 <| .int .i64 (cmpR q0 ((q0 + q1) / 2)) from hd 2 76 rfl (by kernel_rfl)) (show tG a 77 <| .int .i64 (cmpR q0 q1) from hd 3 77 rfl (by kernel_rfl))) (show (!decide (cmpR q0 ((q0 + q1) / 2) = cmpR q0 q1)) = false from (by rw [(cmpR_mid q0 q1).1]; simp))) rfl
          | 5, ht =>
            cases ht
            exact so_val rfl rfl (wanted_free rfl) (rn_move rfl (show tG a 78 <| .bool false from hd 4 78 rfl (by kernel_rfl))) rfl
          | 6, ht =>
            cases ht
            exact so_val rfl rfl ((wanted_if rfl rfl rfl (show tG a 79 <| .bool false from hd 5 79 rfl (by kernel_rfl))).trans rfl) (rn_load rfl (S.at 0 rfl) (S.bx 3 rfl) Tryz.underlying27 rfl (vs := (aL b1 x1 y1)) sz_Rat rfl) rfl
          | 7, ht =>
            cases ht
            exact so_val rfl rfl ((wanted_if rfl rfl rfl (show tG a 79 <| .bool false from hd 5 79 rfl (by kernel_rfl))).trans rfl) (rn_load rfl (S.at 3 rfl) (S.bx 1 rfl) Tryz.underlying27 rfl (vs := (aL b1_ x1_ y1_)) sz_Rat rfl) rfl
          | 8, ht =>
            cases ht
            exact so_call rfl rfl ((wanted_if rfl rfl rfl (show tG a 79 <| .bool false from hd 5 79 rfl (by kernel_rfl))).trans rfl) (rn_call2 ⟨_, rfl⟩ (show tG a 80 <| (aG b1 x1 y1) from hd 6 80 rfl (by kernel_rfl)) (show tG a 81 <| (aG b1_ x1_ y1_) from hd 7 81 rfl (by kernel_rfl)) (enters_of Tryz.func17 (by kernel_rfl) rfl)) (p7Cmp (T.keep S.below) (show QT 82 ((q0 + q1) / 2) ((aG b1 x1 y1)) _ from ⟨b1, x1, y1, rfl, hq1, hk1, hk2, (S.num 1 rfl), (S.num 0 rfl)⟩).any (show Q1 40 (q1) ((aG b1_ x1_ y1_)) _ from ⟨b1_, x1_, y1_, rfl, hqa1, hkx1, hky1, (S.num 4 rfl), (S.num 5 rfl)⟩) (by omega) (by omega))
          | 9, ht =>
            cases ht
            exact so_val rfl rfl ((wanted_if rfl rfl rfl (show tG a 79 <| .bool false from hd 5 79 rfl (by kernel_rfl))).trans rfl) (rn_move rfl (S.at 1 rfl)) rfl
          | 10, ht =>
            cases ht
            exact so_val rfl rfl ((wanted_if rfl rfl rfl (show tG a 79 <| .bool false from hd 5 79 rfl (by kernel_rfl))).trans rfl) (rn_bool (rn_neq _ (by decide) rfl (show tG a 82 <| .int .i64 (cmpR ((q0 + q1) / 2) q1) from hd 8 82 rfl (by kernel_rfl)) (show tG a 83 <| .int .i64 (cmpR q0 q1) from hd 9 83 rfl (by kernel_rfl))) (show (!decide (cmpR ((q0 + q1) / 2) q1 = cmpR q0 q1)) = false from (by rw [(cmpR_mid q0 q1).2]; simp))) rfl
          | 11, ht =>
            cases ht
            exact so_val rfl rfl (wanted_free rfl) (rn_pick false rfl (show tG a 79 <| .bool false from hd 5 79 rfl (by kernel_rfl)) (show tG a 84 <| .bool false from hd 10 84 rfl (by kernel_rfl))) rfl
          | 12, ht =>
            cases ht
            exact so_val rfl rfl (wanted_free rfl) (rn_move rfl (show tG a 85 <| .bool false from hd 11 85 rfl (by kernel_rfl))) rfl
          | 13, ht =>
            cases ht
            exact so_val rfl rfl ((wanted_if rfl rfl rfl (show tG a 86 <| .bool false from hd 12 86 rfl (by kernel_rfl))).trans rfl) (rn_load rfl (S.at 4 rfl) (S.bx 0 rfl) Tryz.underlying27 rfl (vs := (aL b0_ x0_ y0_)) sz_Rat rfl) rfl
          | 14, ht =>
            cases ht
            exact so_val rfl rfl ((wanted_if rfl rfl rfl (show tG a 86 <| .bool false from hd 12 86 rfl (by kernel_rfl))).trans rfl) (rn_load rfl (S.at 2 rfl) (S.bx 2 rfl) Tryz.underlying27 rfl (vs := (aL b2_ x2_ y2_)) sz_Rat rfl) rfl
          | 15, ht =>
            cases ht
            exact so_lays rfl rfl ((wanted_if rfl rfl rfl (show tG a 86 <| .bool false from hd 12 86 rfl (by kernel_rfl))).trans rfl) (ly_qrow2 rfl (show tG a 87 <| (aG b0_ x0_ y0_) from hd 13 87 rfl (by kernel_rfl)) (show tG a 88 <| (aG b2_ x2_ y2_) from hd 14 88 rfl (by kernel_rfl)) (show Q1 40 (q0) ((aG b0_ x0_ y0_)) _ from ⟨b0_, x0_, y0_, rfl, hqa0, hkx0, hky0, (S.num 6 rfl), (S.num 7 rfl)⟩) (show Q1 40 (q2) ((aG b2_ x2_ y2_)) _ from ⟨b2_, x2_, y2_, rfl, hqa2, hkx2, hky2, (S.num 2 rfl), (S.num 3 rfl)⟩))
          | 16, ht =>
            cases ht
            exact so_call rfl rfl ((wanted_if rfl rfl rfl (show tG a 86 <| .bool false from hd 12 86 rfl (by kernel_rfl))).trans rfl) (rn_call1 ⟨_, rfl⟩ rfl (enters_of Tryz.func29 (by kernel_rfl) rfl)) (AM.mul2 (T.keep S.below) S.below ((show QL 40 6 ([q0, q2]) (a.tmps.getD 89 undef) V from hd 15 89 rfl (by kernel_rfl))).row (by omega))
          | 17, ht =>
            cases ht
            exact so_val rfl rfl ((wanted_if rfl rfl rfl (show tG a 86 <| .bool false from hd 12 86 rfl (by kernel_rfl))).trans rfl) (rn_load rfl (S.at 3 rfl) (S.bx 1 rfl) Tryz.underlying27 rfl (vs := (aL b1_ x1_ y1_)) sz_Rat rfl) rfl
          | 18, ht =>
            cases ht
            exact so_val rfl rfl ((wanted_if rfl rfl rfl (show tG a 86 <| .bool false from hd 12 86 rfl (by kernel_rfl))).trans rfl) (rn_load rfl (S.at 2 rfl) (S.bx 2 rfl) Tryz.underlying27 rfl (vs := (aL b2_ x2_ y2_)) sz_Rat rfl) rfl
          | 19, ht =>
            cases ht
            exact so_lays rfl rfl ((wanted_if rfl rfl rfl (show tG a 86 <| .bool false from hd 12 86 rfl (by kernel_rfl))).trans rfl) (ly_qrow2 rfl (show tG a 91 <| (aG b1_ x1_ y1_) from hd 17 91 rfl (by kernel_rfl)) (show tG a 92 <| (aG b2_ x2_ y2_) from hd 18 92 rfl (by kernel_rfl)) (show Q1 40 (q1) ((aG b1_ x1_ y1_)) _ from ⟨b1_, x1_, y1_, rfl, hqa1, hkx1, hky1, (S.num 4 rfl), (S.num 5 rfl)⟩) (show Q1 40 (q2) ((aG b2_ x2_ y2_)) _ from ⟨b2_, x2_, y2_, rfl, hqa2, hkx2, hky2, (S.num 2 rfl), (S.num 3 rfl)⟩))
          | 20, ht =>
            cases ht
            exact so_call rfl rfl ((wanted_if rfl rfl rfl (show tG a 86 <| .bool false from hd 12 86 rfl (by kernel_rfl))).trans rfl) (rn_call1 ⟨_, rfl⟩ rfl (enters_of Tryz.func29 (by kernel_rfl) rfl)) (AM.mul2 (T.keep S.below) S.below ((show QL 40 6 ([q1, q2]) (a.tmps.getD 93 undef) V from hd 19 93 rfl (by kernel_rfl))).row (by omega))
          | 21, ht =>
            cases ht
            exact so_call rfl rfl ((wanted_if rfl rfl rfl (show tG a 86 <| .bool false from hd 12 86 rfl (by kernel_rfl))).trans rfl) (rn_call2 ⟨_, rfl⟩ rfl rfl (enters_of Tryz.func17 (by kernel_rfl) rfl)) (p7Cmp (T.keep S.below) ((show QT 80 (q0 * q2) (a.tmps.getD 90 undef) V from hd 16 90 rfl (by kernel_rfl))).any ((show QT 80 (q1 * q2) (a.tmps.getD 94 undef) V from hd 20 94 rfl (by kernel_rfl))).any (by omega) (by omega))
          | 22, ht =>
            cases ht
            exact so_val rfl rfl ((wanted_if rfl rfl rfl (show tG a 86 <| .bool false from hd 12 86 rfl (by kernel_rfl))).trans rfl) (rn_move rfl (S.at 1 rfl)) rfl
          | 23, ht =>
            cases ht
            exact so_val rfl rfl ((wanted_if rfl rfl rfl (show tG a 86 <| .bool false from hd 12 86 rfl (by kernel_rfl))).trans rfl) (rn_load rfl (S.at 2 rfl) (S.bx 2 rfl) Tryz.underlying27 rfl (vs := (aL b2_ x2_ y2_)) sz_Rat rfl) rfl
          | 24, ht =>
            cases ht
            exact so_call rfl rfl ((wanted_if rfl rfl rfl (show tG a 86 <| .bool false from hd 12 86 rfl (by kernel_rfl))).trans rfl) (rn_call1 ⟨_, rfl⟩ (show tG a 97 <| (aG b2_ x2_ y2_) from hd 23 97 rfl (by kernel_rfl)) (enters_of Tryz.func15 (by kernel_rfl) rfl)) (p7Sign (T.keep S.below) (show Q1 40 (q2) ((aG b2_ x2_ y2_)) _ from ⟨b2_, x2_, y2_, rfl, hqa2, hkx2, hky2, (S.num 2 rfl), (S.num 3 rfl)⟩) (by omega))
          | 25, ht =>
            cases ht
            exact so_val rfl rfl ((wanted_if rfl rfl rfl (show tG a 86 <| .bool false from hd 12 86 rfl (by kernel_rfl))).trans rfl) (rn_mul rfl (show tG a 96 <| .int .i64 (cmpR q0 q1) from hd 22 96 rfl (by kernel_rfl)) (show tG a 98 <| .int .i64 (cmpR q2 0) from hd 24 98 rfl (by kernel_rfl)) (inr_cc _ _ _ _)) rfl
          | 26, ht =>
            cases ht
            exact so_val rfl rfl ((wanted_if rfl rfl rfl (show tG a 86 <| .bool false from hd 12 86 rfl (by kernel_rfl))).trans rfl) (rn_bool (rn_neq _ (by decide) rfl (show tG a 95 <| .int .i64 (cmpR (q0 * q2) (q1 * q2)) from hd 21 95 rfl (by kernel_rfl)) (show tG a 99 <| .int .i64 ((cmpR q0 q1) * (cmpR q2 0)) from hd 25 99 rfl (by kernel_rfl))) (show (!decide (cmpR (q0 * q2) (q1 * q2) = (cmpR q0 q1) * (cmpR q2 0))) = false from (by rw [cmpR_mul, signR]; simp))) rfl
          | 27, ht =>
            cases ht
            exact so_val rfl rfl (wanted_free rfl) (rn_pick false rfl (show tG a 86 <| .bool false from hd 12 86 rfl (by kernel_rfl)) (show tG a 100 <| .bool false from hd 26 100 rfl (by kernel_rfl))) rfl
          | k + 28, ht => simp at ht
        · intro a2 V11 S hB hf
          have S := S.add (show a2.tmps.getD 101 undef = .bool false from hf 27 101 rfl)
          clear hf S0
          show wpList _ _ _ [] _ _
          refine hK9 _ _ ?_
          refine wp_cond_false (S.at 0 rfl) ?_
          refine wp_skip ?_
          refine hK8 _ _ ?_
          refine wp_seq_k fun K10 hK10 => ?_
          have S := S.keep [3] (ls' := [(3, pT g1 0)]) rfl
          refine frm_plain ?_
          refine tl_val S (v := (aG b0_ x0_ y0_)) (rn_load rfl (S.at 0 rfl) (S.bx 0 rfl) Tryz.underlying27 rfl (vs := (aL b0_ x0_ y0_)) sz_Rat rfl) rfl rfl (by decide) (ls' := [(3, pT g1 0)]) rfl (fun a S => ?_)
          refine tl_call S (rn_call1 ⟨_, rfl⟩ (S.at 0 rfl) (enters_of Tryz.func38 (by kernel_rfl) rfl)) (F := ZT 41 (Rat.floor q0)) (p7Floor (T.keep S.below) (show Q1 40 (q0) ((aG b0_ x0_ y0_)) _ from ⟨b0_, x0_, y0_, rfl, hqa0, hkx0, hky0, (S.num 6 rfl), (S.num 7 rfl)⟩) (by omega)) rfl rfl (by decide) (ls' := [(102, (aG b0_ x0_ y0_)), (3, pT g1 0)]) rfl (fun v a V12 hF hb S => ?_)
          obtain ⟨b2, x2, rfl, hz1, hk3, ok3⟩ := hF
          have S := S.know ok3
          refine tl_box S (T := 25) (cs := [.bool false, .slice none 0 0]) (rn_alloc rfl (Tryz.zeroValue25 _) rfl) rfl rfl rfl (by decide) (ls' := [(103, (aZ b2 x2)), (102, (aG b0_ x0_ y0_)), (3, pT g1 0)]) rfl (lb' := fun g5 => [⟨g1, 27, (aL b0_ x0_ y0_)⟩, ⟨g2, 27, (aL b1_ x1_ y1_)⟩, ⟨g3, 27, (aL b2_ x2_ y2_)⟩, ⟨g4, 27, (aL b1 x1 y1)⟩, ⟨g5, 25, [.bool false, .slice none 0 0]⟩]) (fun _ => rfl) (fun g5 a V13 hgg5 S => ?_)
          refine tl_store S (i := 4) (vs := [.bool b2, aS x2]) rfl (fun ht => rn_store rfl (S.at 0 rfl) (S.at 1 rfl) sz_Int rfl (Nat.le_of_ble_eq_true rfl) ht) (Nat.le_of_ble_eq_true rfl) rfl rfl rfl (lb' := [⟨g1, 27, (aL b0_ x0_ y0_)⟩, ⟨g2, 27, (aL b1_ x1_ y1_)⟩, ⟨g3, 27, (aL b2_ x2_ y2_)⟩, ⟨g4, 27, (aL b1 x1 y1)⟩, ⟨g5, 25, [.bool b2, aS x2]⟩]) rfl (fun V14 S => ?_)
          refine hK10 _ _ ?_
          refine wp_seq_k fun K11 hK11 => ?_
          have S := S.keep [9, 3] (ls' := [(9, pT g5 0), (3, pT g1 0)]) rfl
          refine frm_plain ?_
          refine tl_val S (v := (aZ b2 x2)) (rn_load rfl (S.at 0 rfl) (S.bx 4 rfl) Tryz.underlying25 rfl (vs := [.bool b2, aS x2]) sz_Int rfl) rfl rfl (by decide) (ls' := [(9, pT g5 0), (3, pT g1 0)]) rfl (fun a S => ?_)
          refine tl_lays S (F := NT 1 ((1 : Nat))) (ly_oneT (c := 1) rfl (by decide) (by decide)) rfl rfl (by decide) (ls' := [(104, (aZ b2 x2)), (9, pT g5 0), (3, pT g1 0)]) rfl (fun v a V15 hF hb S => ?_)
          obtain ⟨x3, rfl, hN1, hn1, hk4, ok4⟩ := hF
          have S := S.know ok4
          refine tl_val S (v := (aG b2 x2 x3)) (rn_build2 rfl (S.at 1 rfl) (S.at 0 rfl) (bd_Rat _ _ _ _ _ _ _)) rfl rfl (by decide) (ls' := [(105, aS x3), (104, (aZ b2 x2)), (9, pT g5 0), (3, pT g1 0)]) rfl (fun a S => ?_)
          refine tl_box S (T := 27) (cs := [.bool false, .slice none 0 0, .slice none 0 0]) (rn_alloc rfl (Tryz.zeroValue27 _) rfl) rfl rfl rfl (by decide) (ls' := [(106, (aG b2 x2 x3)), (105, aS x3), (104, (aZ b2 x2)), (9, pT g5 0), (3, pT g1 0)]) rfl (lb' := fun g6 => [⟨g1, 27, (aL b0_ x0_ y0_)⟩, ⟨g2, 27, (aL b1_ x1_ y1_)⟩, ⟨g3, 27, (aL b2_ x2_ y2_)⟩, ⟨g4, 27, (aL b1 x1 y1)⟩, ⟨g5, 25, [.bool b2, aS x2]⟩, ⟨g6, 27, [.bool false, .slice none 0 0, .slice none 0 0]⟩]) (fun _ => rfl) (fun g6 a V16 hgg6 S => ?_)
          refine tl_store S (i := 5) (vs := (aL b2 x2 x3)) rfl (fun ht => rn_store rfl (S.at 0 rfl) (S.at 1 rfl) sz_Rat rfl (Nat.le_of_ble_eq_true rfl) ht) (Nat.le_of_ble_eq_true rfl) rfl rfl rfl (lb' := [⟨g1, 27, (aL b0_ x0_ y0_)⟩, ⟨g2, 27, (aL b1_ x1_ y1_)⟩, ⟨g3, 27, (aL b2_ x2_ y2_)⟩, ⟨g4, 27, (aL b1 x1 y1)⟩, ⟨g5, 25, [.bool b2, aS x2]⟩, ⟨g6, 27, (aL b2 x2 x3)⟩]) rfl (fun V17 S => ?_)
          refine hK11 _ _ ?_
          refine wp_seq_k fun K12 hK12 => ?_
          have S := S.keep [10, 3] (ls' := [(10, pT g6 0), (3, pT g1 0)]) rfl
          obtain ⟨W3, hW3⟩ : ∃ W, W = V17 := ⟨_, rfl⟩
          rw [← hW3] at S ⊢
          have S0 := S
          refine frm_region 16 [107, 108, 109, 110, 111, 112, 113, 114, 115, 116, 117, 118, 119, 120, 121, 122] (fun i v V => match i with
              | 0 => v = (aG b2 x2 x3)
              | 1 => v = (aG b0_ x0_ y0_)
              | 2 => v = .int .i64 (cmpR ((q0.floor : Int) : Rat) q0)
              | 3 => v = .bool true
              | 4 => v = .bool true
              | 5 => v = (aG b2 x2 x3)
              | 6 => QT 1 ((1 : Rat)) v V
              | 7 => QL 42 6 ([((q0.floor : Int) : Rat), (1 : Rat)]) v V
              | 8 => QT 85 (((q0.floor : Int) : Rat) + (1 : Rat)) v V
              | 9 => v = (aG b0_ x0_ y0_)
              | 10 => v = .int .i64 (cmpR (((q0.floor : Int) : Rat) + (1 : Rat)) q0)
              | 11 => v = .bool true
              | 12 => v = .bool true
              | 13 => v = .bool true
              | 14 => v = .bool true
              | _ => v = .bool true) S (by kernel_rfl) (by kernel_rfl) rfl (by decide) rfl rfl ?_ ?_ ?_
          · intro i v V V2 hf hb
            match i, hf with
            | 0, hf => exact hf
            | 1, hf => exact hf
            | 2, hf => exact hf
            | 3, hf => exact hf
            | 4, hf => exact hf
            | 5, hf => exact hf
            | 6, hf => exact QT.keep hf hb
            | 7, hf => exact QL.keep hf hb
            | 8, hf => exact QT.keep hf hb
            | 9, hf => exact hf
            | 10, hf => exact hf
            | 11, hf => exact hf
            | 12, hf => exact hf
            | 13, hf => exact hf
            | 14, hf => exact hf
            | _ + 15, hf => exact hf
          · intro i t ht a V S hB hd
            match i, ht with
            | 0, ht =>
              cases ht
              exact so_val rfl rfl (wanted_free rfl) (rn_load rfl (S.at 0 rfl) (S.bx 5 rfl) Tryz.underlying27 rfl (vs := (aL b2 x2 x3)) sz_Rat rfl) rfl
            | 1, ht =>
              cases ht
              exact so_val rfl rfl (wanted_free rfl) (rn_load rfl (S.at 1 rfl) (S.bx 0 rfl) Tryz.underlying27 rfl (vs := (aL b0_ x0_ y0_)) sz_Rat rfl) rfl
            | 2, ht =>
              cases ht
              exact so_call rfl rfl (wanted_free rfl) (rn_call2 ⟨_, rfl⟩ (show tG a 107 <| (aG b2 x2 x3) from hd 0 107 rfl (by kernel_rfl)) (show tG a 108 <| (aG b0_ x0_ y0_) from hd 1 108 rfl (by kernel_rfl)) (enters_of Tryz.func17 (by kernel_rfl) rfl)) (p7Cmp (T.keep S.below) (show QT 42 (((q0.floor : Int) : Rat)) ((aG b2 x2 x3)) _ from ⟨b2, x2, x3, rfl, isQ_n hz1 hN1 hn1, Nat.le_trans hk3 (by decide), Nat.le_trans hk4 (by decide), (S.num 1 rfl), (S.num 0 rfl)⟩).any (show Q1 40 (q0) ((aG b0_ x0_ y0_)) _ from ⟨b0_, x0_, y0_, rfl, hqa0, hkx0, hky0, (S.num 8 rfl), (S.num 9 rfl)⟩) (by omega) (by omega))
            | 3, ht =>
              cases ht
              exact so_val rfl rfl (wanted_free rfl) (rn_bool (rn_leq rfl (show tG a 109 <| .int .i64 (cmpR ((q0.floor : Int) : Rat) q0) from hd 2 109 rfl (by kernel_rfl)) rfl) (show (decide (cmpR ((q0.floor : Int) : Rat) q0 ≤ 0)) = true from (decide_eq_true (cmpR_le.2 (Rat.floor_le q0))))) rfl
            | 4, ht =>
              cases ht
              exact so_val rfl rfl (wanted_free rfl) (rn_move rfl (show tG a 110 <| .bool true from hd 3 110 rfl (by kernel_rfl))) rfl
            | 5, ht =>
              cases ht
              exact so_val rfl rfl ((wanted_if rfl rfl rfl (show tG a 111 <| .bool true from hd 4 111 rfl (by kernel_rfl))).trans rfl) (rn_load rfl (S.at 0 rfl) (S.bx 5 rfl) Tryz.underlying27 rfl (vs := (aL b2 x2 x3)) sz_Rat rfl) rfl
            | 6, ht =>
              cases ht
              exact so_call rfl rfl ((wanted_if rfl rfl rfl (show tG a 111 <| .bool true from hd 4 111 rfl (by kernel_rfl))).trans rfl) (rn_callc ⟨_, rfl⟩  (enters_of Tryz.func21 (by kernel_rfl) rfl)) p7Of1
            | 7, ht =>
              cases ht
              exact so_lays rfl rfl ((wanted_if rfl rfl rfl (show tG a 111 <| .bool true from hd 4 111 rfl (by kernel_rfl))).trans rfl) (ly_qrow2 rfl (show tG a 112 <| (aG b2 x2 x3) from hd 5 112 rfl (by kernel_rfl)) rfl (show QT 42 (((q0.floor : Int) : Rat)) ((aG b2 x2 x3)) _ from ⟨b2, x2, x3, rfl, isQ_n hz1 hN1 hn1, Nat.le_trans hk3 (by decide), Nat.le_trans hk4 (by decide), (S.num 1 rfl), (S.num 0 rfl)⟩).any ((((show QT 1 ((1 : Rat)) (a.tmps.getD 113 undef) V from hd 6 113 rfl (by kernel_rfl))).any).to rfl (by omega)))
            | 8, ht =>
              cases ht
              exact so_call rfl rfl ((wanted_if rfl rfl rfl (show tG a 111 <| .bool true from hd 4 111 rfl (by kernel_rfl))).trans rfl) (rn_call1 ⟨_, rfl⟩ rfl (enters_of Tryz.func27 (by kernel_rfl) rfl)) (AM.add2 (T.keep S.below) S.below ((show QL 42 6 ([((q0.floor : Int) : Rat), (1 : Rat)]) (a.tmps.getD 114 undef) V from hd 7 114 rfl (by kernel_rfl))).row (by omega))
            | 9, ht =>
              cases ht
              exact so_val rfl rfl ((wanted_if rfl rfl rfl (show tG a 111 <| .bool true from hd 4 111 rfl (by kernel_rfl))).trans rfl) (rn_load rfl (S.at 1 rfl) (S.bx 0 rfl) Tryz.underlying27 rfl (vs := (aL b0_ x0_ y0_)) sz_Rat rfl) rfl
            | 10, ht =>
              cases ht
              exact so_call rfl rfl ((wanted_if rfl rfl rfl (show tG a 111 <| .bool true from hd 4 111 rfl (by kernel_rfl))).trans rfl) (rn_call2 ⟨_, rfl⟩ rfl (show tG a 116 <| (aG b0_ x0_ y0_) from hd 9 116 rfl (by kernel_rfl)) (enters_of Tryz.func17 (by kernel_rfl) rfl)) (p7Cmp (T.keep S.below) ((show QT 85 (((q0.floor : Int) : Rat) + (1 : Rat)) (a.tmps.getD 115 undef) V from hd 8 115 rfl (by kernel_rfl))).any (show Q1 40 (q0) ((aG b0_ x0_ y0_)) _ from ⟨b0_, x0_, y0_, rfl, hqa0, hkx0, hky0, (S.num 8 rfl), (S.num 9 rfl)⟩) (by omega) (by omega))
            | 11, ht =>
              cases ht
              exact so_val rfl rfl ((wanted_if rfl rfl rfl (show tG a 111 <| .bool true from hd 4 111 rfl (by kernel_rfl))).trans rfl) (rn_bool (rn_gtr rfl (show tG a 117 <| .int .i64 (cmpR (((q0.floor : Int) : Rat) + (1 : Rat)) q0) from hd 10 117 rfl (by kernel_rfl)) rfl) (show (decide (0 < cmpR (((q0.floor : Int) : Rat) + (1 : Rat)) q0)) = true from (decide_eq_true (low_gt q0)))) rfl
            | 12, ht =>
              cases ht
              exact so_val rfl rfl (wanted_free rfl) (rn_pick true rfl (show tG a 111 <| .bool true from hd 4 111 rfl (by kernel_rfl)) (show tG a 118 <| .bool true from hd 11 118 rfl (by kernel_rfl))) rfl
            | 13, ht =>
              cases ht
              exact so_val rfl rfl (wanted_free rfl) (rn_move rfl (show tG a 119 <| .bool true from hd 12 119 rfl (by kernel_rfl))) rfl
            | 14, ht =>
              cases ht
              exact so_call rfl rfl ((wanted_if rfl rfl rfl (show tG a 120 <| .bool true from hd 13 120 rfl (by kernel_rfl))).trans rfl) (rn_call0 ⟨_, rfl⟩  (enters_of Tryz.func9 (by kernel_rfl) rfl)) (l7wakes (T.keep S.below))
            | 15, ht =>
              cases ht
              exact so_val rfl rfl (wanted_free rfl) (rn_pick true rfl (show tG a 120 <| .bool true from hd 13 120 rfl (by kernel_rfl)) (show tG a 121 <| .bool true from hd 14 121 rfl (by kernel_rfl))) rfl
            | k + 16, ht => simp at ht
          · intro a3 V18 S hB hf
            have S := S.add (show a3.tmps.getD 122 undef = .bool true from hf 15 122 rfl)
            clear hf S0
            show wpList _ _ _ [_] _ _
            refine tl_val S (v := .bool true) (rn_assign rfl (S.at 0 rfl)) rfl rfl (by decide) (ls' := [(122, .bool true), (10, pT g6 0), (3, pT g1 0)]) rfl (fun a S => ?_)
            refine hK12 _ _ ?_
            refine wp_ret ?_
            exact frm_ret1 rfl S (S.at 0 rfl) ⟨_, rfl, rfl, S.below⟩
    · skip
      have S := S.keep [7, 5, 4, 3] (ls' := [(7, .int .i64 (cmpR q0 q1)), (5, pT g3 0), (4, pT g2 0), (3, pT g1 0)]) rfl
      obtain ⟨W4, hW4⟩ : ∃ W, W = V6 := ⟨_, rfl⟩
      rw [← hW4] at S ⊢
      have S0 := S
      refine frm_region 51 [20, 21, 22, 23, 24, 25, 26, 27, 28, 29, 30, 31, 32, 33, 34, 35, 36, 37, 38, 39, 40, 41, 42, 43, 44, 45, 46, 47, 48, 49, 50, 51, 52, 53, 54, 55, 56, 57, 58, 59, 60, 61, 62, 63, 64, 65, 66, 67, 68, 69, 70] (fun i v V => match i with
          | 0 => v = .int .i64 (cmpR q0 q1)
          | 1 => v = .bool false
          | 2 => v = .bool false
          | 3 => v = .int .i64 (cmpR q0 q1)
          | 4 => v = .bool false
          | 5 => v = .bool false
          | 6 => v = .bool false
          | 7 => v = (aG b1_ x1_ y1_)
          | 8 => v = (aG b0_ x0_ y0_)
          | 9 => v = .int .i64 (cmpR q1 q0)
          | 10 => v = .int .i64 (cmpR q0 q1)
          | 11 => v = .int .i64 (-(cmpR q0 q1))
          | 12 => v = .bool false
          | 13 => v = .bool false
          | 14 => v = .bool false
          | 15 => v = .int .i64 (cmpR q0 q1)
          | 16 => v = .bool true
          | 17 => v = .bool true
          | 18 => v = (aG b1_ x1_ y1_)
          | 19 => v = (aG b2_ x2_ y2_)
          | 20 => v = .int .i64 (cmpR q1 q2)
          | 21 => v = .bool false
          | 22 => v = .bool false
          | 23 => v = .bool false
          | 24 => v = undef
          | 25 => v = undef
          | 26 => v = undef
          | 27 => v = undef
          | 28 => v = .bool false
          | 29 => v = .bool false
          | 30 => v = .bool false
          | 31 => v = (aG b0_ x0_ y0_)
          | 32 => v = (aG b1_ x1_ y1_)
          | 33 => v = .bool (decide (cmpR q0 q1 = 0))
          | 34 => v = .int .i64 (cmpR q0 q1)
          | 35 => v = .bool (decide (cmpR q0 q1 = 0))
          | 36 => v = .bool false
          | 37 => v = .bool false
          | 38 => v = .bool false
          | 39 => v = (aG b0_ x0_ y0_)
          | 40 => v = (aG b2_ x2_ y2_)
          | 41 => QL 40 6 ([q0, q2]) v V
          | 42 => QT 81 (q0 + q2) v V
          | 43 => v = (aG b1_ x1_ y1_)
          | 44 => v = (aG b2_ x2_ y2_)
          | 45 => QL 40 6 ([q1, q2]) v V
          | 46 => QT 81 (q1 + q2) v V
          | 47 => v = .int .i64 (cmpR (q0 + q2) (q1 + q2))
          | 48 => v = .int .i64 (cmpR q0 q1)
          | 49 => v = .bool false
          | _ => v = .bool false) S (by kernel_rfl) (by kernel_rfl) rfl (by decide) rfl rfl ?_ ?_ ?_
      · intro i v V V2 hf hb
        match i, hf with
        | 0, hf => exact hf
        | 1, hf => exact hf
        | 2, hf => exact hf
        | 3, hf => exact hf
        | 4, hf => exact hf
        | 5, hf => exact hf
        | 6, hf => exact hf
        | 7, hf => exact hf
        | 8, hf => exact hf
        | 9, hf => exact hf
        | 10, hf => exact hf
        | 11, hf => exact hf
        | 12, hf => exact hf
        | 13, hf => exact hf
        | 14, hf => exact hf
        | 15, hf => exact hf
        | 16, hf => exact hf
        | 17, hf => exact hf
        | 18, hf => exact hf
        | 19, hf => exact hf
        | 20, hf => exact hf
        | 21, hf => exact hf
        | 22, hf => exact hf
        | 23, hf => exact hf
        | 24, hf => exact hf
        | 25, hf => exact hf
        | 26, hf => exact hf
        | 27, hf => exact hf
        | 28, hf => exact hf
        | 29, hf => exact hf
        | 30, hf => exact hf
        | 31, hf => exact hf
        | 32, hf => exact hf
        | 33, hf => exact hf
        | 34, hf => exact hf
        | 35, hf => exact hf
        | 36, hf => exact hf
        | 37, hf => exact hf
        | 38, hf => exact hf
        | 39, hf => exact hf
        | 40, hf => exact hf
        | 41, hf => exact QL.keep hf hb
        | 42, hf => exact QT.keep hf hb
        | 43, hf => exact hf
        | 44, hf => exact hf
        | 45, hf => exact QL.keep hf hb
        | 46, hf => exact QT.keep hf hb
        | 47, hf => exact hf
        | 48, hf => exact hf
        | 49, hf => exact hf
        | _ + 50, hf => exact hf
      · intro i t ht a V S hB hd
        match i, ht with
        | 0, ht =>
          cases ht
          exact so_val rfl rfl (wanted_free rfl) (rn_move rfl (S.at 0 rfl)) rfl
        | 1, ht =>
          cases ht
          exact so_val rfl rfl (wanted_free rfl) (rn_bool (rn_lss rfl (show tG a 20 <| .int .i64 (cmpR q0 q1) from hd 0 20 rfl (by kernel_rfl)) rfl) (show (decide (cmpR q0 q1 < -1)) = false from (decide_eq_false (by have := cmpR_range q0 q1; omega)))) rfl
        | 2, ht =>
          cases ht
          exact so_val rfl rfl (wanted_free rfl) (rn_move rfl (show tG a 21 <| .bool false from hd 1 21 rfl (by kernel_rfl))) rfl
        | 3, ht =>
          cases ht
          exact so_val rfl rfl ((wanted_if rfl rfl rfl (show tG a 22 <| .bool false from hd 2 22 rfl (by kernel_rfl))).trans rfl) (rn_move rfl (S.at 0 rfl)) rfl
        | 4, ht =>
          cases ht
          exact so_val rfl rfl ((wanted_if rfl rfl rfl (show tG a 22 <| .bool false from hd 2 22 rfl (by kernel_rfl))).trans rfl) (rn_bool (rn_gtr rfl (show tG a 23 <| .int .i64 (cmpR q0 q1) from hd 3 23 rfl (by kernel_rfl)) rfl) (show (decide (1 < cmpR q0 q1)) = false from (decide_eq_false (by have := cmpR_range q0 q1; omega)))) rfl
        | 5, ht =>
          cases ht
          exact so_val rfl rfl (wanted_free rfl) (rn_pick false rfl (show tG a 22 <| .bool false from hd 2 22 rfl (by kernel_rfl)) (show tG a 24 <| .bool false from hd 4 24 rfl (by kernel_rfl))) rfl
        | 6, ht =>
          cases ht
          exact so_val rfl rfl (wanted_free rfl) (rn_move rfl (show tG a 25 <| .bool false from hd 5 25 rfl (by kernel_rfl))) rfl
        | 7, ht =>
          cases ht
          exact so_val rfl rfl ((wanted_if rfl rfl rfl (show tG a 26 <| .bool false from hd 6 26 rfl (by kernel_rfl))).trans rfl) (rn_load rfl (S.at 2 rfl) (S.bx 1 rfl) Tryz.underlying27 rfl (vs := (aL b1_ x1_ y1_)) sz_Rat rfl) rfl
        | 8, ht =>
          cases ht
          exact so_val rfl rfl ((wanted_if rfl rfl rfl (show tG a 26 <| .bool false from hd 6 26 rfl (by kernel_rfl))).trans rfl) (rn_load rfl (S.at 3 rfl) (S.bx 0 rfl) Tryz.underlying27 rfl (vs := (aL b0_ x0_ y0_)) sz_Rat rfl) rfl
        | 9, ht =>
          cases ht
          exact so_call rfl rfl ((wanted_if rfl rfl rfl (show tG a 26 <| .bool false from hd 6 26 rfl (by kernel_rfl))).trans rfl) (rn_call2 ⟨_, rfl⟩ (show tG a 27 <| (aG b1_ x1_ y1_) from hd 7 27 rfl (by kernel_rfl)) (show tG a 28 <| (aG b0_ x0_ y0_) from hd 8 28 rfl (by kernel_rfl)) (enters_of Tryz.func17 (by kernel_rfl) rfl)) (p7Cmp (T.keep S.below) (show Q1 40 (q1) ((aG b1_ x1_ y1_)) _ from ⟨b1_, x1_, y1_, rfl, hqa1, hkx1, hky1, (S.num 2 rfl), (S.num 3 rfl)⟩) (show Q1 40 (q0) ((aG b0_ x0_ y0_)) _ from ⟨b0_, x0_, y0_, rfl, hqa0, hkx0, hky0, (S.num 4 rfl), (S.num 5 rfl)⟩) (by omega) (by omega))
        | 10, ht =>
          cases ht
          exact so_val rfl rfl ((wanted_if rfl rfl rfl (show tG a 26 <| .bool false from hd 6 26 rfl (by kernel_rfl))).trans rfl) (rn_move rfl (S.at 0 rfl)) rfl
        | 11, ht =>
          cases ht
          exact so_val rfl rfl ((wanted_if rfl rfl rfl (show tG a 26 <| .bool false from hd 6 26 rfl (by kernel_rfl))).trans rfl) (rn_neg rfl (show tG a 30 <| .int .i64 (cmpR q0 q1) from hd 10 30 rfl (by kernel_rfl)) (inr_neg _ _)) rfl
        | 12, ht =>
          cases ht
          exact so_val rfl rfl ((wanted_if rfl rfl rfl (show tG a 26 <| .bool false from hd 6 26 rfl (by kernel_rfl))).trans rfl) (rn_bool (rn_neq _ (by decide) rfl (show tG a 29 <| .int .i64 (cmpR q1 q0) from hd 9 29 rfl (by kernel_rfl)) (show tG a 31 <| .int .i64 (-(cmpR q0 q1)) from hd 11 31 rfl (by kernel_rfl))) (show (!decide (cmpR q1 q0 = -(cmpR q0 q1))) = false from (by rw [cmpR_neg q0 q1]; simp))) rfl
        | 13, ht =>
          cases ht
          exact so_val rfl rfl (wanted_free rfl) (rn_pick false rfl (show tG a 26 <| .bool false from hd 6 26 rfl (by kernel_rfl)) (show tG a 32 <| .bool false from hd 12 32 rfl (by kernel_rfl))) rfl
        | 14, ht =>
          cases ht
          exact so_val rfl rfl (wanted_free rfl) (rn_move rfl (show tG a 33 <| .bool false from hd 13 33 rfl (by kernel_rfl))) rfl
        | 15, ht =>
          cases ht
          exact so_val rfl rfl ((wanted_if rfl rfl rfl (show tG a 34 <| .bool false from hd 14 34 rfl (by kernel_rfl))).trans rfl) (rn_move rfl (S.at 0 rfl)) rfl
        | 16, ht =>
          cases ht
          exact so_val rfl rfl ((wanted_if rfl rfl rfl (show tG a 34 <| .bool false from hd 14 34 rfl (by kernel_rfl))).trans rfl) (rn_bool (rn_leq rfl (show tG a 35 <| .int .i64 (cmpR q0 q1) from hd 15 35 rfl (by kernel_rfl)) rfl) (show (decide (cmpR q0 q1 ≤ 0)) = true from hs1)) rfl
        | 17, ht =>
          cases ht
          exact so_val rfl rfl ((wanted_if rfl rfl rfl (show tG a 34 <| .bool false from hd 14 34 rfl (by kernel_rfl))).trans rfl) (rn_move rfl (show tG a 36 <| .bool true from hd 16 36 rfl (by kernel_rfl))) rfl
        | 18, ht =>
          cases ht
          exact so_val rfl rfl ((wanted_if rfl rfl rfl (show tG a 37 <| .bool true from hd 17 37 rfl (by kernel_rfl))).trans rfl) (rn_load rfl (S.at 2 rfl) (S.bx 1 rfl) Tryz.underlying27 rfl (vs := (aL b1_ x1_ y1_)) sz_Rat rfl) rfl
        | 19, ht =>
          cases ht
          exact so_val rfl rfl ((wanted_if rfl rfl rfl (show tG a 37 <| .bool true from hd 17 37 rfl (by kernel_rfl))).trans rfl) (rn_load rfl (S.at 1 rfl) (S.bx 2 rfl) Tryz.underlying27 rfl (vs := (aL b2_ x2_ y2_)) sz_Rat rfl) rfl
        | 20, ht =>
          cases ht
          exact so_call rfl rfl ((wanted_if rfl rfl rfl (show tG a 37 <| .bool true from hd 17 37 rfl (by kernel_rfl))).trans rfl) (rn_call2 ⟨_, rfl⟩ (show tG a 38 <| (aG b1_ x1_ y1_) from hd 18 38 rfl (by kernel_rfl)) (show tG a 39 <| (aG b2_ x2_ y2_) from hd 19 39 rfl (by kernel_rfl)) (enters_of Tryz.func17 (by kernel_rfl) rfl)) (p7Cmp (T.keep S.below) (show Q1 40 (q1) ((aG b1_ x1_ y1_)) _ from ⟨b1_, x1_, y1_, rfl, hqa1, hkx1, hky1, (S.num 2 rfl), (S.num 3 rfl)⟩) (show Q1 40 (q2) ((aG b2_ x2_ y2_)) _ from ⟨b2_, x2_, y2_, rfl, hqa2, hkx2, hky2, (S.num 0 rfl), (S.num 1 rfl)⟩) (by omega) (by omega))
        | 21, ht =>
          cases ht
          exact so_val rfl rfl ((wanted_if rfl rfl rfl (show tG a 37 <| .bool true from hd 17 37 rfl (by kernel_rfl))).trans rfl) (rn_bool (rn_leq rfl (show tG a 40 <| .int .i64 (cmpR q1 q2) from hd 20 40 rfl (by kernel_rfl)) rfl) (show (decide (cmpR q1 q2 ≤ 0)) = false from hs2)) rfl
        | 22, ht =>
          cases ht
          exact so_val rfl rfl ((wanted_if rfl rfl rfl (show tG a 34 <| .bool false from hd 14 34 rfl (by kernel_rfl))).trans rfl) (rn_pick true rfl (show tG a 37 <| .bool true from hd 17 37 rfl (by kernel_rfl)) (show tG a 41 <| .bool false from hd 21 41 rfl (by kernel_rfl))) rfl
        | 23, ht =>
          cases ht
          exact so_val rfl rfl ((wanted_if rfl rfl rfl (show tG a 34 <| .bool false from hd 14 34 rfl (by kernel_rfl))).trans rfl) (rn_move rfl (show tG a 42 <| .bool false from hd 22 42 rfl (by kernel_rfl))) rfl
        | 24, ht =>
          cases ht
          exact so_skip rfl rfl ((wanted_if rfl rfl rfl (show tG a 43 <| .bool false from hd 23 43 rfl (by kernel_rfl))).trans rfl) rfl
        | 25, ht =>
          cases ht
          exact so_skip rfl rfl ((wanted_if rfl rfl rfl (show tG a 43 <| .bool false from hd 23 43 rfl (by kernel_rfl))).trans rfl) rfl
        | 26, ht =>
          cases ht
          exact so_skip rfl rfl ((wanted_if rfl rfl rfl (show tG a 43 <| .bool false from hd 23 43 rfl (by kernel_rfl))).trans rfl) rfl
        | 27, ht =>
          cases ht
          exact so_skip rfl rfl ((wanted_if rfl rfl rfl (show tG a 43 <| .bool false from hd 23 43 rfl (by kernel_rfl))).trans rfl) rfl
        | 28, ht =>
          cases ht
          exact so_val rfl rfl ((wanted_if rfl rfl rfl (show tG a 34 <| .bool false from hd 14 34 rfl (by kernel_rfl))).trans rfl) (rn_pick false rfl (show tG a 43 <| .bool false from hd 23 43 rfl (by kernel_rfl)) rfl) rfl
        | 29, ht =>
          cases ht
          exact so_val rfl rfl (wanted_free rfl) (rn_pick false rfl (show tG a 34 <| .bool false from hd 14 34 rfl (by kernel_rfl)) (show tG a 48 <| .bool false from hd 28 48 rfl (by kernel_rfl))) rfl
        | 30, ht =>
          cases ht
          exact so_val rfl rfl (wanted_free rfl) (rn_move rfl (show tG a 49 <| .bool false from hd 29 49 rfl (by kernel_rfl))) rfl
        | 31, ht =>
          cases ht
          exact so_val rfl rfl ((wanted_if rfl rfl rfl (show tG a 50 <| .bool false from hd 30 50 rfl (by kernel_rfl))).trans rfl) (rn_load rfl (S.at 3 rfl) (S.bx 0 rfl) Tryz.underlying27 rfl (vs := (aL b0_ x0_ y0_)) sz_Rat rfl) rfl
        | 32, ht =>
          cases ht
          exact so_val rfl rfl ((wanted_if rfl rfl rfl (show tG a 50 <| .bool false from hd 30 50 rfl (by kernel_rfl))).trans rfl) (rn_load rfl (S.at 2 rfl) (S.bx 1 rfl) Tryz.underlying27 rfl (vs := (aL b1_ x1_ y1_)) sz_Rat rfl) rfl
        | 33, ht =>
          cases ht
          exact so_call rfl rfl ((wanted_if rfl rfl rfl (show tG a 50 <| .bool false from hd 30 50 rfl (by kernel_rfl))).trans rfl) (rn_call2 ⟨_, rfl⟩ (show tG a 51 <| (aG b0_ x0_ y0_) from hd 31 51 rfl (by kernel_rfl)) (show tG a 52 <| (aG b1_ x1_ y1_) from hd 32 52 rfl (by kernel_rfl)) (enters_of Tryz.func19 (by kernel_rfl) rfl)) (p7Same (T.keep S.below) (show Q1 40 (q0) ((aG b0_ x0_ y0_)) _ from ⟨b0_, x0_, y0_, rfl, hqa0, hkx0, hky0, (S.num 4 rfl), (S.num 5 rfl)⟩) (show Q1 40 (q1) ((aG b1_ x1_ y1_)) _ from ⟨b1_, x1_, y1_, rfl, hqa1, hkx1, hky1, (S.num 2 rfl), (S.num 3 rfl)⟩) (by omega) (by omega))
        | 34, ht =>
          cases ht
          exact so_val rfl rfl ((wanted_if rfl rfl rfl (show tG a 50 <| .bool false from hd 30 50 rfl (by kernel_rfl))).trans rfl) (rn_move rfl (S.at 0 rfl)) rfl
        | 35, ht =>
          cases ht
          exact so_val rfl rfl ((wanted_if rfl rfl rfl (show tG a 50 <| .bool false from hd 30 50 rfl (by kernel_rfl))).trans rfl) (rn_eql _ (by decide) rfl (show tG a 54 <| .int .i64 (cmpR q0 q1) from hd 34 54 rfl (by kernel_rfl)) rfl) rfl
        | 36, ht =>
          cases ht
          exact so_val rfl rfl ((wanted_if rfl rfl rfl (show tG a 50 <| .bool false from hd 30 50 rfl (by kernel_rfl))).trans rfl) (rn_bool (rn_neqb rfl (show tG a 53 <| .bool (decide (cmpR q0 q1 = 0)) from hd 33 53 rfl (by kernel_rfl)) (show tG a 55 <| .bool (decide (cmpR q0 q1 = 0)) from hd 35 55 rfl (by kernel_rfl))) (show ((decide (cmpR q0 q1 = 0)) != (decide (cmpR q0 q1 = 0))) = false from (by simp))) rfl
        | 37, ht =>
          cases ht
          exact so_val rfl rfl (wanted_free rfl) (rn_pick false rfl (show tG a 50 <| .bool false from hd 30 50 rfl (by kernel_rfl)) (show tG a 56 <| .bool false from hd 36 56 rfl (by kernel_rfl))) rfl
        | 38, ht =>
          cases ht
          exact so_val rfl rfl (wanted_free rfl) (rn_move rfl (show tG a 57 <| .bool false from hd 37 57 rfl (by kernel_rfl))) rfl
        | 39, ht =>
          cases ht
          exact so_val rfl rfl ((wanted_if rfl rfl rfl (show tG a 58 <| .bool false from hd 38 58 rfl (by kernel_rfl))).trans rfl) (rn_load rfl (S.at 3 rfl) (S.bx 0 rfl) Tryz.underlying27 rfl (vs := (aL b0_ x0_ y0_)) sz_Rat rfl) rfl
        | 40, ht =>
          cases ht
          exact so_val rfl rfl ((wanted_if rfl rfl rfl (show tG a 58 <| .bool false from hd 38 58 rfl (by kernel_rfl))).trans rfl) (rn_load rfl (S.at 1 rfl) (S.bx 2 rfl) Tryz.underlying27 rfl (vs := (aL b2_ x2_ y2_)) sz_Rat rfl) rfl
        | 41, ht =>
          cases ht
          exact so_lays rfl rfl ((wanted_if rfl rfl rfl (show tG a 58 <| .bool false from hd 38 58 rfl (by kernel_rfl))).trans rfl) (ly_qrow2 rfl (show tG a 59 <| (aG b0_ x0_ y0_) from hd 39 59 rfl (by kernel_rfl)) (show tG a 60 <| (aG b2_ x2_ y2_) from hd 40 60 rfl (by kernel_rfl)) (show Q1 40 (q0) ((aG b0_ x0_ y0_)) _ from ⟨b0_, x0_, y0_, rfl, hqa0, hkx0, hky0, (S.num 4 rfl), (S.num 5 rfl)⟩) (show Q1 40 (q2) ((aG b2_ x2_ y2_)) _ from ⟨b2_, x2_, y2_, rfl, hqa2, hkx2, hky2, (S.num 0 rfl), (S.num 1 rfl)⟩))
        | 42, ht =>
          cases ht
          exact so_call rfl rfl ((wanted_if rfl rfl rfl (show tG a 58 <| .bool false from hd 38 58 rfl (by kernel_rfl))).trans rfl) (rn_call1 ⟨_, rfl⟩ rfl (enters_of Tryz.func27 (by kernel_rfl) rfl)) (AM.add2 (T.keep S.below) S.below ((show QL 40 6 ([q0, q2]) (a.tmps.getD 61 undef) V from hd 41 61 rfl (by kernel_rfl))).row (by omega))
        | 43, ht =>
          cases ht
          exact so_val rfl rfl ((wanted_if rfl rfl rfl (show tG a 58 <| .bool false from hd 38 58 rfl (by kernel_rfl))).trans rfl) (rn_load rfl (S.at 2 rfl) (S.bx 1 rfl) Tryz.underlying27 rfl (vs := (aL b1_ x1_ y1_)) sz_Rat rfl) rfl
        | 44, ht =>
          cases ht
          exact so_val rfl rfl ((wanted_if rfl rfl rfl (show tG a 58 <| .bool false from hd 38 58 rfl (by kernel_rfl))).trans rfl) (rn_load rfl (S.at 1 rfl) (S.bx 2 rfl) Tryz.underlying27 rfl (vs := (aL b2_ x2_ y2_)) sz_Rat rfl) rfl
        | 45, ht =>
          cases ht
          exact so_lays rfl rfl ((wanted_if rfl rfl rfl (show tG a 58 <| .bool false from hd 38 58 rfl (by kernel_rfl))).trans rfl) (ly_qrow2 rfl (show tG a 63 <| (aG b1_ x1_ y1_) from hd 43 63 rfl (by kernel_rfl)) (show tG a 64 <| (aG b2_ x2_ y2_) from hd 44 64 rfl (by kernel_rfl)) (show Q1 40 (q1) ((aG b1_ x1_ y1_)) _ from ⟨b1_, x1_, y1_, rfl, hqa1, hkx1, hky1, (S.num 2 rfl), (S.num 3 rfl)⟩) (show Q1 40 (q2) ((aG b2_ x2_ y2_)) _ from ⟨b2_, x2_, y2_, rfl, hqa2, hkx2, hky2, (S.num 0 rfl), (S.num 1 rfl)⟩))
        | 46, ht =>
          cases ht
          exact so_call rfl rfl ((wanted_if rfl rfl rfl (show tG a 58 <| .bool false from hd 38 58 rfl (by kernel_rfl))).trans rfl) (rn_call1 ⟨_, rfl⟩ rfl (enters_of Tryz.func27 (by kernel_rfl) rfl)) (AM.add2 (T.keep S.below) S.below ((show QL 40 6 ([q1, q2]) (a.tmps.getD 65 undef) V from hd 45 65 rfl (by kernel_rfl))).row (by omega))
        | 47, ht =>
          cases ht
          exact so_call rfl rfl ((wanted_if rfl rfl rfl (show tG a 58 <| .bool false from hd 38 58 rfl (by kernel_rfl))).trans rfl) (rn_call2 ⟨_, rfl⟩ rfl rfl (enters_of Tryz.func17 (by kernel_rfl) rfl)) (p7Cmp (T.keep S.below) ((show QT 81 (q0 + q2) (a.tmps.getD 62 undef) V from hd 42 62 rfl (by kernel_rfl))).any ((show QT 81 (q1 + q2) (a.tmps.getD 66 undef) V from hd 46 66 rfl (by kernel_rfl))).any (by omega) (by omega))
        | 48, ht =>
          cases ht
          exact so_val rfl rfl ((wanted_if rfl rfl rfl (show tG a 58 <| .bool false from hd 38 58 rfl (by kernel_rfl))).trans rfl) (rn_move rfl (S.at 0 rfl)) rfl
        | 49, ht =>
          cases ht
          exact so_val rfl rfl ((wanted_if rfl rfl rfl (show tG a 58 <| .bool false from hd 38 58 rfl (by kernel_rfl))).trans rfl) (rn_bool (rn_neq _ (by decide) rfl (show tG a 67 <| .int .i64 (cmpR (q0 + q2) (q1 + q2)) from hd 47 67 rfl (by kernel_rfl)) (show tG a 68 <| .int .i64 (cmpR q0 q1) from hd 48 68 rfl (by kernel_rfl))) (show (!decide (cmpR (q0 + q2) (q1 + q2) = cmpR q0 q1)) = false from (by rw [cmpR_add]; simp))) rfl
        | 50, ht =>
          cases ht
          exact so_val rfl rfl (wanted_free rfl) (rn_pick false rfl (show tG a 58 <| .bool false from hd 38 58 rfl (by kernel_rfl)) (show tG a 69 <| .bool false from hd 49 69 rfl (by kernel_rfl))) rfl
        | k + 51, ht => simp at ht
      · intro a4 V19 S hB hf
        have S := S.add (show a4.tmps.getD 70 undef = .bool false from hf 50 70 rfl)
        clear hf S0
        show wpList _ _ _ [] _ _
        refine hK6 _ _ ?_
        refine wp_cond_false (S.at 0 rfl) ?_
        refine wp_skip ?_
        refine hK5 _ _ ?_
        refine wp_seq_k fun K13 hK13 => ?_
        have S := S.keep [7, 5, 4, 3] (ls' := [(7, .int .i64 (cmpR q0 q1)), (5, pT g3 0), (4, pT g2 0), (3, pT g1 0)]) rfl
        refine frm_plain ?_
        refine tl_val S (v := (aG b0_ x0_ y0_)) (rn_load rfl (S.at 3 rfl) (S.bx 0 rfl) Tryz.underlying27 rfl (vs := (aL b0_ x0_ y0_)) sz_Rat rfl) rfl rfl (by decide) (ls' := [(7, .int .i64 (cmpR q0 q1)), (5, pT g3 0), (4, pT g2 0), (3, pT g1 0)]) rfl (fun a S => ?_)
        refine tl_val S (v := (aG b1_ x1_ y1_)) (rn_load rfl (S.at 3 rfl) (S.bx 1 rfl) Tryz.underlying27 rfl (vs := (aL b1_ x1_ y1_)) sz_Rat rfl) rfl rfl (by decide) (ls' := [(71, (aG b0_ x0_ y0_)), (7, .int .i64 (cmpR q0 q1)), (5, pT g3 0), (4, pT g2 0), (3, pT g1 0)]) rfl (fun a S => ?_)
        refine tl_call S (rn_call2 ⟨_, rfl⟩ (S.at 1 rfl) (S.at 0 rfl) (enters_of Tryz.func35 (by kernel_rfl) rfl)) (F := QT 82 ((q0 + q1) / 2)) (p7Mid (T.keep S.below) (show Q1 40 (q0) ((aG b0_ x0_ y0_)) _ from ⟨b0_, x0_, y0_, rfl, hqa0, hkx0, hky0, (S.num 4 rfl), (S.num 5 rfl)⟩) (show Q1 40 (q1) ((aG b1_ x1_ y1_)) _ from ⟨b1_, x1_, y1_, rfl, hqa1, hkx1, hky1, (S.num 2 rfl), (S.num 3 rfl)⟩) (by omega) (by omega)) rfl rfl (by decide) (ls' := [(72, (aG b1_ x1_ y1_)), (71, (aG b0_ x0_ y0_)), (7, .int .i64 (cmpR q0 q1)), (5, pT g3 0), (4, pT g2 0), (3, pT g1 0)]) rfl (fun v a V20 hF hb S => ?_)
        obtain ⟨b3, x4, y2, rfl, hq2, hk5, hk6, ok5, ok6⟩ := hF
        have S := S.know ok5
        have S := S.know ok6
        refine tl_box S (T := 27) (cs := [.bool false, .slice none 0 0, .slice none 0 0]) (rn_alloc rfl (Tryz.zeroValue27 _) rfl) rfl rfl rfl (by decide) (ls' := [(73, (aG b3 x4 y2)), (72, (aG b1_ x1_ y1_)), (71, (aG b0_ x0_ y0_)), (7, .int .i64 (cmpR q0 q1)), (5, pT g3 0), (4, pT g2 0), (3, pT g1 0)]) rfl (lb' := fun g7 => [⟨g1, 27, (aL b0_ x0_ y0_)⟩, ⟨g2, 27, (aL b1_ x1_ y1_)⟩, ⟨g3, 27, (aL b2_ x2_ y2_)⟩, ⟨g7, 27, [.bool false, .slice none 0 0, .slice none 0 0]⟩]) (fun _ => rfl) (fun g7 a V21 hgg7 S => ?_)
        refine tl_store S (i := 3) (vs := (aL b3 x4 y2)) rfl (fun ht => rn_store rfl (S.at 0 rfl) (S.at 1 rfl) sz_Rat rfl (Nat.le_of_ble_eq_true rfl) ht) (Nat.le_of_ble_eq_true rfl) rfl rfl rfl (lb' := [⟨g1, 27, (aL b0_ x0_ y0_)⟩, ⟨g2, 27, (aL b1_ x1_ y1_)⟩, ⟨g3, 27, (aL b2_ x2_ y2_)⟩, ⟨g7, 27, (aL b3 x4 y2)⟩]) rfl (fun V22 S => ?_)
        refine hK13 _ _ ?_
        refine wp_seq_k fun K14 hK14 => ?_
        refine wp_seq_k fun K15 hK15 => ?_
        have S := S.keep [8, 7, 5, 4, 3] (ls' := [(8, pT g7 0), (7, .int .i64 (cmpR q0 q1)), (5, pT g3 0), (4, pT g2 0), (3, pT g1 0)]) rfl
        obtain ⟨W5, hW5⟩ : ∃ W, W = V22 := ⟨_, rfl⟩
        rw [← hW5] at S ⊢
        have S0 := S
        refine frm_region 28 [74, 75, 76, 77, 78, 79, 80, 81, 82, 83, 84, 85, 86, 87, 88, 89, 90, 91, 92, 93, 94, 95, 96, 97, 98, 99, 100, 101] (fun i v V => match i with
            | 0 => v = (aG b0_ x0_ y0_)
            | 1 => v = (aG b3 x4 y2)
            | 2 => v = .int .i64 (cmpR q0 ((q0 + q1) / 2))
            | 3 => v = .int .i64 (cmpR q0 q1)
            | 4 => v = .bool false
            | 5 => v = .bool false
            | 6 => v = (aG b3 x4 y2)
            | 7 => v = (aG b1_ x1_ y1_)
            | 8 => v = .int .i64 (cmpR ((q0 + q1) / 2) q1)
            | 9 => v = .int .i64 (cmpR q0 q1)
            | 10 => v = .bool false
            | 11 => v = .bool false
            | 12 => v = .bool false
            | 13 => v = (aG b0_ x0_ y0_)
            | 14 => v = (aG b2_ x2_ y2_)
            | 15 => QL 40 6 ([q0, q2]) v V
            | 16 => QT 80 (q0 * q2) v V
            | 17 => v = (aG b1_ x1_ y1_)
            | 18 => v = (aG b2_ x2_ y2_)
            | 19 => QL 40 6 ([q1, q2]) v V
            | 20 => QT 80 (q1 * q2) v V
            | 21 => v = .int .i64 (cmpR (q0 * q2) (q1 * q2))
            | 22 => v = .int .i64 (cmpR q0 q1)
            | 23 => v = (aG b2_ x2_ y2_)
            | 24 => v = .int .i64 (cmpR q2 0)
            | 25 => v = .int .i64 ((cmpR q0 q1) * (cmpR q2 0))
            | 26 => v = .bool false
            | _ => v = .bool false) S (by kernel_rfl) (by kernel_rfl) rfl (by decide) rfl rfl ?_ ?_ ?_
        · intro i v V V2 hf hb
          match i, hf with
          | 0, hf => exact hf
          | 1, hf => exact hf
          | 2, hf => exact hf
          | 3, hf => exact hf
          | 4, hf => exact hf
          | 5, hf => exact hf
          | 6, hf => exact hf
          | 7, hf => exact hf
          | 8, hf => exact hf
          | 9, hf => exact hf
          | 10, hf => exact hf
          | 11, hf => exact hf
          | 12, hf => exact hf
          | 13, hf => exact hf
          | 14, hf => exact hf
          | 15, hf => exact QL.keep hf hb
          | 16, hf => exact QT.keep hf hb
          | 17, hf => exact hf
          | 18, hf => exact hf
          | 19, hf => exact QL.keep hf hb
          | 20, hf => exact QT.keep hf hb
          | 21, hf => exact hf
          | 22, hf => exact hf
          | 23, hf => exact hf
          | 24, hf => exact hf
          | 25, hf => exact hf
          | 26, hf => exact hf
          | _ + 27, hf => exact hf
        · intro i t ht a V S hB hd
          match i, ht with
          | 0, ht =>
            cases ht
            exact so_val rfl rfl (wanted_free rfl) (rn_load rfl (S.at 4 rfl) (S.bx 0 rfl) Tryz.underlying27 rfl (vs := (aL b0_ x0_ y0_)) sz_Rat rfl) rfl
          | 1, ht =>
            cases ht
            exact so_val rfl rfl (wanted_free rfl) (rn_load rfl (S.at 0 rfl) (S.bx 3 rfl) Tryz.underlying27 rfl (vs := (aL b3 x4 y2)) sz_Rat rfl) rfl
          | 2, ht =>
            cases ht
            exact so_call rfl rfl (wanted_free rfl) (rn_call2 ⟨_, rfl⟩ (show tG a 74 <| (aG b0_ x0_ y0_) from hd 0 74 rfl (by kernel_rfl)) (show tG a 75 <| (aG b3 x4 y2) from hd 1 75 rfl (by kernel_rfl)) (enters_of Tryz.func17 (by kernel_rfl) rfl)) (p7Cmp (T.keep S.below) (show Q1 40 (q0) ((aG b0_ x0_ y0_)) _ from ⟨b0_, x0_, y0_, rfl, hqa0, hkx0, hky0, (S.num 6 rfl), (S.num 7 rfl)⟩) (show QT 82 ((q0 + q1) / 2) ((aG b3 x4 y2)) _ from ⟨b3, x4, y2, rfl, hq2, hk5, hk6, (S.num 1 rfl), (S.num 0 rfl)⟩).any (by omega) (by omega))
          | 3, ht =>
            cases ht
            exact so_val rfl rfl (wanted_free rfl) (rn_move rfl (S.at 1 rfl)) rfl
          | 4, ht =>
            cases ht
            exact so_val rfl rfl (wanted_free rfl) (rn_bool (rn_neq _ (by decide) rfl (show tG a 76 <| .int .i64 (cmpR q0 ((q0 + q1) / 2)) from hd 2 76 rfl (by kernel_rfl)) (show tG a 77 <| .int .i64 (cmpR q0 q1) from hd 3 77 rfl (by kernel_rfl))) (show (!decide (cmpR q0 ((q0 + q1) / 2) = cmpR q0 q1)) = false from (by rw [(cmpR_mid q0 q1).1]; simp))) rfl
          | 5, ht =>
            cases ht
            exact so_val rfl rfl (wanted_free rfl) (rn_move rfl (show tG a 78 <| .bool false from hd 4 78 rfl (by kernel_rfl))) rfl
          | 6, ht =>
            cases ht
            exact so_val rfl rfl ((wanted_if rfl rfl rfl (show tG a 79 <| .bool false from hd 5 79 rfl (by kernel_rfl))).trans rfl) (rn_load rfl (S.at 0 rfl) (S.bx 3 rfl) Tryz.underlying27 rfl (vs := (aL b3 x4 y2)) sz_Rat rfl) rfl
          | 7, ht =>
            cases ht
            exact so_val rfl rfl ((wanted_if rfl rfl rfl (show tG a 79 <| .bool false from hd 5 79 rfl (by kernel_rfl))).trans rfl) (rn_load rfl (S.at 3 rfl) (S.bx 1 rfl) Tryz.underlying27 rfl (vs := (aL b1_ x1_ y1_)) sz_Rat rfl) rfl
          | 8, ht =>
            cases ht
            exact so_call rfl rfl ((wanted_if rfl rfl rfl (show tG a 79 <| .bool false from hd 5 79 rfl (by kernel_rfl))).trans rfl) (rn_call2 ⟨_, rfl⟩ (show tG a 80 <| (aG b3 x4 y2) from hd 6 80 rfl (by kernel_rfl)) (show tG a 81 <| (aG b1_ x1_ y1_) from hd 7 81 rfl (by kernel_rfl)) (enters_of Tryz.func17 (by kernel_rfl) rfl)) (p7Cmp (T.keep S.below) (show QT 82 ((q0 + q1) / 2) ((aG b3 x4 y2)) _ from ⟨b3, x4, y2, rfl, hq2, hk5, hk6, (S.num 1 rfl), (S.num 0 rfl)⟩).any (show Q1 40 (q1) ((aG b1_ x1_ y1_)) _ from ⟨b1_, x1_, y1_, rfl, hqa1, hkx1, hky1, (S.num 4 rfl), (S.num 5 rfl)⟩) (by omega) (by omega))
          | 9, ht =>
            cases ht
            exact so_val rfl rfl ((wanted_if rfl rfl rfl (show tG a 79 <| .bool false from hd 5 79 rfl (by kernel_rfl))).trans rfl) (rn_move rfl (S.at 1 rfl)) rfl
          | 10, ht =>
            cases ht
            exact so_val rfl rfl ((wanted_if rfl rfl rfl (show tG a 79 <| .bool false from hd 5 79 rfl (by kernel_rfl))).trans rfl) (rn_bool (rn_neq _ (by decide) rfl (show tG a 82 <| .int .i64 (cmpR ((q0 + q1) / 2) q1) from hd 8 82 rfl (by kernel_rfl)) (show tG a 83 <| .int .i64 (cmpR q0 q1) from hd 9 83 rfl (by kernel_rfl))) (show (!decide (cmpR ((q0 + q1) / 2) q1 = cmpR q0 q1)) = false from (by rw [(cmpR_mid q0 q1).2]; simp))) rfl
          | 11, ht =>
            cases ht
            exact so_val rfl rfl (wanted_free rfl) (rn_pick false rfl (show tG a 79 <| .bool false from hd 5 79 rfl (by kernel_rfl)) (show tG a 84 <| .bool false from hd 10 84 rfl (by kernel_rfl))) rfl
          | 12, ht =>
            cases ht
            exact so_val rfl rfl (wanted_free rfl) (rn_move rfl (show tG a 85 <| .bool false from hd 11 85 rfl (by kernel_rfl))) rfl
          | 13, ht =>
            cases ht
            exact so_val rfl rfl ((wanted_if rfl rfl rfl (show tG a 86 <| .bool false from hd 12 86 rfl (by kernel_rfl))).trans rfl) (rn_load rfl (S.at 4 rfl) (S.bx 0 rfl) Tryz.underlying27 rfl (vs := (aL b0_ x0_ y0_)) sz_Rat rfl) rfl
          | 14, ht =>
            cases ht
            exact so_val rfl rfl ((wanted_if rfl rfl rfl (show tG a 86 <| .bool false from hd 12 86 rfl (by kernel_rfl))).trans rfl) (rn_load rfl (S.at 2 rfl) (S.bx 2 rfl) Tryz.underlying27 rfl (vs := (aL b2_ x2_ y2_)) sz_Rat rfl) rfl
          | 15, ht =>
            cases ht
            exact so_lays rfl rfl ((wanted_if rfl rfl rfl (show tG a 86 <| .bool false from hd 12 86 rfl (by kernel_rfl))).trans rfl) (ly_qrow2 rfl (show tG a 87 <| (aG b0_ x0_ y0_) from hd 13 87 rfl (by kernel_rfl)) (show tG a 88 <| (aG b2_ x2_ y2_) from hd 14 88 rfl (by kernel_rfl)) (show Q1 40 (q0) ((aG b0_ x0_ y0_)) _ from ⟨b0_, x0_, y0_, rfl, hqa0, hkx0, hky0, (S.num 6 rfl), (S.num 7 rfl)⟩) (show Q1 40 (q2) ((aG b2_ x2_ y2_)) _ from ⟨b2_, x2_, y2_, rfl, hqa2, hkx2, hky2, (S.num 2 rfl), (S.num 3 rfl)⟩))
          | 16, ht =>
            cases ht
            exact so_call rfl rfl ((wanted_if rfl rfl rfl (show tG a 86 <| .bool false from hd 12 86 rfl (by kernel_rfl))).trans rfl) (rn_call1 ⟨_, rfl⟩ rfl (enters_of Tryz.func29 (by kernel_rfl) rfl)) (AM.mul2 (T.keep S.below) S.below ((show QL 40 6 ([q0, q2]) (a.tmps.getD 89 undef) V from hd 15 89 rfl (by kernel_rfl))).row (by omega))
          | 17, ht =>
            cases ht
            exact so_val rfl rfl ((wanted_if rfl rfl rfl (show tG a 86 <| .bool false from hd 12 86 rfl (by kernel_rfl))).trans rfl) (rn_load rfl (S.at 3 rfl) (S.bx 1 rfl) Tryz.underlying27 rfl (vs := (aL b1_ x1_ y1_)) sz_Rat rfl) rfl
          | 18, ht =>
            cases ht
            exact so_val rfl rfl ((wanted_if rfl rfl rfl (show tG a 86 <| .bool false from hd 12 86 rfl (by kernel_rfl))).trans rfl) (rn_load rfl (S.at 2 rfl) (S.bx 2 rfl) Tryz.underlying27 rfl (vs := (aL b2_ x2_ y2_)) sz_Rat rfl) rfl
          | 19, ht =>
            cases ht
            exact so_lays rfl rfl ((wanted_if rfl rfl rfl (show tG a 86 <| .bool false from hd 12 86 rfl (by kernel_rfl))).trans rfl) (ly_qrow2 rfl (show tG a 91 <| (aG b1_ x1_ y1_) from hd 17 91 rfl (by kernel_rfl)) (show tG a 92 <| (aG b2_ x2_ y2_) from hd 18 92 rfl (by kernel_rfl)) (show Q1 40 (q1) ((aG b1_ x1_ y1_)) _ from ⟨b1_, x1_, y1_, rfl, hqa1, hkx1, hky1, (S.num 4 rfl), (S.num 5 rfl)⟩) (show Q1 40 (q2) ((aG b2_ x2_ y2_)) _ from ⟨b2_, x2_, y2_, rfl, hqa2, hkx2, hky2, (S.num 2 rfl), (S.num 3 rfl)⟩))
          | 20, ht =>
            cases ht
            exact so_call rfl rfl ((wanted_if rfl rfl rfl (show tG a 86 <| .bool false from hd 12 86 rfl (by kernel_rfl))).trans rfl) (rn_call1 ⟨_, rfl⟩ rfl (enters_of Tryz.func29 (by kernel_rfl) rfl)) (AM.mul2 (T.keep S.below) S.below ((show QL 40 6 ([q1, q2]) (a.tmps.getD 93 undef) V from hd 19 93 rfl (by kernel_rfl))).row (by omega))
          | 21, ht =>
            cases ht
            exact so_call rfl rfl ((wanted_if rfl rfl rfl (show tG a 86 <| .bool false from hd 12 86 rfl (by kernel_rfl))).trans rfl) (rn_call2 ⟨_, rfl⟩ rfl rfl (enters_of Tryz.func17 (by kernel_rfl) rfl)) (p7Cmp (T.keep S.below) ((show QT 80 (q0 * q2) (a.tmps.getD 90 undef) V from hd 16 90 rfl (by kernel_rfl))).any ((show QT 80 (q1 * q2) (a.tmps.getD 94 undef) V from hd 20 94 rfl (by kernel_rfl))).any (by omega) (by omega))
          | 22, ht =>
            cases ht
            exact so_val rfl rfl ((wanted_if rfl rfl rfl (show tG a 86 <| .bool false from hd 12 86 rfl (by kernel_rfl))).trans rfl) (rn_move rfl (S.at 1 rfl)) rfl
          | 23, ht =>
            cases ht
            exact so_val rfl rfl ((wanted_if rfl rfl rfl (show tG a 86 <| .bool false from hd 12 86 rfl (by kernel_rfl))).trans rfl) (rn_load rfl (S.at 2 rfl) (S.bx 2 rfl) Tryz.underlying27 rfl (vs := (aL b2_ x2_ y2_)) sz_Rat rfl) rfl
          | 24, ht =>
            cases ht
            exact so_call rfl rfl ((wanted_if rfl rfl rfl (show tG a 86 <| .bool false from hd 12 86 rfl (by kernel_rfl))).trans rfl) (rn_call1 ⟨_, rfl⟩ (show tG a 97 <| (aG b2_ x2_ y2_) from hd 23 97 rfl (by kernel_rfl)) (enters_of Tryz.func15 (by kernel_rfl) rfl)) (p7Sign (T.keep S.below) (show Q1 40 (q2) ((aG b2_ x2_ y2_)) _ from ⟨b2_, x2_, y2_, rfl, hqa2, hkx2, hky2, (S.num 2 rfl), (S.num 3 rfl)⟩) (by omega))
          | 25, ht =>
            cases ht
            exact so_val rfl rfl ((wanted_if rfl rfl rfl (show tG a 86 <| .bool false from hd 12 86 rfl (by kernel_rfl))).trans rfl) (rn_mul rfl (show tG a 96 <| .int .i64 (cmpR q0 q1) from hd 22 96 rfl (by kernel_rfl)) (show tG a 98 <| .int .i64 (cmpR q2 0) from hd 24 98 rfl (by kernel_rfl)) (inr_cc _ _ _ _)) rfl
          | 26, ht =>
            cases ht
            exact so_val rfl rfl ((wanted_if rfl rfl rfl (show tG a 86 <| .bool false from hd 12 86 rfl (by kernel_rfl))).trans rfl) (rn_bool (rn_neq _ (by decide) rfl (show tG a 95 <| .int .i64 (cmpR (q0 * q2) (q1 * q2)) from hd 21 95 rfl (by kernel_rfl)) (show tG a 99 <| .int .i64 ((cmpR q0 q1) * (cmpR q2 0)) from hd 25 99 rfl (by kernel_rfl))) (show (!decide (cmpR (q0 * q2) (q1 * q2) = (cmpR q0 q1) * (cmpR q2 0))) = false from (by rw [cmpR_mul, signR]; simp))) rfl
          | 27, ht =>
            cases ht
            exact so_val rfl rfl (wanted_free rfl) (rn_pick false rfl (show tG a 86 <| .bool false from hd 12 86 rfl (by kernel_rfl)) (show tG a 100 <| .bool false from hd 26 100 rfl (by kernel_rfl))) rfl
          | k + 28, ht => simp at ht
        · intro a5 V23 S hB hf
          have S := S.add (show a5.tmps.getD 101 undef = .bool false from hf 27 101 rfl)
          clear hf S0
          show wpList _ _ _ [] _ _
          refine hK15 _ _ ?_
          refine wp_cond_false (S.at 0 rfl) ?_
          refine wp_skip ?_
          refine hK14 _ _ ?_
          refine wp_seq_k fun K16 hK16 => ?_
          have S := S.keep [3] (ls' := [(3, pT g1 0)]) rfl
          refine frm_plain ?_
          refine tl_val S (v := (aG b0_ x0_ y0_)) (rn_load rfl (S.at 0 rfl) (S.bx 0 rfl) Tryz.underlying27 rfl (vs := (aL b0_ x0_ y0_)) sz_Rat rfl) rfl rfl (by decide) (ls' := [(3, pT g1 0)]) rfl (fun a S => ?_)
          refine tl_call S (rn_call1 ⟨_, rfl⟩ (S.at 0 rfl) (enters_of Tryz.func38 (by kernel_rfl) rfl)) (F := ZT 41 (Rat.floor q0)) (p7Floor (T.keep S.below) (show Q1 40 (q0) ((aG b0_ x0_ y0_)) _ from ⟨b0_, x0_, y0_, rfl, hqa0, hkx0, hky0, (S.num 6 rfl), (S.num 7 rfl)⟩) (by omega)) rfl rfl (by decide) (ls' := [(102, (aG b0_ x0_ y0_)), (3, pT g1 0)]) rfl (fun v a V24 hF hb S => ?_)
          obtain ⟨b4, x5, rfl, hz2, hk7, ok7⟩ := hF
          have S := S.know ok7
          refine tl_box S (T := 25) (cs := [.bool false, .slice none 0 0]) (rn_alloc rfl (Tryz.zeroValue25 _) rfl) rfl rfl rfl (by decide) (ls' := [(103, (aZ b4 x5)), (102, (aG b0_ x0_ y0_)), (3, pT g1 0)]) rfl (lb' := fun g8 => [⟨g1, 27, (aL b0_ x0_ y0_)⟩, ⟨g2, 27, (aL b1_ x1_ y1_)⟩, ⟨g3, 27, (aL b2_ x2_ y2_)⟩, ⟨g7, 27, (aL b3 x4 y2)⟩, ⟨g8, 25, [.bool false, .slice none 0 0]⟩]) (fun _ => rfl) (fun g8 a V25 hgg8 S => ?_)
          refine tl_store S (i := 4) (vs := [.bool b4, aS x5]) rfl (fun ht => rn_store rfl (S.at 0 rfl) (S.at 1 rfl) sz_Int rfl (Nat.le_of_ble_eq_true rfl) ht) (Nat.le_of_ble_eq_true rfl) rfl rfl rfl (lb' := [⟨g1, 27, (aL b0_ x0_ y0_)⟩, ⟨g2, 27, (aL b1_ x1_ y1_)⟩, ⟨g3, 27, (aL b2_ x2_ y2_)⟩, ⟨g7, 27, (aL b3 x4 y2)⟩, ⟨g8, 25, [.bool b4, aS x5]⟩]) rfl (fun V26 S => ?_)
          refine hK16 _ _ ?_
          refine wp_seq_k fun K17 hK17 => ?_
          have S := S.keep [9, 3] (ls' := [(9, pT g8 0), (3, pT g1 0)]) rfl
          refine frm_plain ?_
          refine tl_val S (v := (aZ b4 x5)) (rn_load rfl (S.at 0 rfl) (S.bx 4 rfl) Tryz.underlying25 rfl (vs := [.bool b4, aS x5]) sz_Int rfl) rfl rfl (by decide) (ls' := [(9, pT g8 0), (3, pT g1 0)]) rfl (fun a S => ?_)
          refine tl_lays S (F := NT 1 ((1 : Nat))) (ly_oneT (c := 1) rfl (by decide) (by decide)) rfl rfl (by decide) (ls' := [(104, (aZ b4 x5)), (9, pT g8 0), (3, pT g1 0)]) rfl (fun v a V27 hF hb S => ?_)
          obtain ⟨x6, rfl, hN2, hn2, hk8, ok8⟩ := hF
          have S := S.know ok8
          refine tl_val S (v := (aG b4 x5 x6)) (rn_build2 rfl (S.at 1 rfl) (S.at 0 rfl) (bd_Rat _ _ _ _ _ _ _)) rfl rfl (by decide) (ls' := [(105, aS x6), (104, (aZ b4 x5)), (9, pT g8 0), (3, pT g1 0)]) rfl (fun a S => ?_)
          refine tl_box S (T := 27) (cs := [.bool false, .slice none 0 0, .slice none 0 0]) (rn_alloc rfl (Tryz.zeroValue27 _) rfl) rfl rfl rfl (by decide) (ls' := [(106, (aG b4 x5 x6)), (105, aS x6), (104, (aZ b4 x5)), (9, pT g8 0), (3, pT g1 0)]) rfl (lb' := fun g9 => [⟨g1, 27, (aL b0_ x0_ y0_)⟩, ⟨g2, 27, (aL b1_ x1_ y1_)⟩, ⟨g3, 27, (aL b2_ x2_ y2_)⟩, ⟨g7, 27, (aL b3 x4 y2)⟩, ⟨g8, 25, [.bool b4, aS x5]⟩, ⟨g9, 27, [.bool false, .slice none 0 0, .slice none 0 0]⟩]) (fun _ => rfl) (fun g9 a V28 hgg9 S => ?_)
          refine tl_store S (i := 5) (vs := (aL b4 x5 x6)) rfl (fun ht => rn_store rfl (S.at 0 rfl) (S.at 1 rfl) sz_Rat rfl (Nat.le_of_ble_eq_true rfl) ht) (Nat.le_of_ble_eq_true rfl) rfl rfl rfl (lb' := [⟨g1, 27, (aL b0_ x0_ y0_)⟩, ⟨g2, 27, (aL b1_ x1_ y1_)⟩, ⟨g3, 27, (aL b2_ x2_ y2_)⟩, ⟨g7, 27, (aL b3 x4 y2)⟩, ⟨g8, 25, [.bool b4, aS x5]⟩, ⟨g9, 27, (aL b4 x5 x6)⟩]) rfl (fun V29 S => ?_)
          refine hK17 _ _ ?_
          refine wp_seq_k fun K18 hK18 => ?_
          have S := S.keep [10, 3] (ls' := [(10, pT g9 0), (3, pT g1 0)]) rfl
          obtain ⟨W6, hW6⟩ : ∃ W, W = V29 := ⟨_, rfl⟩
          rw [← hW6] at S ⊢
          have S0 := S
          refine frm_region 16 [107, 108, 109, 110, 111, 112, 113, 114, 115, 116, 117, 118, 119, 120, 121, 122] (fun i v V => match i with
              | 0 => v = (aG b4 x5 x6)
              | 1 => v = (aG b0_ x0_ y0_)
              | 2 => v = .int .i64 (cmpR ((q0.floor : Int) : Rat) q0)
              | 3 => v = .bool true
              | 4 => v = .bool true
              | 5 => v = (aG b4 x5 x6)
              | 6 => QT 1 ((1 : Rat)) v V
              | 7 => QL 42 6 ([((q0.floor : Int) : Rat), (1 : Rat)]) v V
              | 8 => QT 85 (((q0.floor : Int) : Rat) + (1 : Rat)) v V
              | 9 => v = (aG b0_ x0_ y0_)
              | 10 => v = .int .i64 (cmpR (((q0.floor : Int) : Rat) + (1 : Rat)) q0)
              | 11 => v = .bool true
              | 12 => v = .bool true
              | 13 => v = .bool true
              | 14 => v = .bool true
              | _ => v = .bool true) S (by kernel_rfl) (by kernel_rfl) rfl (by decide) rfl rfl ?_ ?_ ?_
          · intro i v V V2 hf hb
            match i, hf with
            | 0, hf => exact hf
            | 1, hf => exact hf
            | 2, hf => exact hf
            | 3, hf => exact hf
            | 4, hf => exact hf
            | 5, hf => exact hf
            | 6, hf => exact QT.keep hf hb
            | 7, hf => exact QL.keep hf hb
            | 8, hf => exact QT.keep hf hb
            | 9, hf => exact hf
            | 10, hf => exact hf
            | 11, hf => exact hf
            | 12, hf => exact hf
            | 13, hf => exact hf
            | 14, hf => exact hf
            | _ + 15, hf => exact hf
          · intro i t ht a V S hB hd
            match i, ht with
            | 0, ht =>
              cases ht
              exact so_val rfl rfl (wanted_free rfl) (rn_load rfl (S.at 0 rfl) (S.bx 5 rfl) Tryz.underlying27 rfl (vs := (aL b4 x5 x6)) sz_Rat rfl) rfl
            | 1, ht =>
              cases ht
              exact so_val rfl rfl (wanted_free rfl) (rn_load rfl (S.at 1 rfl) (S.bx 0 rfl) Tryz.underlying27 rfl (vs := (aL b0_ x0_ y0_)) sz_Rat rfl) rfl
            | 2, ht =>
              cases ht
              exact so_call rfl rfl (wanted_free rfl) (rn_call2 ⟨_, rfl⟩ (show tG a 107 <| (aG b4 x5 x6) from hd 0 107 rfl (by kernel_rfl)) (show tG a 108 <| (aG b0_ x0_ y0_) from hd 1 108 rfl (by kernel_rfl)) (enters_of Tryz.func17 (by kernel_rfl) rfl)) (p7Cmp (T.keep S.below) (show QT 42 (((q0.floor : Int) : Rat)) ((aG b4 x5 x6)) _ from ⟨b4, x5, x6, rfl, isQ_n hz2 hN2 hn2, Nat.le_trans hk7 (by decide), Nat.le_trans hk8 (by decide), (S.num 1 rfl), (S.num 0 rfl)⟩).any (show Q1 40 (q0) ((aG b0_ x0_ y0_)) _ from ⟨b0_, x0_, y0_, rfl, hqa0, hkx0, hky0, (S.num 8 rfl), (S.num 9 rfl)⟩) (by omega) (by omega))
            | 3, ht =>
              cases ht
              exact so_val rfl rfl (wanted_free rfl) (rn_bool (rn_leq rfl (show tG a 109 <| .int .i64 (cmpR ((q0.floor : Int) : Rat) q0) from hd 2 109 rfl (by kernel_rfl)) rfl) (show (decide (cmpR ((q0.floor : Int) : Rat) q0 ≤ 0)) = true from (decide_eq_true (cmpR_le.2 (Rat.floor_le q0))))) rfl
            | 4, ht =>
              cases ht
              exact so_val rfl rfl (wanted_free rfl) (rn_move rfl (show tG a 110 <| .bool true from hd 3 110 rfl (by kernel_rfl))) rfl
            | 5, ht =>
              cases ht
              exact so_val rfl rfl ((wanted_if rfl rfl rfl (show tG a 111 <| .bool true from hd 4 111 rfl (by kernel_rfl))).trans rfl) (rn_load rfl (S.at 0 rfl) (S.bx 5 rfl) Tryz.underlying27 rfl (vs := (aL b4 x5 x6)) sz_Rat rfl) rfl
            | 6, ht =>
              cases ht
              exact so_call rfl rfl ((wanted_if rfl rfl rfl (show tG a 111 <| .bool true from hd 4 111 rfl (by kernel_rfl))).trans rfl) (rn_callc ⟨_, rfl⟩  (enters_of Tryz.func21 (by kernel_rfl) rfl)) p7Of1
            | 7, ht =>
              cases ht
              exact so_lays rfl rfl ((wanted_if rfl rfl rfl (show tG a 111 <| .bool true from hd 4 111 rfl (by kernel_rfl))).trans rfl) (ly_qrow2 rfl (show tG a 112 <| (aG b4 x5 x6) from hd 5 112 rfl (by kernel_rfl)) rfl (show QT 42 (((q0.floor : Int) : Rat)) ((aG b4 x5 x6)) _ from ⟨b4, x5, x6, rfl, isQ_n hz2 hN2 hn2, Nat.le_trans hk7 (by decide), Nat.le_trans hk8 (by decide), (S.num 1 rfl), (S.num 0 rfl)⟩).any ((((show QT 1 ((1 : Rat)) (a.tmps.getD 113 undef) V from hd 6 113 rfl (by kernel_rfl))).any).to rfl (by omega)))
            | 8, ht =>
              cases ht
              exact so_call rfl rfl ((wanted_if rfl rfl rfl (show tG a 111 <| .bool true from hd 4 111 rfl (by kernel_rfl))).trans rfl) (rn_call1 ⟨_, rfl⟩ rfl (enters_of Tryz.func27 (by kernel_rfl) rfl)) (AM.add2 (T.keep S.below) S.below ((show QL 42 6 ([((q0.floor : Int) : Rat), (1 : Rat)]) (a.tmps.getD 114 undef) V from hd 7 114 rfl (by kernel_rfl))).row (by omega))
            | 9, ht =>
              cases ht
              exact so_val rfl rfl ((wanted_if rfl rfl rfl (show tG a 111 <| .bool true from hd 4 111 rfl (by kernel_rfl))).trans rfl) (rn_load rfl (S.at 1 rfl) (S.bx 0 rfl) Tryz.underlying27 rfl (vs := (aL b0_ x0_ y0_)) sz_Rat rfl) rfl
            | 10, ht =>
              cases ht
              exact so_call rfl rfl ((wanted_if rfl rfl rfl (show tG a 111 <| .bool true from hd 4 111 rfl (by kernel_rfl))).trans rfl) (rn_call2 ⟨_, rfl⟩ rfl (show tG a 116 <| (aG b0_ x0_ y0_) from hd 9 116 rfl (by kernel_rfl)) (enters_of Tryz.func17 (by kernel_rfl) rfl)) (p7Cmp (T.keep S.below) ((show QT 85 (((q0.floor : Int) : Rat) + (1 : Rat)) (a.tmps.getD 115 undef) V from hd 8 115 rfl (by kernel_rfl))).any (show Q1 40 (q0) ((aG b0_ x0_ y0_)) _ from ⟨b0_, x0_, y0_, rfl, hqa0, hkx0, hky0, (S.num 8 rfl), (S.num 9 rfl)⟩) (by omega) (by omega))
            | 11, ht =>
              cases ht
              exact so_val rfl rfl ((wanted_if rfl rfl rfl (show tG a 111 <| .bool true from hd 4 111 rfl (by kernel_rfl))).trans rfl) (rn_bool (rn_gtr rfl (show tG a 117 <| .int .i64 (cmpR (((q0.floor : Int) : Rat) + (1 : Rat)) q0) from hd 10 117 rfl (by kernel_rfl)) rfl) (show (decide (0 < cmpR (((q0.floor : Int) : Rat) + (1 : Rat)) q0)) = true from (decide_eq_true (low_gt q0)))) rfl
            | 12, ht =>
              cases ht
              exact so_val rfl rfl (wanted_free rfl) (rn_pick true rfl (show tG a 111 <| .bool true from hd 4 111 rfl (by kernel_rfl)) (show tG a 118 <| .bool true from hd 11 118 rfl (by kernel_rfl))) rfl
            | 13, ht =>
              cases ht
              exact so_val rfl rfl (wanted_free rfl) (rn_move rfl (show tG a 119 <| .bool true from hd 12 119 rfl (by kernel_rfl))) rfl
            | 14, ht =>
              cases ht
              exact so_call rfl rfl ((wanted_if rfl rfl rfl (show tG a 120 <| .bool true from hd 13 120 rfl (by kernel_rfl))).trans rfl) (rn_call0 ⟨_, rfl⟩  (enters_of Tryz.func9 (by kernel_rfl) rfl)) (l7wakes (T.keep S.below))
            | 15, ht =>
              cases ht
              exact so_val rfl rfl (wanted_free rfl) (rn_pick true rfl (show tG a 120 <| .bool true from hd 13 120 rfl (by kernel_rfl)) (show tG a 121 <| .bool true from hd 14 121 rfl (by kernel_rfl))) rfl
            | k + 16, ht => simp at ht
          · intro a6 V30 S hB hf
            have S := S.add (show a6.tmps.getD 122 undef = .bool true from hf 15 122 rfl)
            clear hf S0
            show wpList _ _ _ [_] _ _
            refine tl_val S (v := .bool true) (rn_assign rfl (S.at 0 rfl)) rfl rfl (by decide) (ls' := [(122, .bool true), (10, pT g9 0), (3, pT g1 0)]) rfl (fun a S => ?_)
            refine hK18 _ _ ?_
            refine wp_ret ?_
            exact frm_ret1 rfl S (S.at 0 rfl) ⟨_, rfl, rfl, S.below⟩
  · skip
    rcases Bool.eq_false_or_eq_true (decide (cmpR q1 q2 ≤ 0)) with hs2 | hs2
    · skip
      have S := S.keep [7, 5, 4, 3] (ls' := [(7, .int .i64 (cmpR q0 q1)), (5, pT g3 0), (4, pT g2 0), (3, pT g1 0)]) rfl
      obtain ⟨W7, hW7⟩ : ∃ W, W = V6 := ⟨_, rfl⟩
      rw [← hW7] at S ⊢
      have S0 := S
      refine frm_region 51 [20, 21, 22, 23, 24, 25, 26, 27, 28, 29, 30, 31, 32, 33, 34, 35, 36, 37, 38, 39, 40, 41, 42, 43, 44, 45, 46, 47, 48, 49, 50, 51, 52, 53, 54, 55, 56, 57, 58, 59, 60, 61, 62, 63, 64, 65, 66, 67, 68, 69, 70] (fun i v V => match i with
          | 0 => v = .int .i64 (cmpR q0 q1)
          | 1 => v = .bool false
          | 2 => v = .bool false
          | 3 => v = .int .i64 (cmpR q0 q1)
          | 4 => v = .bool false
          | 5 => v = .bool false
          | 6 => v = .bool false
          | 7 => v = (aG b1_ x1_ y1_)
          | 8 => v = (aG b0_ x0_ y0_)
          | 9 => v = .int .i64 (cmpR q1 q0)
          | 10 => v = .int .i64 (cmpR q0 q1)
          | 11 => v = .int .i64 (-(cmpR q0 q1))
          | 12 => v = .bool false
          | 13 => v = .bool false
          | 14 => v = .bool false
          | 15 => v = .int .i64 (cmpR q0 q1)
          | 16 => v = .bool false
          | 17 => v = .bool false
          | 18 => v = undef
          | 19 => v = undef
          | 20 => v = undef
          | 21 => v = undef
          | 22 => v = .bool false
          | 23 => v = .bool false
          | 24 => v = undef
          | 25 => v = undef
          | 26 => v = undef
          | 27 => v = undef
          | 28 => v = .bool false
          | 29 => v = .bool false
          | 30 => v = .bool false
          | 31 => v = (aG b0_ x0_ y0_)
          | 32 => v = (aG b1_ x1_ y1_)
          | 33 => v = .bool (decide (cmpR q0 q1 = 0))
          | 34 => v = .int .i64 (cmpR q0 q1)
          | 35 => v = .bool (decide (cmpR q0 q1 = 0))
          | 36 => v = .bool false
          | 37 => v = .bool false
          | 38 => v = .bool false
          | 39 => v = (aG b0_ x0_ y0_)
          | 40 => v = (aG b2_ x2_ y2_)
          | 41 => QL 40 6 ([q0, q2]) v V
          | 42 => QT 81 (q0 + q2) v V
          | 43 => v = (aG b1_ x1_ y1_)
          | 44 => v = (aG b2_ x2_ y2_)
          | 45 => QL 40 6 ([q1, q2]) v V
          | 46 => QT 81 (q1 + q2) v V
          | 47 => v = .int .i64 (cmpR (q0 + q2) (q1 + q2))
          | 48 => v = .int .i64 (cmpR q0 q1)
          | 49 => v = .bool false
          | _ => v = .bool false) S (by kernel_rfl) (by kernel_rfl) rfl (by decide) rfl rfl ?_ ?_ ?_
      · intro i v V V2 hf hb
        match i, hf with
        | 0, hf => exact hf
        | 1, hf => exact hf
        | 2, hf => exact hf
        | 3, hf => exact hf
        | 4, hf => exact hf
        | 5, hf => exact hf
        | 6, hf => exact hf
        | 7, hf => exact hf
        | 8, hf => exact hf
        | 9, hf => exact hf
        | 10, hf => exact hf
        | 11, hf => exact hf
        | 12, hf => exact hf
        | 13, hf => exact hf
        | 14, hf => exact hf
        | 15, hf => exact hf
        | 16, hf => exact hf
        | 17, hf => exact hf
        | 18, hf => exact hf
        | 19, hf => exact hf
        | 20, hf => exact hf
        | 21, hf => exact hf
        | 22, hf => exact hf
        | 23, hf => exact hf
        | 24, hf => exact hf
        | 25, hf => exact hf
        | 26, hf => exact hf
        | 27, hf => exact hf
        | 28, hf => exact hf
        | 29, hf => exact hf
        | 30, hf => exact hf
        | 31, hf => exact hf
        | 32, hf => exact hf
        | 33, hf => exact hf
        | 34, hf => exact hf
        | 35, hf => exact hf
        | 36, hf => exact hf
        | 37, hf => exact hf
        | 38, hf => exact hf
        | 39, hf => exact hf
        | 40, hf => exact hf
        | 41, hf => exact QL.keep hf hb
        | 42, hf => exact QT.keep hf hb
        | 43, hf => exact hf
        | 44, hf => exact hf
        | 45, hf => exact QL.keep hf hb
        | 46, hf => exact QT.keep hf hb
        | 47, hf => exact hf
        | 48, hf => exact hf
        | 49, hf => exact hf
        | _ + 50, hf => exact hf
      · intro i t ht a V S hB hd
        match i, ht with
        | 0, ht =>
          cases ht
          exact so_val rfl rfl (wanted_free rfl) (rn_move rfl (S.at 0 rfl)) rfl
        | 1, ht =>
          cases ht
          exact so_val rfl rfl (wanted_free rfl) (rn_bool (rn_lss rfl (show tG a 20 <| .int .i64 (cmpR q0 q1) from hd 0 20 rfl (by kernel_rfl)) rfl) (show (decide (cmpR q0 q1 < -1)) = false from (decide_eq_false (by have := cmpR_range q0 q1; omega)))) rfl
        | 2, ht =>
          cases ht
          exact so_val rfl rfl (wanted_free rfl) (rn_move rfl (show tG a 21 <| .bool false from hd 1 21 rfl (by kernel_rfl))) rfl
        | 3, ht =>
          cases ht
          exact so_val rfl rfl ((wanted_if rfl rfl rfl (show tG a 22 <| .bool false from hd 2 22 rfl (by kernel_rfl))).trans rfl) (rn_move rfl (S.at 0 rfl)) rfl
        | 4, ht =>
          cases ht
          exact so_val rfl rfl ((wanted_if rfl rfl rfl (show tG a 22 <| .bool false from hd 2 22 rfl (by kernel_rfl))).trans rfl) (rn_bool (rn_gtr rfl (show tG a 23 <| .int .i64 (cmpR q0 q1) from hd 3 23 rfl (by kernel_rfl)) rfl) (show (decide (1 < cmpR q0 q1)) = false from (decide_eq_false (by have := cmpR_range q0 q1; omega)))) rfl
        | 5, ht =>
          cases ht
          exact so_val rfl rfl (wanted_free rfl) (rn_pick false rfl (show tG a 22 <| .bool false from hd 2 22 rfl (by kernel_rfl)) (show tG a 24 <| .bool false from hd 4 24 rfl (by kernel_rfl))) rfl
        | 6, ht =>
          cases ht
          exact so_val rfl rfl (wanted_free rfl) (rn_move rfl (show tG a 25 <| .bool false from hd 5 25 rfl (by kernel_rfl))) rfl
        | 7, ht =>
          cases ht
          exact so_val rfl rfl ((wanted_if rfl rfl rfl (show tG a 26 <| .bool false from hd 6 26 rfl (by kernel_rfl))).trans rfl) (rn_load rfl (S.at 2 rfl) (S.bx 1 rfl) Tryz.underlying27 rfl (vs := (aL b1_ x1_ y1_)) sz_Rat rfl) rfl
        | 8, ht =>
          cases ht
          exact so_val rfl rfl ((wanted_if rfl rfl rfl (show tG a 26 <| .bool false from hd 6 26 rfl (by kernel_rfl))).trans rfl) (rn_load rfl (S.at 3 rfl) (S.bx 0 rfl) Tryz.underlying27 rfl (vs := (aL b0_ x0_ y0_)) sz_Rat rfl) rfl
        | 9, ht =>
          cases ht
          exact so_call rfl rfl ((wanted_if rfl rfl rfl (show tG a 26 <| .bool false from hd 6 26 rfl (by kernel_rfl))).trans rfl) (rn_call2 ⟨_, rfl⟩ (show tG a 27 <| (aG b1_ x1_ y1_) from hd 7 27 rfl (by kernel_rfl)) (show tG a 28 <| (aG b0_ x0_ y0_) from hd 8 28 rfl (by kernel_rfl)) (enters_of Tryz.func17 (by kernel_rfl) rfl)) (p7Cmp (T.keep S.below) (show Q1 40 (q1) ((aG b1_ x1_ y1_)) _ from ⟨b1_, x1_, y1_, rfl, hqa1, hkx1, hky1, (S.num 2 rfl), (S.num 3 rfl)⟩) (show Q1 40 (q0) ((aG b0_ x0_ y0_)) _ from ⟨b0_, x0_, y0_, rfl, hqa0, hkx0, hky0, (S.num 4 rfl), (S.num 5 rfl)⟩) (by omega) (by omega))
        | 10, ht =>
          cases ht
          exact so_val rfl rfl ((wanted_if rfl rfl rfl (show tG a 26 <| .bool false from hd 6 26 rfl (by kernel_rfl))).trans rfl) (rn_move rfl (S.at 0 rfl)) rfl
        | 11, ht =>
          cases ht
          exact so_val rfl rfl ((wanted_if rfl rfl rfl (show tG a 26 <| .bool false from hd 6 26 rfl (by kernel_rfl))).trans rfl) (rn_neg rfl (show tG a 30 <| .int .i64 (cmpR q0 q1) from hd 10 30 rfl (by kernel_rfl)) (inr_neg _ _)) rfl
        | 12, ht =>
          cases ht
          exact so_val rfl rfl ((wanted_if rfl rfl rfl (show tG a 26 <| .bool false from hd 6 26 rfl (by kernel_rfl))).trans rfl) (rn_bool (rn_neq _ (by decide) rfl (show tG a 29 <| .int .i64 (cmpR q1 q0) from hd 9 29 rfl (by kernel_rfl)) (show tG a 31 <| .int .i64 (-(cmpR q0 q1)) from hd 11 31 rfl (by kernel_rfl))) (show (!decide (cmpR q1 q0 = -(cmpR q0 q1))) = false from (by rw [cmpR_neg q0 q1]; simp))) rfl
        | 13, ht =>
          cases ht
          exact so_val rfl rfl (wanted_free rfl) (rn_pick false rfl (show tG a 26 <| .bool false from hd 6 26 rfl (by kernel_rfl)) (show tG a 32 <| .bool false from hd 12 32 rfl (by kernel_rfl))) rfl
        | 14, ht =>
          cases ht
          exact so_val rfl rfl (wanted_free rfl) (rn_move rfl (show tG a 33 <| .bool false from hd 13 33 rfl (by kernel_rfl))) rfl
        | 15, ht =>
          cases ht
          exact so_val rfl rfl ((wanted_if rfl rfl rfl (show tG a 34 <| .bool false from hd 14 34 rfl (by kernel_rfl))).trans rfl) (rn_move rfl (S.at 0 rfl)) rfl
        | 16, ht =>
          cases ht
          exact so_val rfl rfl ((wanted_if rfl rfl rfl (show tG a 34 <| .bool false from hd 14 34 rfl (by kernel_rfl))).trans rfl) (rn_bool (rn_leq rfl (show tG a 35 <| .int .i64 (cmpR q0 q1) from hd 15 35 rfl (by kernel_rfl)) rfl) (show (decide (cmpR q0 q1 ≤ 0)) = false from hs1)) rfl
        | 17, ht =>
          cases ht
          exact so_val rfl rfl ((wanted_if rfl rfl rfl (show tG a 34 <| .bool false from hd 14 34 rfl (by kernel_rfl))).trans rfl) (rn_move rfl (show tG a 36 <| .bool false from hd 16 36 rfl (by kernel_rfl))) rfl
        | 18, ht =>
          cases ht
          exact so_skip rfl rfl ((wanted_if rfl rfl rfl (show tG a 37 <| .bool false from hd 17 37 rfl (by kernel_rfl))).trans rfl) rfl
        | 19, ht =>
          cases ht
          exact so_skip rfl rfl ((wanted_if rfl rfl rfl (show tG a 37 <| .bool false from hd 17 37 rfl (by kernel_rfl))).trans rfl) rfl
        | 20, ht =>
          cases ht
          exact so_skip rfl rfl ((wanted_if rfl rfl rfl (show tG a 37 <| .bool false from hd 17 37 rfl (by kernel_rfl))).trans rfl) rfl
        | 21, ht =>
          cases ht
          exact so_skip rfl rfl ((wanted_if rfl rfl rfl (show tG a 37 <| .bool false from hd 17 37 rfl (by kernel_rfl))).trans rfl) rfl
        | 22, ht =>
          cases ht
          exact so_val rfl rfl ((wanted_if rfl rfl rfl (show tG a 34 <| .bool false from hd 14 34 rfl (by kernel_rfl))).trans rfl) (rn_pick false rfl (show tG a 37 <| .bool false from hd 17 37 rfl (by kernel_rfl)) rfl) rfl
        | 23, ht =>
          cases ht
          exact so_val rfl rfl ((wanted_if rfl rfl rfl (show tG a 34 <| .bool false from hd 14 34 rfl (by kernel_rfl))).trans rfl) (rn_move rfl (show tG a 42 <| .bool false from hd 22 42 rfl (by kernel_rfl))) rfl
        | 24, ht =>
          cases ht
          exact so_skip rfl rfl ((wanted_if rfl rfl rfl (show tG a 43 <| .bool false from hd 23 43 rfl (by kernel_rfl))).trans rfl) rfl
        | 25, ht =>
          cases ht
          exact so_skip rfl rfl ((wanted_if rfl rfl rfl (show tG a 43 <| .bool false from hd 23 43 rfl (by kernel_rfl))).trans rfl) rfl
        | 26, ht =>
          cases ht
          exact so_skip rfl rfl ((wanted_if rfl rfl rfl (show tG a 43 <| .bool false from hd 23 43 rfl (by kernel_rfl))).trans rfl) rfl
        | 27, ht =>
          cases ht
          exact so_skip rfl rfl ((wanted_if rfl rfl rfl (show tG a 43 <| .bool false from hd 23 43 rfl (by kernel_rfl))).trans rfl) rfl
        | 28, ht =>
          cases ht
          exact so_val rfl rfl ((wanted_if rfl rfl rfl (show tG a 34 <| .bool false from hd 14 34 rfl (by kernel_rfl))).trans rfl) (rn_pick false rfl (show tG a 43 <| .bool false from hd 23 43 rfl (by kernel_rfl)) rfl) rfl
        | 29, ht =>
          cases ht
          exact so_val rfl rfl (wanted_free rfl) (rn_pick false rfl (show tG a 34 <| .bool false from hd 14 34 rfl (by kernel_rfl)) (show tG a 48 <| .bool false from hd 28 48 rfl (by kernel_rfl))) rfl
        | 30, ht =>
          cases ht
          exact so_val rfl rfl (wanted_free rfl) (rn_move rfl (show tG a 49 <| .bool false from hd 29 49 rfl (by kernel_rfl))) rfl
        | 31, ht =>
          cases ht
          exact so_val rfl rfl ((wanted_if rfl rfl rfl (show tG a 50 <| .bool false from hd 30 50 rfl (by kernel_rfl))).trans rfl) (rn_load rfl (S.at 3 rfl) (S.bx 0 rfl) Tryz.underlying27 rfl (vs := (aL b0_ x0_ y0_)) sz_Rat rfl) rfl
        | 32, ht =>
          cases ht
          exact so_val rfl rfl ((wanted_if rfl rfl rfl (show tG a 50 <| .bool false from hd 30 50 rfl (by kernel_rfl))).trans rfl) (rn_load rfl (S.at 2 rfl) (S.bx 1 rfl) Tryz.underlying27 rfl (vs := (aL b1_ x1_ y1_)) sz_Rat rfl) rfl
        | 33, ht =>
          cases ht
          exact so_call rfl rfl ((wanted_if rfl rfl rfl (show tG a 50 <| .bool false from hd 30 50 rfl (by kernel_rfl))).trans rfl) (rn_call2 ⟨_, rfl⟩ (show tG a 51 <| (aG b0_ x0_ y0_) from hd 31 51 rfl (by kernel_rfl)) (show tG a 52 <| (aG b1_ x1_ y1_) from hd 32 52 rfl (by kernel_rfl)) (enters_of Tryz.func19 (by kernel_rfl) rfl)) (p7Same (T.keep S.below) (show Q1 40 (q0) ((aG b0_ x0_ y0_)) _ from ⟨b0_, x0_, y0_, rfl, hqa0, hkx0, hky0, (S.num 4 rfl), (S.num 5 rfl)⟩) (show Q1 40 (q1) ((aG b1_ x1_ y1_)) _ from ⟨b1_, x1_, y1_, rfl, hqa1, hkx1, hky1, (S.num 2 rfl), (S.num 3 rfl)⟩) (by omega) (by omega))
        | 34, ht =>
          cases ht
          exact so_val rfl rfl ((wanted_if rfl rfl rfl (show tG a 50 <| .bool false from hd 30 50 rfl (by kernel_rfl))).trans rfl) (rn_move rfl (S.at 0 rfl)) rfl
        | 35, ht =>
          cases ht
          exact so_val rfl rfl ((wanted_if rfl rfl rfl (show tG a 50 <| .bool false from hd 30 50 rfl (by kernel_rfl))).trans rfl) (rn_eql _ (by decide) rfl (show tG a 54 <| .int .i64 (cmpR q0 q1) from hd 34 54 rfl (by kernel_rfl)) rfl) rfl
        | 36, ht =>
          cases ht
          exact so_val rfl rfl ((wanted_if rfl rfl rfl (show tG a 50 <| .bool false from hd 30 50 rfl (by kernel_rfl))).trans rfl) (rn_bool (rn_neqb rfl (show tG a 53 <| .bool (decide (cmpR q0 q1 = 0)) from hd 33 53 rfl (by kernel_rfl)) (show tG a 55 <| .bool (decide (cmpR q0 q1 = 0)) from hd 35 55 rfl (by kernel_rfl))) (show ((decide (cmpR q0 q1 = 0)) != (decide (cmpR q0 q1 = 0))) = false from (by simp))) rfl
        | 37, ht =>
          cases ht
          exact so_val rfl rfl (wanted_free rfl) (rn_pick false rfl (show tG a 50 <| .bool false from hd 30 50 rfl (by kernel_rfl)) (show tG a 56 <| .bool false from hd 36 56 rfl (by kernel_rfl))) rfl
        | 38, ht =>
          cases ht
          exact so_val rfl rfl (wanted_free rfl) (rn_move rfl (show tG a 57 <| .bool false from hd 37 57 rfl (by kernel_rfl))) rfl
        | 39, ht =>
          cases ht
          exact so_val rfl rfl ((wanted_if rfl rfl rfl (show tG a 58 <| .bool false from hd 38 58 rfl (by kernel_rfl))).trans rfl) (rn_load rfl (S.at 3 rfl) (S.bx 0 rfl) Tryz.underlying27 rfl (vs := (aL b0_ x0_ y0_)) sz_Rat rfl) rfl
        | 40, ht =>
          cases ht
          exact so_val rfl rfl ((wanted_if rfl rfl rfl (show tG a 58 <| .bool false from hd 38 58 rfl (by kernel_rfl))).trans rfl) (rn_load rfl (S.at 1 rfl) (S.bx 2 rfl) Tryz.underlying27 rfl (vs := (aL b2_ x2_ y2_)) sz_Rat rfl) rfl
        | 41, ht =>
          cases ht
          exact so_lays rfl rfl ((wanted_if rfl rfl rfl (show tG a 58 <| .bool false from hd 38 58 rfl (by kernel_rfl))).trans rfl) (ly_qrow2 rfl (show tG a 59 <| (aG b0_ x0_ y0_) from hd 39 59 rfl (by kernel_rfl)) (show tG a 60 <| (aG b2_ x2_ y2_) from hd 40 60 rfl (by kernel_rfl)) (show Q1 40 (q0) ((aG b0_ x0_ y0_)) _ from ⟨b0_, x0_, y0_, rfl, hqa0, hkx0, hky0, (S.num 4 rfl), (S.num 5 rfl)⟩) (show Q1 40 (q2) ((aG b2_ x2_ y2_)) _ from ⟨b2_, x2_, y2_, rfl, hqa2, hkx2, hky2, (S.num 0 rfl), (S.num 1 rfl)⟩))
        | 42, ht =>
          cases ht
          exact so_call rfl rfl ((wanted_if rfl rfl rfl (show tG a 58 <| .bool false from hd 38 58 rfl (by kernel_rfl))).trans rfl) (rn_call1 ⟨_, rfl⟩ rfl (enters_of Tryz.func27 (by kernel_rfl) rfl)) (AM.add2 (T.keep S.below) S.below ((show QL 40 6 ([q0, q2]) (a.tmps.getD 61 undef) V from hd 41 61 rfl (by kernel_rfl))).row (by omega))
        | 43, ht =>
          cases ht
          exact so_val rfl rfl ((wanted_if rfl rfl rfl (show tG a 58 <| .bool false from hd 38 58 rfl (by kernel_rfl))).trans rfl) (rn_load rfl (S.at 2 rfl) (S.bx 1 rfl) Tryz.underlying27 rfl (vs := (aL b1_ x1_ y1_)) sz_Rat rfl) rfl
        | 44, ht =>
          cases ht
          exact so_val rfl rfl ((wanted_if rfl rfl rfl (show tG a 58 <| .bool false from hd 38 58 rfl (by kernel_rfl))).trans rfl) (rn_load rfl (S.at 1 rfl) (S.bx 2 rfl) Tryz.underlying27 rfl (vs := (aL b2_ x2_ y2_)) sz_Rat rfl) rfl
        | 45, ht =>
          cases ht
          exact so_lays rfl rfl ((wanted_if rfl rfl rfl (show tG a 58 <| .bool false from hd 38 58 rfl (by kernel_rfl))).trans rfl) (ly_qrow2 rfl (show tG a 63 <| (aG b1_ x1_ y1_) from hd 43 63 rfl (by kernel_rfl)) (show tG a 64 <| (aG b2_ x2_ y2_) from hd 44 64 rfl (by kernel_rfl)) (show Q1 40 (q1) ((aG b1_ x1_ y1_)) _ from ⟨b1_, x1_, y1_, rfl, hqa1, hkx1, hky1, (S.num 2 rfl), (S.num 3 rfl)⟩) (show Q1 40 (q2) ((aG b2_ x2_ y2_)) _ from ⟨b2_, x2_, y2_, rfl, hqa2, hkx2, hky2, (S.num 0 rfl), (S.num 1 rfl)⟩))
        | 46, ht =>
          cases ht
          exact so_call rfl rfl ((wanted_if rfl rfl rfl (show tG a 58 <| .bool false from hd 38 58 rfl (by kernel_rfl))).trans rfl) (rn_call1 ⟨_, rfl⟩ rfl (enters_of Tryz.func27 (by kernel_rfl) rfl)) (AM.add2 (T.keep S.below) S.below ((show QL 40 6 ([q1, q2]) (a.tmps.getD 65 undef) V from hd 45 65 rfl (by kernel_rfl))).row (by omega))
        | 47, ht =>
          cases ht
          exact so_call rfl rfl ((wanted_if rfl rfl rfl (show tG a 58 <| .bool false from hd 38 58 rfl (by kernel_rfl))).trans rfl) (rn_call2 ⟨_, rfl⟩ rfl rfl (enters_of Tryz.func17 (by kernel_rfl) rfl)) (p7Cmp (T.keep S.below) ((show QT 81 (q0 + q2) (a.tmps.getD 62 undef) V from hd 42 62 rfl (by kernel_rfl))).any ((show QT 81 (q1 + q2) (a.tmps.getD 66 undef) V from hd 46 66 rfl (by kernel_rfl))).any (by omega) (by omega))
        | 48, ht =>
          cases ht
          exact so_val rfl rfl ((wanted_if rfl rfl rfl (show tG a 58 <| .bool false from hd 38 58 rfl (by kernel_rfl))).trans rfl) (rn_move rfl (S.at 0 rfl)) rfl
        | 49, ht =>
          cases ht
          exact so_val rfl rfl ((wanted_if rfl rfl rfl (show tG a 58 <| .bool false from hd 38 58 rfl (by kernel_rfl))).trans rfl) (rn_bool (rn_neq _ (by decide) rfl (show tG a 67 <| .int .i64 (cmpR (q0 + q2) (q1 + q2)) from hd 47 67 rfl (by kernel_rfl)) (show tG a 68 <| .int .i64 (cmpR q0 q1) from hd 48 68 rfl (by kernel_rfl))) (show (!decide (cmpR (q0 + q2) (q1 + q2) = cmpR q0 q1)) = false from (by rw [cmpR_add]; simp))) rfl
        | 50, ht =>
          cases ht
          exact so_val rfl rfl (wanted_free rfl) (rn_pick false rfl (show tG a 58 <| .bool false from hd 38 58 rfl (by kernel_rfl)) (show tG a 69 <| .bool false from hd 49 69 rfl (by kernel_rfl))) rfl
        | k + 51, ht => simp at ht
      · intro a7 V31 S hB hf
        have S := S.add (show a7.tmps.getD 70 undef = .bool false from hf 50 70 rfl)
        clear hf S0
        show wpList _ _ _ [] _ _
        refine hK6 _ _ ?_
        refine wp_cond_false (S.at 0 rfl) ?_
        refine wp_skip ?_
        refine hK5 _ _ ?_
        refine wp_seq_k fun K19 hK19 => ?_
        have S := S.keep [7, 5, 4, 3] (ls' := [(7, .int .i64 (cmpR q0 q1)), (5, pT g3 0), (4, pT g2 0), (3, pT g1 0)]) rfl
        refine frm_plain ?_
        refine tl_val S (v := (aG b0_ x0_ y0_)) (rn_load rfl (S.at 3 rfl) (S.bx 0 rfl) Tryz.underlying27 rfl (vs := (aL b0_ x0_ y0_)) sz_Rat rfl) rfl rfl (by decide) (ls' := [(7, .int .i64 (cmpR q0 q1)), (5, pT g3 0), (4, pT g2 0), (3, pT g1 0)]) rfl (fun a S => ?_)
        refine tl_val S (v := (aG b1_ x1_ y1_)) (rn_load rfl (S.at 3 rfl) (S.bx 1 rfl) Tryz.underlying27 rfl (vs := (aL b1_ x1_ y1_)) sz_Rat rfl) rfl rfl (by decide) (ls' := [(71, (aG b0_ x0_ y0_)), (7, .int .i64 (cmpR q0 q1)), (5, pT g3 0), (4, pT g2 0), (3, pT g1 0)]) rfl (fun a S => ?_)
        refine tl_call S (rn_call2 ⟨_, rfl⟩ (S.at 1 rfl) (S.at 0 rfl) (enters_of Tryz.func35 (by kernel_rfl) rfl)) (F := QT 82 ((q0 + q1) / 2)) (p7Mid (T.keep S.below) (show Q1 40 (q0) ((aG b0_ x0_ y0_)) _ from ⟨b0_, x0_, y0_, rfl, hqa0, hkx0, hky0, (S.num 4 rfl), (S.num 5 rfl)⟩) (show Q1 40 (q1) ((aG b1_ x1_ y1_)) _ from ⟨b1_, x1_, y1_, rfl, hqa1, hkx1, hky1, (S.num 2 rfl), (S.num 3 rfl)⟩) (by omega) (by omega)) rfl rfl (by decide) (ls' := [(72, (aG b1_ x1_ y1_)), (71, (aG b0_ x0_ y0_)), (7, .int .i64 (cmpR q0 q1)), (5, pT g3 0), (4, pT g2 0), (3, pT g1 0)]) rfl (fun v a V32 hF hb S => ?_)
        obtain ⟨b5, x7, y3, rfl, hq3, hk9, hk10, ok9, ok10⟩ := hF
        have S := S.know ok9
        have S := S.know ok10
        refine tl_box S (T := 27) (cs := [.bool false, .slice none 0 0, .slice none 0 0]) (rn_alloc rfl (Tryz.zeroValue27 _) rfl) rfl rfl rfl (by decide) (ls' := [(73, (aG b5 x7 y3)), (72, (aG b1_ x1_ y1_)), (71, (aG b0_ x0_ y0_)), (7, .int .i64 (cmpR q0 q1)), (5, pT g3 0), (4, pT g2 0), (3, pT g1 0)]) rfl (lb' := fun g10 => [⟨g1, 27, (aL b0_ x0_ y0_)⟩, ⟨g2, 27, (aL b1_ x1_ y1_)⟩, ⟨g3, 27, (aL b2_ x2_ y2_)⟩, ⟨g10, 27, [.bool false, .slice none 0 0, .slice none 0 0]⟩]) (fun _ => rfl) (fun g10 a V33 hgg10 S => ?_)
        refine tl_store S (i := 3) (vs := (aL b5 x7 y3)) rfl (fun ht => rn_store rfl (S.at 0 rfl) (S.at 1 rfl) sz_Rat rfl (Nat.le_of_ble_eq_true rfl) ht) (Nat.le_of_ble_eq_true rfl) rfl rfl rfl (lb' := [⟨g1, 27, (aL b0_ x0_ y0_)⟩, ⟨g2, 27, (aL b1_ x1_ y1_)⟩, ⟨g3, 27, (aL b2_ x2_ y2_)⟩, ⟨g10, 27, (aL b5 x7 y3)⟩]) rfl (fun V34 S => ?_)
        refine hK19 _ _ ?_
        refine wp_seq_k fun K20 hK20 => ?_
        refine wp_seq_k fun K21 hK21 => ?_
        have S := S.keep [8, 7, 5, 4, 3] (ls' := [(8, pT g10 0), (7, .int .i64 (cmpR q0 q1)), (5, pT g3 0), (4, pT g2 0), (3, pT g1 0)]) rfl
        obtain ⟨W8, hW8⟩ : ∃ W, W = V34 := ⟨_, rfl⟩
        rw [← hW8] at S ⊢
        have S0 := S
        refine frm_region 28 [74, 75, 76, 77, 78, 79, 80, 81, 82, 83, 84, 85, 86, 87, 88, 89, 90, 91, 92, 93, 94, 95, 96, 97, 98, 99, 100, 101] (fun i v V => match i with
            | 0 => v = (aG b0_ x0_ y0_)
            | 1 => v = (aG b5 x7 y3)
            | 2 => v = .int .i64 (cmpR q0 ((q0 + q1) / 2))
            | 3 => v = .int .i64 (cmpR q0 q1)
            | 4 => v = .bool false
            | 5 => v = .bool false
            | 6 => v = (aG b5 x7 y3)
            | 7 => v = (aG b1_ x1_ y1_)
            | 8 => v = .int .i64 (cmpR ((q0 + q1) / 2) q1)
            | 9 => v = .int .i64 (cmpR q0 q1)
            | 10 => v = .bool false
            | 11 => v = .bool false
            | 12 => v = .bool false
            | 13 => v = (aG b0_ x0_ y0_)
            | 14 => v = (aG b2_ x2_ y2_)
            | 15 => QL 40 6 ([q0, q2]) v V
            | 16 => QT 80 (q0 * q2) v V
            | 17 => v = (aG b1_ x1_ y1_)
            | 18 => v = (aG b2_ x2_ y2_)
            | 19 => QL 40 6 ([q1, q2]) v V
            | 20 => QT 80 (q1 * q2) v V
            | 21 => v = .int .i64 (cmpR (q0 * q2) (q1 * q2))
            | 22 => v = .int .i64 (cmpR q0 q1)
            | 23 => v = (aG b2_ x2_ y2_)
            | 24 => v = .int .i64 (cmpR q2 0)
            | 25 => v = .int .i64 ((cmpR q0 q1) * (cmpR q2 0))
            | 26 => v = .bool false
            | _ => v = .bool false) S (by kernel_rfl) (by kernel_rfl) rfl (by decide) rfl rfl ?_ ?_ ?_
        · intro i v V V2 hf hb
          match i, hf with
          | 0, hf => exact hf
          | 1, hf => exact hf
          | 2, hf => exact hf
          | 3, hf => exact hf
          | 4, hf => exact hf
          | 5, hf => exact hf
          | 6, hf => exact hf
          | 7, hf => exact hf
          | 8, hf => exact hf
          | 9, hf => exact hf
          | 10, hf => exact hf
          | 11, hf => exact hf
          | 12, hf => exact hf
          | 13, hf => exact hf
          | 14, hf => exact hf
          | 15, hf => exact QL.keep hf hb
          | 16, hf => exact QT.keep hf hb
          | 17, hf => exact hf
          | 18, hf => exact hf
          | 19, hf => exact QL.keep hf hb
          | 20, hf => exact QT.keep hf hb
          | 21, hf => exact hf
          | 22, hf => exact hf
          | 23, hf => exact hf
          | 24, hf => exact hf
          | 25, hf => exact hf
          | 26, hf => exact hf
          | _ + 27, hf => exact hf
        · intro i t ht a V S hB hd
          match i, ht with
          | 0, ht =>
            cases ht
            exact so_val rfl rfl (wanted_free rfl) (rn_load rfl (S.at 4 rfl) (S.bx 0 rfl) Tryz.underlying27 rfl (vs := (aL b0_ x0_ y0_)) sz_Rat rfl) rfl
          | 1, ht =>
            cases ht
            exact so_val rfl rfl (wanted_free rfl) (rn_load rfl (S.at 0 rfl) (S.bx 3 rfl) Tryz.underlying27 rfl (vs := (aL b5 x7 y3)) sz_Rat rfl) rfl
          | 2, ht =>
            cases ht
            exact so_call rfl rfl (wanted_free rfl) (rn_call2 ⟨_, rfl⟩ (show tG a 74 <| (aG b0_ x0_ y0_) from hd 0 74 rfl (by kernel_rfl)) (show tG a 75 <| (aG b5 x7 y3) from hd 1 75 rfl (by kernel_rfl)) (enters_of Tryz.func17 (by kernel_rfl) rfl)) (p7Cmp (T.keep S.below) (show Q1 40 (q0) ((aG b0_ x0_ y0_)) _ from ⟨b0_, x0_, y0_, rfl, hqa0, hkx0, hky0, (S.num 6 rfl), (S.num 7 rfl)⟩) (show QT 82 ((q0 + q1) / 2) ((aG b5 x7 y3)) _ from ⟨b5, x7, y3, rfl, hq3, hk9, hk10, (S.num 1 rfl), (S.num 0 rfl)⟩).any (by omega) (by omega))
          | 3, ht =>
            cases ht
            exact so_val rfl rfl (wanted_free rfl) (rn_move rfl (S.at 1 rfl)) rfl
          | 4, ht =>
            cases ht
            exact so_val rfl rfl (wanted_free rfl) (rn_bool (rn_neq _ (by decide) rfl (show tG a 76 <| .int .i64 (cmpR q0 ((q0 + q1) / 2)) from hd 2 76 rfl (by kernel_rfl)) (show tG a 77 <| .int .i64 (cmpR q0 q1) from hd 3 77 rfl (by kernel_rfl))) (show (!decide (cmpR q0 ((q0 + q1) / 2) = cmpR q0 q1)) = false from (by rw [(cmpR_mid q0 q1).1]; simp))) rfl
          | 5, ht =>
            cases ht
            exact so_val rfl rfl (wanted_free rfl) (rn_move rfl (show tG a 78 <| .bool false from hd 4 78 rfl (by kernel_rfl))) rfl
          | 6, ht =>
            cases ht
            exact so_val rfl rfl ((wanted_if rfl rfl rfl (show tG a 79 <| .bool false from hd 5 79 rfl (by kernel_rfl))).trans rfl) (rn_load rfl (S.at 0 rfl) (S.bx 3 rfl) Tryz.underlying27 rfl (vs := (aL b5 x7 y3)) sz_Rat rfl) rfl
          | 7, ht =>
            cases ht
            exact so_val rfl rfl ((wanted_if rfl rfl rfl (show tG a 79 <| .bool false from hd 5 79 rfl (by kernel_rfl))).trans rfl) (rn_load rfl (S.at 3 rfl) (S.bx 1 rfl) Tryz.underlying27 rfl (vs := (aL b1_ x1_ y1_)) sz_Rat rfl) rfl
          | 8, ht =>
            cases ht
            exact so_call rfl rfl ((wanted_if rfl rfl rfl (show tG a 79 <| .bool false from hd 5 79 rfl (by kernel_rfl))).trans rfl) (rn_call2 ⟨_, rfl⟩ (show tG a 80 <| (aG b5 x7 y3) from hd 6 80 rfl (by kernel_rfl)) (show tG a 81 <| (aG b1_ x1_ y1_) from hd 7 81 rfl (by kernel_rfl)) (enters_of Tryz.func17 (by kernel_rfl) rfl)) (p7Cmp (T.keep S.below) (show QT 82 ((q0 + q1) / 2) ((aG b5 x7 y3)) _ from ⟨b5, x7, y3, rfl, hq3, hk9, hk10, (S.num 1 rfl), (S.num 0 rfl)⟩).any (show Q1 40 (q1) ((aG b1_ x1_ y1_)) _ from ⟨b1_, x1_, y1_, rfl, hqa1, hkx1, hky1, (S.num 4 rfl), (S.num 5 rfl)⟩) (by omega) (by omega))
          | 9, ht =>
            cases ht
            exact so_val rfl rfl ((wanted_if rfl rfl rfl (show tG a 79 <| .bool false from hd 5 79 rfl (by kernel_rfl))).trans rfl) (rn_move rfl (S.at 1 rfl)) rfl
          | 10, ht =>
            cases ht
            exact so_val rfl rfl ((wanted_if rfl rfl rfl (show tG a 79 <| .bool false from hd 5 79 rfl (by kernel_rfl))).trans rfl) (rn_bool (rn_neq _ (by decide) rfl (show tG a 82 <| .int .i64 (cmpR ((q0 + q1) / 2) q1) from hd 8 82 rfl (by kernel_rfl)) (show tG a 83 <| .int .i64 (cmpR q0 q1) from hd 9 83 rfl (by kernel_rfl))) (show (!decide (cmpR ((q0 + q1) / 2) q1 = cmpR q0 q1)) = false from (by rw [(cmpR_mid q0 q1).2]; simp))) rfl
          | 11, ht =>
            cases ht
            exact so_val rfl rfl (wanted_free rfl) (rn_pick false rfl (show tG a 79 <| .bool false from hd 5 79 rfl (by kernel_rfl)) (show tG a 84 <| .bool false from hd 10 84 rfl (by kernel_rfl))) rfl
          | 12, ht =>
            cases ht
            exact so_val rfl rfl (wanted_free rfl) (rn_move rfl (show tG a 85 <| .bool false from hd 11 85 rfl (by kernel_rfl))) rfl
          | 13, ht =>
            cases ht
            exact so_val rfl rfl ((wanted_if rfl rfl rfl (show tG a 86 <| .bool false from hd 12 86 rfl (by kernel_rfl))).trans rfl) (rn_load rfl (S.at 4 rfl) (S.bx 0 rfl) Tryz.underlying27 rfl (vs := (aL b0_ x0_ y0_)) sz_Rat rfl) rfl
          | 14, ht =>
            cases ht
            exact so_val rfl rfl ((wanted_if rfl rfl rfl (show tG a 86 <| .bool false from hd 12 86 rfl (by kernel_rfl))).trans rfl) (rn_load rfl (S.at 2 rfl) (S.bx 2 rfl) Tryz.underlying27 rfl (vs := (aL b2_ x2_ y2_)) sz_Rat rfl) rfl
          | 15, ht =>
            cases ht
            exact so_lays rfl rfl ((wanted_if rfl rfl rfl (show tG a 86 <| .bool false from hd 12 86 rfl (by kernel_rfl))).trans rfl) (ly_qrow2 rfl (show tG a 87 <| (aG b0_ x0_ y0_) from hd 13 87 rfl (by kernel_rfl)) (show tG a 88 <| (aG b2_ x2_ y2_) from hd 14 88 rfl (by kernel_rfl)) (show Q1 40 (q0) ((aG b0_ x0_ y0_)) _ from ⟨b0_, x0_, y0_, rfl, hqa0, hkx0, hky0, (S.num 6 rfl), (S.num 7 rfl)⟩) (show Q1 40 (q2) ((aG b2_ x2_ y2_)) _ from ⟨b2_, x2_, y2_, rfl, hqa2, hkx2, hky2, (S.num 2 rfl), (S.num 3 rfl)⟩))
          | 16, ht =>
            cases ht
            exact so_call rfl rfl ((wanted_if rfl rfl rfl (show tG a 86 <| .bool false from hd 12 86 rfl (by kernel_rfl))).trans rfl) (rn_call1 ⟨_, rfl⟩ rfl (enters_of Tryz.func29 (by kernel_rfl) rfl)) (AM.mul2 (T.keep S.below) S.below ((show QL 40 6 ([q0, q2]) (a.tmps.getD 89 undef) V from hd 15 89 rfl (by kernel_rfl))).row (by omega))
          | 17, ht =>
            cases ht
            exact so_val rfl rfl ((wanted_if rfl rfl rfl (show tG a 86 <| .bool false from hd 12 86 rfl (by kernel_rfl))).trans rfl) (rn_load rfl (S.at 3 rfl) (S.bx 1 rfl) Tryz.underlying27 rfl (vs := (aL b1_ x1_ y1_)) sz_Rat rfl) rfl
          | 18, ht =>
            cases ht
            exact so_val rfl rfl ((wanted_if rfl rfl rfl (show tG a 86 <| .bool false from hd 12 86 rfl (by kernel_rfl))).trans rfl) (rn_load rfl (S.at 2 rfl) (S.bx 2 rfl) Tryz.underlying27 rfl (vs := (aL b2_ x2_ y2_)) sz_Rat rfl) rfl
          | 19, ht =>
            cases ht
            exact so_lays rfl rfl ((wanted_if rfl rfl rfl (show tG a 86 <| .bool false from hd 12 86 rfl (by kernel_rfl))).trans rfl) (ly_qrow2 rfl (show tG a 91 <| (aG b1_ x1_ y1_) from hd 17 91 rfl (by kernel_rfl)) (show tG a 92 <| (aG b2_ x2_ y2_) from hd 18 92 rfl (by kernel_rfl)) (show Q1 40 (q1) ((aG b1_ x1_ y1_)) _ from ⟨b1_, x1_, y1_, rfl, hqa1, hkx1, hky1, (S.num 4 rfl), (S.num 5 rfl)⟩) (show Q1 40 (q2) ((aG b2_ x2_ y2_)) _ from ⟨b2_, x2_, y2_, rfl, hqa2, hkx2, hky2, (S.num 2 rfl), (S.num 3 rfl)⟩))
          | 20, ht =>
            cases ht
            exact so_call rfl rfl ((wanted_if rfl rfl rfl (show tG a 86 <| .bool false from hd 12 86 rfl (by kernel_rfl))).trans rfl) (rn_call1 ⟨_, rfl⟩ rfl (enters_of Tryz.func29 (by kernel_rfl) rfl)) (AM.mul2 (T.keep S.below) S.below ((show QL 40 6 ([q1, q2]) (a.tmps.getD 93 undef) V from hd 19 93 rfl (by kernel_rfl))).row (by omega))
          | 21, ht =>
            cases ht
            exact so_call rfl rfl ((wanted_if rfl rfl rfl (show tG a 86 <| .bool false from hd 12 86 rfl (by kernel_rfl))).trans rfl) (rn_call2 ⟨_, rfl⟩ rfl rfl (enters_of Tryz.func17 (by kernel_rfl) rfl)) (p7Cmp (T.keep S.below) ((show QT 80 (q0 * q2) (a.tmps.getD 90 undef) V from hd 16 90 rfl (by kernel_rfl))).any ((show QT 80 (q1 * q2) (a.tmps.getD 94 undef) V from hd 20 94 rfl (by kernel_rfl))).any (by omega) (by omega))
          | 22, ht =>
            cases ht
            exact so_val rfl rfl ((wanted_if rfl rfl rfl (show tG a 86 <| .bool false from hd 12 86 rfl (by kernel_rfl))).trans rfl) (rn_move rfl (S.at 1 rfl)) rfl
          | 23, ht =>
            cases ht
            exact so_val rfl rfl ((wanted_if rfl rfl rfl (show tG a 86 <| .bool false from hd 12 86 rfl (by kernel_rfl))).trans rfl) (rn_load rfl (S.at 2 rfl) (S.bx 2 rfl) Tryz.underlying27 rfl (vs := (aL b2_ x2_ y2_)) sz_Rat rfl) rfl
          | 24, ht =>
            cases ht
            exact so_call rfl rfl ((wanted_if rfl rfl rfl (show tG a 86 <| .bool false from hd 12 86 rfl (by kernel_rfl))).trans rfl) (rn_call1 ⟨_, rfl⟩ (show tG a 97 <| (aG b2_ x2_ y2_) from hd 23 97 rfl (by kernel_rfl)) (enters_of Tryz.func15 (by kernel_rfl) rfl)) (p7Sign (T.keep S.below) (show Q1 40 (q2) ((aG b2_ x2_ y2_)) _ from ⟨b2_, x2_, y2_, rfl, hqa2, hkx2, hky2, (S.num 2 rfl), (S.num 3 rfl)⟩) (by omega))
          | 25, ht =>
            cases ht
            exact so_val rfl rfl ((wanted_if rfl rfl rfl (show tG a 86 <| .bool false from hd 12 86 rfl (by kernel_rfl))).trans rfl) (rn_mul rfl (show tG a 96 <| .int .i64 (cmpR q0 q1) from hd 22 96 rfl (by kernel_rfl)) (show tG a 98 <| .int .i64 (cmpR q2 0) from hd 24 98 rfl (by kernel_rfl)) (inr_cc _ _ _ _)) rfl
          | 26, ht =>
            cases ht
            exact so_val rfl rfl ((wanted_if rfl rfl rfl (show tG a 86 <| .bool false from hd 12 86 rfl (by kernel_rfl))).trans rfl) (rn_bool (rn_neq _ (by decide) rfl (show tG a 95 <| .int .i64 (cmpR (q0 * q2) (q1 * q2)) from hd 21 95 rfl (by kernel_rfl)) (show tG a 99 <| .int .i64 ((cmpR q0 q1) * (cmpR q2 0)) from hd 25 99 rfl (by kernel_rfl))) (show (!decide (cmpR (q0 * q2) (q1 * q2) = (cmpR q0 q1) * (cmpR q2 0))) = false from (by rw [cmpR_mul, signR]; simp))) rfl
          | 27, ht =>
            cases ht
            exact so_val rfl rfl (wanted_free rfl) (rn_pick false rfl (show tG a 86 <| .bool false from hd 12 86 rfl (by kernel_rfl)) (show tG a 100 <| .bool false from hd 26 100 rfl (by kernel_rfl))) rfl
          | k + 28, ht => simp at ht
        · intro a8 V35 S hB hf
          have S := S.add (show a8.tmps.getD 101 undef = .bool false from hf 27 101 rfl)
          clear hf S0
          show wpList _ _ _ [] _ _
          refine hK21 _ _ ?_
          refine wp_cond_false (S.at 0 rfl) ?_
          refine wp_skip ?_
          refine hK20 _ _ ?_
          refine wp_seq_k fun K22 hK22 => ?_
          have S := S.keep [3] (ls' := [(3, pT g1 0)]) rfl
          refine frm_plain ?_
          refine tl_val S (v := (aG b0_ x0_ y0_)) (rn_load rfl (S.at 0 rfl) (S.bx 0 rfl) Tryz.underlying27 rfl (vs := (aL b0_ x0_ y0_)) sz_Rat rfl) rfl rfl (by decide) (ls' := [(3, pT g1 0)]) rfl (fun a S => ?_)
          refine tl_call S (rn_call1 ⟨_, rfl⟩ (S.at 0 rfl) (enters_of Tryz.func38 (by kernel_rfl) rfl)) (F := ZT 41 (Rat.floor q0)) (p7Floor (T.keep S.below) (show Q1 40 (q0) ((aG b0_ x0_ y0_)) _ from ⟨b0_, x0_, y0_, rfl, hqa0, hkx0, hky0, (S.num 6 rfl), (S.num 7 rfl)⟩) (by omega)) rfl rfl (by decide) (ls' := [(102, (aG b0_ x0_ y0_)), (3, pT g1 0)]) rfl (fun v a V36 hF hb S => ?_)
          obtain ⟨b6, x8, rfl, hz3, hk11, ok11⟩ := hF
          have S := S.know ok11
          refine tl_box S (T := 25) (cs := [.bool false, .slice none 0 0]) (rn_alloc rfl (Tryz.zeroValue25 _) rfl) rfl rfl rfl (by decide) (ls' := [(103, (aZ b6 x8)), (102, (aG b0_ x0_ y0_)), (3, pT g1 0)]) rfl (lb' := fun g11 => [⟨g1, 27, (aL b0_ x0_ y0_)⟩, ⟨g2, 27, (aL b1_ x1_ y1_)⟩, ⟨g3, 27, (aL b2_ x2_ y2_)⟩, ⟨g10, 27, (aL b5 x7 y3)⟩, ⟨g11, 25, [.bool false, .slice none 0 0]⟩]) (fun _ => rfl) (fun g11 a V37 hgg11 S => ?_)
          refine tl_store S (i := 4) (vs := [.bool b6, aS x8]) rfl (fun ht => rn_store rfl (S.at 0 rfl) (S.at 1 rfl) sz_Int rfl (Nat.le_of_ble_eq_true rfl) ht) (Nat.le_of_ble_eq_true rfl) rfl rfl rfl (lb' := [⟨g1, 27, (aL b0_ x0_ y0_)⟩, ⟨g2, 27, (aL b1_ x1_ y1_)⟩, ⟨g3, 27, (aL b2_ x2_ y2_)⟩, ⟨g10, 27, (aL b5 x7 y3)⟩, ⟨g11, 25, [.bool b6, aS x8]⟩]) rfl (fun V38 S => ?_)
          refine hK22 _ _ ?_
          refine wp_seq_k fun K23 hK23 => ?_
          have S := S.keep [9, 3] (ls' := [(9, pT g11 0), (3, pT g1 0)]) rfl
          refine frm_plain ?_
          refine tl_val S (v := (aZ b6 x8)) (rn_load rfl (S.at 0 rfl) (S.bx 4 rfl) Tryz.underlying25 rfl (vs := [.bool b6, aS x8]) sz_Int rfl) rfl rfl (by decide) (ls' := [(9, pT g11 0), (3, pT g1 0)]) rfl (fun a S => ?_)
          refine tl_lays S (F := NT 1 ((1 : Nat))) (ly_oneT (c := 1) rfl (by decide) (by decide)) rfl rfl (by decide) (ls' := [(104, (aZ b6 x8)), (9, pT g11 0), (3, pT g1 0)]) rfl (fun v a V39 hF hb S => ?_)
          obtain ⟨x9, rfl, hN3, hn3, hk12, ok12⟩ := hF
          have S := S.know ok12
          refine tl_val S (v := (aG b6 x8 x9)) (rn_build2 rfl (S.at 1 rfl) (S.at 0 rfl) (bd_Rat _ _ _ _ _ _ _)) rfl rfl (by decide) (ls' := [(105, aS x9), (104, (aZ b6 x8)), (9, pT g11 0), (3, pT g1 0)]) rfl (fun a S => ?_)
          refine tl_box S (T := 27) (cs := [.bool false, .slice none 0 0, .slice none 0 0]) (rn_alloc rfl (Tryz.zeroValue27 _) rfl) rfl rfl rfl (by decide) (ls' := [(106, (aG b6 x8 x9)), (105, aS x9), (104, (aZ b6 x8)), (9, pT g11 0), (3, pT g1 0)]) rfl (lb' := fun g12 => [⟨g1, 27, (aL b0_ x0_ y0_)⟩, ⟨g2, 27, (aL b1_ x1_ y1_)⟩, ⟨g3, 27, (aL b2_ x2_ y2_)⟩, ⟨g10, 27, (aL b5 x7 y3)⟩, ⟨g11, 25, [.bool b6, aS x8]⟩, ⟨g12, 27, [.bool false, .slice none 0 0, .slice none 0 0]⟩]) (fun _ => rfl) (fun g12 a V40 hgg12 S => ?_)
          refine tl_store S (i := 5) (vs := (aL b6 x8 x9)) rfl (fun ht => rn_store rfl (S.at 0 rfl) (S.at 1 rfl) sz_Rat rfl (Nat.le_of_ble_eq_true rfl) ht) (Nat.le_of_ble_eq_true rfl) rfl rfl rfl (lb' := [⟨g1, 27, (aL b0_ x0_ y0_)⟩, ⟨g2, 27, (aL b1_ x1_ y1_)⟩, ⟨g3, 27, (aL b2_ x2_ y2_)⟩, ⟨g10, 27, (aL b5 x7 y3)⟩, ⟨g11, 25, [.bool b6, aS x8]⟩, ⟨g12, 27, (aL b6 x8 x9)⟩]) rfl (fun V41 S => ?_)
          refine hK23 _ _ ?_
          refine wp_seq_k fun K24 hK24 => ?_
          have S := S.keep [10, 3] (ls' := [(10, pT g12 0), (3, pT g1 0)]) rfl
          obtain ⟨W9, hW9⟩ : ∃ W, W = V41 := ⟨_, rfl⟩
          rw [← hW9] at S ⊢
          have S0 := S
          refine frm_region 16 [107, 108, 109, 110, 111, 112, 113, 114, 115, 116, 117, 118, 119, 120, 121, 122] (fun i v V => match i with
              | 0 => v = (aG b6 x8 x9)
              | 1 => v = (aG b0_ x0_ y0_)
              | 2 => v = .int .i64 (cmpR ((q0.floor : Int) : Rat) q0)
              | 3 => v = .bool true
              | 4 => v = .bool true
              | 5 => v = (aG b6 x8 x9)
              | 6 => QT 1 ((1 : Rat)) v V
              | 7 => QL 42 6 ([((q0.floor : Int) : Rat), (1 : Rat)]) v V
              | 8 => QT 85 (((q0.floor : Int) : Rat) + (1 : Rat)) v V
              | 9 => v = (aG b0_ x0_ y0_)
              | 10 => v = .int .i64 (cmpR (((q0.floor : Int) : Rat) + (1 : Rat)) q0)
              | 11 => v = .bool true
              | 12 => v = .bool true
              | 13 => v = .bool true
              | 14 => v = .bool true
              | _ => v = .bool true) S (by kernel_rfl) (by kernel_rfl) rfl (by decide) rfl rfl ?_ ?_ ?_
          · intro i v V V2 hf hb
            match i, hf with
            | 0, hf => exact hf
            | 1, hf => exact hf
            | 2, hf => exact hf
            | 3, hf => exact hf
            | 4, hf => exact hf
            | 5, hf => exact hf
            | 6, hf => exact QT.keep hf hb
            | 7, hf => exact QL.keep hf hb
            | 8, hf => exact QT.keep hf hb
            | 9, hf => exact hf
            | 10, hf => exact hf
            | 11, hf => exact hf
            | 12, hf => exact hf
            | 13, hf => exact hf
            | 14, hf => exact hf
            | _ + 15, hf => exact hf
          · intro i t ht a V S hB hd
            match i, ht with
            | 0, ht =>
              cases ht
              exact so_val rfl rfl (wanted_free rfl) (rn_load rfl (S.at 0 rfl) (S.bx 5 rfl) Tryz.underlying27 rfl (vs := (aL b6 x8 x9)) sz_Rat rfl) rfl
            | 1, ht =>
              cases ht
              exact so_val rfl rfl (wanted_free rfl) (rn_load rfl (S.at 1 rfl) (S.bx 0 rfl) Tryz.underlying27 rfl (vs := (aL b0_ x0_ y0_)) sz_Rat rfl) rfl
            | 2, ht =>
              cases ht
              exact so_call rfl rfl (wanted_free rfl) (rn_call2 ⟨_, rfl⟩ (show tG a 107 <| (aG b6 x8 x9) from hd 0 107 rfl (by kernel_rfl)) (show tG a 108 <| (aG b0_ x0_ y0_) from hd 1 108 rfl (by kernel_rfl)) (enters_of Tryz.func17 (by kernel_rfl) rfl)) (p7Cmp (T.keep S.below) (show QT 42 (((q0.floor : Int) : Rat)) ((aG b6 x8 x9)) _ from ⟨b6, x8, x9, rfl, isQ_n hz3 hN3 hn3, Nat.le_trans hk11 (by decide), Nat.le_trans hk12 (by decide), (S.num 1 rfl), (S.num 0 rfl)⟩).any (show Q1 40 (q0) ((aG b0_ x0_ y0_)) _ from ⟨b0_, x0_, y0_, rfl, hqa0, hkx0, hky0, (S.num 8 rfl), (S.num 9 rfl)⟩) (by omega) (by omega))
            | 3, ht =>
              cases ht
              exact so_val rfl rfl (wanted_free rfl) (rn_bool (rn_leq rfl (show tG a 109 <| .int .i64 (cmpR ((q0.floor : Int) : Rat) q0) from hd 2 109 rfl (by kernel_rfl)) rfl) (show (decide (cmpR ((q0.floor : Int) : Rat) q0 ≤ 0)) = true from (decide_eq_true (cmpR_le.2 (Rat.floor_le q0))))) rfl
            | 4, ht =>
              cases ht
              exact so_val rfl rfl (wanted_free rfl) (rn_move rfl (show tG a 110 <| .bool true from hd 3 110 rfl (by kernel_rfl))) rfl
            | 5, ht =>
              cases ht
              exact so_val rfl rfl ((wanted_if rfl rfl rfl (show tG a 111 <| .bool true from hd 4 111 rfl (by kernel_rfl))).trans rfl) (rn_load rfl (S.at 0 rfl) (S.bx 5 rfl) Tryz.underlying27 rfl (vs := (aL b6 x8 x9)) sz_Rat rfl) rfl
            | 6, ht =>
              cases ht
              exact so_call rfl rfl ((wanted_if rfl rfl rfl (show tG a 111 <| .bool true from hd 4 111 rfl (by kernel_rfl))).trans rfl) (rn_callc ⟨_, rfl⟩  (enters_of Tryz.func21 (by kernel_rfl) rfl)) p7Of1
            | 7, ht =>
              cases ht
              exact so_lays rfl rfl ((wanted_if rfl rfl rfl (show tG a 111 <| .bool true from hd 4 111 rfl (by kernel_rfl))).trans rfl) (ly_qrow2 rfl (show tG a 112 <| (aG b6 x8 x9) from hd 5 112 rfl (by kernel_rfl)) rfl (show QT 42 (((q0.floor : Int) : Rat)) ((aG b6 x8 x9)) _ from ⟨b6, x8, x9, rfl, isQ_n hz3 hN3 hn3, Nat.le_trans hk11 (by decide), Nat.le_trans hk12 (by decide), (S.num 1 rfl), (S.num 0 rfl)⟩).any ((((show QT 1 ((1 : Rat)) (a.tmps.getD 113 undef) V from hd 6 113 rfl (by kernel_rfl))).any).to rfl (by omega)))
            | 8, ht =>
              cases ht
              exact so_call rfl rfl ((wanted_if rfl rfl rfl (show tG a 111 <| .bool true from hd 4 111 rfl (by kernel_rfl))).trans rfl) (rn_call1 ⟨_, rfl⟩ rfl (enters_of Tryz.func27 (by kernel_rfl) rfl)) (AM.add2 (T.keep S.below) S.below ((show QL 42 6 ([((q0.floor : Int) : Rat), (1 : Rat)]) (a.tmps.getD 114 undef) V from hd 7 114 rfl (by kernel_rfl))).row (by omega))
            | 9, ht =>
              cases ht
              exact so_val rfl rfl ((wanted_if rfl rfl rfl (show tG a 111 <| .bool true from hd 4 111 rfl (by kernel_rfl))).trans rfl) (rn_load rfl (S.at 1 rfl) (S.bx 0 rfl) Tryz.underlying27 rfl (vs := (aL b0_ x0_ y0_)) sz_Rat rfl) rfl
            | 10, ht =>
              cases ht
              exact so_call rfl rfl ((wanted_if rfl rfl rfl (show tG a 111 <| .bool true from hd 4 111 rfl (by kernel_rfl))).trans rfl) (rn_call2 ⟨_, rfl⟩ rfl (show tG a 116 <| (aG b0_ x0_ y0_) from hd 9 116 rfl (by kernel_rfl)) (enters_of Tryz.func17 (by kernel_rfl) rfl)) (p7Cmp (T.keep S.below) ((show QT 85 (((q0.floor : Int) : Rat) + (1 : Rat)) (a.tmps.getD 115 undef) V from hd 8 115 rfl (by kernel_rfl))).any (show Q1 40 (q0) ((aG b0_ x0_ y0_)) _ from ⟨b0_, x0_, y0_, rfl, hqa0, hkx0, hky0, (S.num 8 rfl), (S.num 9 rfl)⟩) (by omega) (by omega))
            | 11, ht =>
              cases ht
              exact so_val rfl rfl ((wanted_if rfl rfl rfl (show tG a 111 <| .bool true from hd 4 111 rfl (by kernel_rfl))).trans rfl) (rn_bool (rn_gtr rfl (show tG a 117 <| .int .i64 (cmpR (((q0.floor : Int) : Rat) + (1 : Rat)) q0) from hd 10 117 rfl (by kernel_rfl)) rfl) (show (decide (0 < cmpR (((q0.floor : Int) : Rat) + (1 : Rat)) q0)) = true from (decide_eq_true (low_gt q0)))) rfl
            | 12, ht =>
              cases ht
              exact so_val rfl rfl (wanted_free rfl) (rn_pick true rfl (show tG a 111 <| .bool true from hd 4 111 rfl (by kernel_rfl)) (show tG a 118 <| .bool true from hd 11 118 rfl (by kernel_rfl))) rfl
            | 13, ht =>
              cases ht
              exact so_val rfl rfl (wanted_free rfl) (rn_move rfl (show tG a 119 <| .bool true from hd 12 119 rfl (by kernel_rfl))) rfl
            | 14, ht =>
              cases ht
              exact so_call rfl rfl ((wanted_if rfl rfl rfl (show tG a 120 <| .bool true from hd 13 120 rfl (by kernel_rfl))).trans rfl) (rn_call0 ⟨_, rfl⟩  (enters_of Tryz.func9 (by kernel_rfl) rfl)) (l7wakes (T.keep S.below))
            | 15, ht =>
              cases ht
              exact so_val rfl rfl (wanted_free rfl) (rn_pick true rfl (show tG a 120 <| .bool true from hd 13 120 rfl (by kernel_rfl)) (show tG a 121 <| .bool true from hd 14 121 rfl (by kernel_rfl))) rfl
            | k + 16, ht => simp at ht
          · intro a9 V42 S hB hf
            have S := S.add (show a9.tmps.getD 122 undef = .bool true from hf 15 122 rfl)
            clear hf S0
            show wpList _ _ _ [_] _ _
            refine tl_val S (v := .bool true) (rn_assign rfl (S.at 0 rfl)) rfl rfl (by decide) (ls' := [(122, .bool true), (10, pT g12 0), (3, pT g1 0)]) rfl (fun a S => ?_)
            refine hK24 _ _ ?_
            refine wp_ret ?_
            exact frm_ret1 rfl S (S.at 0 rfl) ⟨_, rfl, rfl, S.below⟩
    · skip
      have S := S.keep [7, 5, 4, 3] (ls' := [(7, .int .i64 (cmpR q0 q1)), (5, pT g3 0), (4, pT g2 0), (3, pT g1 0)]) rfl
      obtain ⟨W10, hW10⟩ : ∃ W, W = V6 := ⟨_, rfl⟩
      rw [← hW10] at S ⊢
      have S0 := S
      refine frm_region 51 [20, 21, 22, 23, 24, 25, 26, 27, 28, 29, 30, 31, 32, 33, 34, 35, 36, 37, 38, 39, 40, 41, 42, 43, 44, 45, 46, 47, 48, 49, 50, 51, 52, 53, 54, 55, 56, 57, 58, 59, 60, 61, 62, 63, 64, 65, 66, 67, 68, 69, 70] (fun i v V => match i with
          | 0 => v = .int .i64 (cmpR q0 q1)
          | 1 => v = .bool false
          | 2 => v = .bool false
          | 3 => v = .int .i64 (cmpR q0 q1)
          | 4 => v = .bool false
          | 5 => v = .bool false
          | 6 => v = .bool false
          | 7 => v = (aG b1_ x1_ y1_)
          | 8 => v = (aG b0_ x0_ y0_)
          | 9 => v = .int .i64 (cmpR q1 q0)
          | 10 => v = .int .i64 (cmpR q0 q1)
          | 11 => v = .int .i64 (-(cmpR q0 q1))
          | 12 => v = .bool false
          | 13 => v = .bool false
          | 14 => v = .bool false
          | 15 => v = .int .i64 (cmpR q0 q1)
          | 16 => v = .bool false
          | 17 => v = .bool false
          | 18 => v = undef
          | 19 => v = undef
          | 20 => v = undef
          | 21 => v = undef
          | 22 => v = .bool false
          | 23 => v = .bool false
          | 24 => v = undef
          | 25 => v = undef
          | 26 => v = undef
          | 27 => v = undef
          | 28 => v = .bool false
          | 29 => v = .bool false
          | 30 => v = .bool false
          | 31 => v = (aG b0_ x0_ y0_)
          | 32 => v = (aG b1_ x1_ y1_)
          | 33 => v = .bool (decide (cmpR q0 q1 = 0))
          | 34 => v = .int .i64 (cmpR q0 q1)
          | 35 => v = .bool (decide (cmpR q0 q1 = 0))
          | 36 => v = .bool false
          | 37 => v = .bool false
          | 38 => v = .bool false
          | 39 => v = (aG b0_ x0_ y0_)
          | 40 => v = (aG b2_ x2_ y2_)
          | 41 => QL 40 6 ([q0, q2]) v V
          | 42 => QT 81 (q0 + q2) v V
          | 43 => v = (aG b1_ x1_ y1_)
          | 44 => v = (aG b2_ x2_ y2_)
          | 45 => QL 40 6 ([q1, q2]) v V
          | 46 => QT 81 (q1 + q2) v V
          | 47 => v = .int .i64 (cmpR (q0 + q2) (q1 + q2))
          | 48 => v = .int .i64 (cmpR q0 q1)
          | 49 => v = .bool false
          | _ => v = .bool false) S (by kernel_rfl) (by kernel_rfl) rfl (by decide) rfl rfl ?_ ?_ ?_
      · intro i v V V2 hf hb
        match i, hf with
        | 0, hf => exact hf
        | 1, hf => exact hf
        | 2, hf => exact hf
        | 3, hf => exact hf
        | 4, hf => exact hf
        | 5, hf => exact hf
        | 6, hf => exact hf
        | 7, hf => exact hf
        | 8, hf => exact hf
        | 9, hf => exact hf
        | 10, hf => exact hf
        | 11, hf => exact hf
        | 12, hf => exact hf
        | 13, hf => exact hf
        | 14, hf => exact hf
        | 15, hf => exact hf
        | 16, hf => exact hf
        | 17, hf => exact hf
        | 18, hf => exact hf
        | 19, hf => exact hf
        | 20, hf => exact hf
        | 21, hf => exact hf
        | 22, hf => exact hf
        | 23, hf => exact hf
        | 24, hf => exact hf
        | 25, hf => exact hf
        | 26, hf => exact hf
        | 27, hf => exact hf
        | 28, hf => exact hf
        | 29, hf => exact hf
        | 30, hf => exact hf
        | 31, hf => exact hf
        | 32, hf => exact hf
        | 33, hf => exact hf
        | 34, hf => exact hf
        | 35, hf => exact hf
        | 36, hf => exact hf
        | 37, hf => exact hf
        | 38, hf => exact hf
        | 39, hf => exact hf
        | 40, hf => exact hf
        | 41, hf => exact QL.keep hf hb
        | 42, hf => exact QT.keep hf hb
        | 43, hf => exact hf
        | 44, hf => exact hf
        | 45, hf => exact QL.keep hf hb
        | 46, hf => exact QT.keep hf hb
        | 47, hf => exact hf
        | 48, hf => exact hf
        | 49, hf => exact hf
        | _ + 50, hf => exact hf
      · intro i t ht a V S hB hd
        match i, ht with
        | 0, ht =>
          cases ht
          exact so_val rfl rfl (wanted_free rfl) (rn_move rfl (S.at 0 rfl)) rfl
        | 1, ht =>
          cases ht
          exact so_val rfl rfl (wanted_free rfl) (rn_bool (rn_lss rfl (show tG a 20 <| .int .i64 (cmpR q0 q1) from hd 0 20 rfl (by kernel_rfl)) rfl) (show (decide (cmpR q0 q1 < -1)) = false from (decide_eq_false (by have := cmpR_range q0 q1; omega)))) rfl
        | 2, ht =>
          cases ht
          exact so_val rfl rfl (wanted_free rfl) (rn_move rfl (show tG a 21 <| .bool false from hd 1 21 rfl (by kernel_rfl))) rfl
        | 3, ht =>
          cases ht
          exact so_val rfl rfl ((wanted_if rfl rfl rfl (show tG a 22 <| .bool false from hd 2 22 rfl (by kernel_rfl))).trans rfl) (rn_move rfl (S.at 0 rfl)) rfl
        | 4, ht =>
          cases ht
          exact so_val rfl rfl ((wanted_if rfl rfl rfl (show tG a 22 <| .bool false from hd 2 22 rfl (by kernel_rfl))).trans rfl) (rn_bool (rn_gtr rfl (show tG a 23 <| .int .i64 (cmpR q0 q1) from hd 3 23 rfl (by kernel_rfl)) rfl) (show (decide (1 < cmpR q0 q1)) = false from (decide_eq_false (by have := cmpR_range q0 q1; omega)))) rfl
        | 5, ht =>
          cases ht
          exact so_val rfl rfl (wanted_free rfl) (rn_pick false rfl (show tG a 22 <| .bool false from hd 2 22 rfl (by kernel_rfl)) (show tG a 24 <| .bool false from hd 4 24 rfl (by kernel_rfl))) rfl
        | 6, ht =>
          cases ht
          exact so_val rfl rfl (wanted_free rfl) (rn_move rfl (show tG a 25 <| .bool false from hd 5 25 rfl (by kernel_rfl))) rfl
        | 7, ht =>
          cases ht
          exact so_val rfl rfl ((wanted_if rfl rfl rfl (show tG a 26 <| .bool false from hd 6 26 rfl (by kernel_rfl))).trans rfl) (rn_load rfl (S.at 2 rfl) (S.bx 1 rfl) Tryz.underlying27 rfl (vs := (aL b1_ x1_ y1_)) sz_Rat rfl) rfl
        | 8, ht =>
          cases ht
          exact so_val rfl rfl ((wanted_if rfl rfl rfl (show tG a 26 <| .bool false from hd 6 26 rfl (by kernel_rfl))).trans rfl) (rn_load rfl (S.at 3 rfl) (S.bx 0 rfl) Tryz.underlying27 rfl (vs := (aL b0_ x0_ y0_)) sz_Rat rfl) rfl
        | 9, ht =>
          cases ht
          exact so_call rfl rfl ((wanted_if rfl rfl rfl (show tG a 26 <| .bool false from hd 6 26 rfl (by kernel_rfl))).trans rfl) (rn_call2 ⟨_, rfl⟩ (show tG a 27 <| (aG b1_ x1_ y1_) from hd 7 27 rfl (by kernel_rfl)) (show tG a 28 <| (aG b0_ x0_ y0_) from hd 8 28 rfl (by kernel_rfl)) (enters_of Tryz.func17 (by kernel_rfl) rfl)) (p7Cmp (T.keep S.below) (show Q1 40 (q1) ((aG b1_ x1_ y1_)) _ from ⟨b1_, x1_, y1_, rfl, hqa1, hkx1, hky1, (S.num 2 rfl), (S.num 3 rfl)⟩) (show Q1 40 (q0) ((aG b0_ x0_ y0_)) _ from ⟨b0_, x0_, y0_, rfl, hqa0, hkx0, hky0, (S.num 4 rfl), (S.num 5 rfl)⟩) (by omega) (by omega))
        | 10, ht =>
          cases ht
          exact so_val rfl rfl ((wanted_if rfl rfl rfl (show tG a 26 <| .bool false from hd 6 26 rfl (by kernel_rfl))).trans rfl) (rn_move rfl (S.at 0 rfl)) rfl
        | 11, ht =>
          cases ht
          exact so_val rfl rfl ((wanted_if rfl rfl rfl (show tG a 26 <| .bool false from hd 6 26 rfl (by kernel_rfl))).trans rfl) (rn_neg rfl (show tG a 30 <| .int .i64 (cmpR q0 q1) from hd 10 30 rfl (by kernel_rfl)) (inr_neg _ _)) rfl
        | 12, ht =>
          cases ht
          exact so_val rfl rfl ((wanted_if rfl rfl rfl (show tG a 26 <| .bool false from hd 6 26 rfl (by kernel_rfl))).trans rfl) (rn_bool (rn_neq _ (by decide) rfl (show tG a 29 <| .int .i64 (cmpR q1 q0) from hd 9 29 rfl (by kernel_rfl)) (show tG a 31 <| .int .i64 (-(cmpR q0 q1)) from hd 11 31 rfl (by kernel_rfl))) (show (!decide (cmpR q1 q0 = -(cmpR q0 q1))) = false from (by rw [cmpR_neg q0 q1]; simp))) rfl
        | 13, ht =>
          cases ht
          exact so_val rfl rfl (wanted_free rfl) (rn_pick false rfl (show tG a 26 <| .bool false from hd 6 26 rfl (by kernel_rfl)) (show tG a 32 <| .bool false from hd 12 32 rfl (by kernel_rfl))) rfl
        | 14, ht =>
          cases ht
          exact so_val rfl rfl (wanted_free rfl) (rn_move rfl (show tG a 33 <| .bool false from hd 13 33 rfl (by kernel_rfl))) rfl
        | 15, ht =>
          cases ht
          exact so_val rfl rfl ((wanted_if rfl rfl rfl (show tG a 34 <| .bool false from hd 14 34 rfl (by kernel_rfl))).trans rfl) (rn_move rfl (S.at 0 rfl)) rfl
        | 16, ht =>
          cases ht
          exact so_val rfl rfl ((wanted_if rfl rfl rfl (show tG a 34 <| .bool false from hd 14 34 rfl (by kernel_rfl))).trans rfl) (rn_bool (rn_leq rfl (show tG a 35 <| .int .i64 (cmpR q0 q1) from hd 15 35 rfl (by kernel_rfl)) rfl) (show (decide (cmpR q0 q1 ≤ 0)) = false from hs1)) rfl
        | 17, ht =>
          cases ht
          exact so_val rfl rfl ((wanted_if rfl rfl rfl (show tG a 34 <| .bool false from hd 14 34 rfl (by kernel_rfl))).trans rfl) (rn_move rfl (show tG a 36 <| .bool false from hd 16 36 rfl (by kernel_rfl))) rfl
        | 18, ht =>
          cases ht
          exact so_skip rfl rfl ((wanted_if rfl rfl rfl (show tG a 37 <| .bool false from hd 17 37 rfl (by kernel_rfl))).trans rfl) rfl
        | 19, ht =>
          cases ht
          exact so_skip rfl rfl ((wanted_if rfl rfl rfl (show tG a 37 <| .bool false from hd 17 37 rfl (by kernel_rfl))).trans rfl) rfl
        | 20, ht =>
          cases ht
          exact so_skip rfl rfl ((wanted_if rfl rfl rfl (show tG a 37 <| .bool false from hd 17 37 rfl (by kernel_rfl))).trans rfl) rfl
        | 21, ht =>
          cases ht
          exact so_skip rfl rfl ((wanted_if rfl rfl rfl (show tG a 37 <| .bool false from hd 17 37 rfl (by kernel_rfl))).trans rfl) rfl
        | 22, ht =>
          cases ht
          exact so_val rfl rfl ((wanted_if rfl rfl rfl (show tG a 34 <| .bool false from hd 14 34 rfl (by kernel_rfl))).trans rfl) (rn_pick false rfl (show tG a 37 <| .bool false from hd 17 37 rfl (by kernel_rfl)) rfl) rfl
        | 23, ht =>
          cases ht
          exact so_val rfl rfl ((wanted_if rfl rfl rfl (show tG a 34 <| .bool false from hd 14 34 rfl (by kernel_rfl))).trans rfl) (rn_move rfl (show tG a 42 <| .bool false from hd 22 42 rfl (by kernel_rfl))) rfl
        | 24, ht =>
          cases ht
          exact so_skip rfl rfl ((wanted_if rfl rfl rfl (show tG a 43 <| .bool false from hd 23 43 rfl (by kernel_rfl))).trans rfl) rfl
        | 25, ht =>
          cases ht
          exact so_skip rfl rfl ((wanted_if rfl rfl rfl (show tG a 43 <| .bool false from hd 23 43 rfl (by kernel_rfl))).trans rfl) rfl
        | 26, ht =>
          cases ht
          exact so_skip rfl rfl ((wanted_if rfl rfl rfl (show tG a 43 <| .bool false from hd 23 43 rfl (by kernel_rfl))).trans rfl) rfl
        | 27, ht =>
          cases ht
          exact so_skip rfl rfl ((wanted_if rfl rfl rfl (show tG a 43 <| .bool false from hd 23 43 rfl (by kernel_rfl))).trans rfl) rfl
        | 28, ht =>
          cases ht
          exact so_val rfl rfl ((wanted_if rfl rfl rfl (show tG a 34 <| .bool false from hd 14 34 rfl (by kernel_rfl))).trans rfl) (rn_pick false rfl (show tG a 43 <| .bool false from hd 23 43 rfl (by kernel_rfl)) rfl) rfl
        | 29, ht =>
          cases ht
          exact so_val rfl rfl (wanted_free rfl) (rn_pick false rfl (show tG a 34 <| .bool false from hd 14 34 rfl (by kernel_rfl)) (show tG a 48 <| .bool false from hd 28 48 rfl (by kernel_rfl))) rfl
        | 30, ht =>
          cases ht
          exact so_val rfl rfl (wanted_free rfl) (rn_move rfl (show tG a 49 <| .bool false from hd 29 49 rfl (by kernel_rfl))) rfl
        | 31, ht =>
          cases ht
          exact so_val rfl rfl ((wanted_if rfl rfl rfl (show tG a 50 <| .bool false from hd 30 50 rfl (by kernel_rfl))).trans rfl) (rn_load rfl (S.at 3 rfl) (S.bx 0 rfl) Tryz.underlying27 rfl (vs := (aL b0_ x0_ y0_)) sz_Rat rfl) rfl
        | 32, ht =>
          cases ht
          exact so_val rfl rfl ((wanted_if rfl rfl rfl (show tG a 50 <| .bool false from hd 30 50 rfl (by kernel_rfl))).trans rfl) (rn_load rfl (S.at 2 rfl) (S.bx 1 rfl) Tryz.underlying27 rfl (vs := (aL b1_ x1_ y1_)) sz_Rat rfl) rfl
        | 33, ht =>
          cases ht
          exact so_call rfl rfl ((wanted_if rfl rfl rfl (show tG a 50 <| .bool false from hd 30 50 rfl (by kernel_rfl))).trans rfl) (rn_call2 ⟨_, rfl⟩ (show tG a 51 <| (aG b0_ x0_ y0_) from hd 31 51 rfl (by kernel_rfl)) (show tG a 52 <| (aG b1_ x1_ y1_) from hd 32 52 rfl (by kernel_rfl)) (enters_of Tryz.func19 (by kernel_rfl) rfl)) (p7Same (T.keep S.below) (show Q1 40 (q0) ((aG b0_ x0_ y0_)) _ from ⟨b0_, x0_, y0_, rfl, hqa0, hkx0, hky0, (S.num 4 rfl), (S.num 5 rfl)⟩) (show Q1 40 (q1) ((aG b1_ x1_ y1_)) _ from ⟨b1_, x1_, y1_, rfl, hqa1, hkx1, hky1, (S.num 2 rfl), (S.num 3 rfl)⟩) (by omega) (by omega))
        | 34, ht =>
          cases ht
          exact so_val rfl rfl ((wanted_if rfl rfl rfl (show tG a 50 <| .bool false from hd 30 50 rfl (by kernel_rfl))).trans rfl) (rn_move rfl (S.at 0 rfl)) rfl
        | 35, ht =>
          cases ht
          exact so_val rfl rfl ((wanted_if rfl rfl rfl (show tG a 50 <| .bool false from hd 30 50 rfl (by kernel_rfl))).trans rfl) (rn_eql _ (by decide) rfl (show tG a 54 <| .int .i64 (cmpR q0 q1) from hd 34 54 rfl (by kernel_rfl)) rfl) rfl
        | 36, ht =>
          cases ht
          exact so_val rfl rfl ((wanted_if rfl rfl rfl (show tG a 50 <| .bool false from hd 30 50 rfl (by kernel_rfl))).trans rfl) (rn_bool (rn_neqb rfl (show tG a 53 <| .bool (decide (cmpR q0 q1 = 0)) from hd 33 53 rfl (by kernel_rfl)) (show tG a 55 <| .bool (decide (cmpR q0 q1 = 0)) from hd 35 55 rfl (by kernel_rfl))) (show ((decide (cmpR q0 q1 = 0)) != (decide (cmpR q0 q1 = 0))) = false from (by simp))) rfl
        | 37, ht =>
          cases ht
          exact so_val rfl rfl (wanted_free rfl) (rn_pick false rfl (show tG a 50 <| .bool false from hd 30 50 rfl (by kernel_rfl)) (show tG a 56 <| .bool false from hd 36 56 rfl (by kernel_rfl))) rfl
        | 38, ht =>
          cases ht
          exact so_val rfl rfl (wanted_free rfl) (rn_move rfl (show tG a 57 <| .bool false from hd 37 57 rfl (by kernel_rfl))) rfl
        | 39, ht =>
          cases ht
          exact so_val rfl rfl ((wanted_if rfl rfl rfl (show tG a 58 <| .bool false from hd 38 58 rfl (by kernel_rfl))).trans rfl) (rn_load rfl (S.at 3 rfl) (S.bx 0 rfl) Tryz.underlying27 rfl (vs := (aL b0_ x0_ y0_)) sz_Rat rfl) rfl
        | 40, ht =>
          cases ht
          exact so_val rfl rfl ((wanted_if rfl rfl rfl (show tG a 58 <| .bool false from hd 38 58 rfl (by kernel_rfl))).trans rfl) (rn_load rfl (S.at 1 rfl) (S.bx 2 rfl) Tryz.underlying27 rfl (vs := (aL b2_ x2_ y2_)) sz_Rat rfl) rfl
        | 41, ht =>
          cases ht
          exact so_lays rfl rfl ((wanted_if rfl rfl rfl (show tG a 58 <| .bool false from hd 38 58 rfl (by kernel_rfl))).trans rfl) (ly_qrow2 rfl (show tG a 59 <| (aG b0_ x0_ y0_) from hd 39 59 rfl (by kernel_rfl)) (show tG a 60 <| (aG b2_ x2_ y2_) from hd 40 60 rfl (by kernel_rfl)) (show Q1 40 (q0) ((aG b0_ x0_ y0_)) _ from ⟨b0_, x0_, y0_, rfl, hqa0, hkx0, hky0, (S.num 4 rfl), (S.num 5 rfl)⟩) (show Q1 40 (q2) ((aG b2_ x2_ y2_)) _ from ⟨b2_, x2_, y2_, rfl, hqa2, hkx2, hky2, (S.num 0 rfl), (S.num 1 rfl)⟩))
        | 42, ht =>
          cases ht
          exact so_call rfl rfl ((wanted_if rfl rfl rfl (show tG a 58 <| .bool false from hd 38 58 rfl (by kernel_rfl))).trans rfl) (rn_call1 ⟨_, rfl⟩ rfl (enters_of Tryz.func27 (by kernel_rfl) rfl)) (AM.add2 (T.keep S.below) S.below ((show QL 40 6 ([q0, q2]) (a.tmps.getD 61 undef) V from hd 41 61 rfl (by kernel_rfl))).row (by omega))
        | 43, ht =>
          cases ht
          exact so_val rfl rfl ((wanted_if rfl rfl rfl (show tG a 58 <| .bool false from hd 38 58 rfl (by kernel_rfl))).trans rfl) (rn_load rfl (S.at 2 rfl) (S.bx 1 rfl) Tryz.underlying27 rfl (vs := (aL b1_ x1_ y1_)) sz_Rat rfl) rfl
        | 44, ht =>
          cases ht
          exact so_val rfl rfl ((wanted_if rfl rfl rfl (show tG a 58 <| .bool false from hd 38 58 rfl (by kernel_rfl))).trans rfl) (rn_load rfl (S.at 1 rfl) (S.bx 2 rfl) Tryz.underlying27 rfl (vs := (aL b2_ x2_ y2_)) sz_Rat rfl) rfl
        | 45, ht =>
          cases ht
          exact so_lays rfl rfl ((wanted_if rfl rfl rfl (show tG a 58 <| .bool false from hd 38 58 rfl (by kernel_rfl))).trans rfl) (ly_qrow2 rfl (show tG a 63 <| (aG b1_ x1_ y1_) from hd 43 63 rfl (by kernel_rfl)) (show tG a 64 <| (aG b2_ x2_ y2_) from hd 44 64 rfl (by kernel_rfl)) (show Q1 40 (q1) ((aG b1_ x1_ y1_)) _ from ⟨b1_, x1_, y1_, rfl, hqa1, hkx1, hky1, (S.num 2 rfl), (S.num 3 rfl)⟩) (show Q1 40 (q2) ((aG b2_ x2_ y2_)) _ from ⟨b2_, x2_, y2_, rfl, hqa2, hkx2, hky2, (S.num 0 rfl), (S.num 1 rfl)⟩))
        | 46, ht =>
          cases ht
          exact so_call rfl rfl ((wanted_if rfl rfl rfl (show tG a 58 <| .bool false from hd 38 58 rfl (by kernel_rfl))).trans rfl) (rn_call1 ⟨_, rfl⟩ rfl (enters_of Tryz.func27 (by kernel_rfl) rfl)) (AM.add2 (T.keep S.below) S.below ((show QL 40 6 ([q1, q2]) (a.tmps.getD 65 undef) V from hd 45 65 rfl (by kernel_rfl))).row (by omega))
        | 47, ht =>
          cases ht
          exact so_call rfl rfl ((wanted_if rfl rfl rfl (show tG a 58 <| .bool false from hd 38 58 rfl (by kernel_rfl))).trans rfl) (rn_call2 ⟨_, rfl⟩ rfl rfl (enters_of Tryz.func17 (by kernel_rfl) rfl)) (p7Cmp (T.keep S.below) ((show QT 81 (q0 + q2) (a.tmps.getD 62 undef) V from hd 42 62 rfl (by kernel_rfl))).any ((show QT 81 (q1 + q2) (a.tmps.getD 66 undef) V from hd 46 66 rfl (by kernel_rfl))).any (by omega) (by omega))
        | 48, ht =>
          cases ht
          exact so_val rfl rfl ((wanted_if rfl rfl rfl (show tG a 58 <| .bool false from hd 38 58 rfl (by kernel_rfl))).trans rfl) (rn_move rfl (S.at 0 rfl)) rfl
        | 49, ht =>
          cases ht
          exact so_val rfl rfl ((wanted_if rfl rfl rfl (show tG a 58 <| .bool false from hd 38 58 rfl (by kernel_rfl))).trans rfl) (rn_bool (rn_neq _ (by decide) rfl (show tG a 67 <| .int .i64 (cmpR (q0 + q2) (q1 + q2)) from hd 47 67 rfl (by kernel_rfl)) (show tG a 68 <| .int .i64 (cmpR q0 q1) from hd 48 68 rfl (by kernel_rfl))) (show (!decide (cmpR (q0 + q2) (q1 + q2) = cmpR q0 q1)) = false from (by rw [cmpR_add]; simp))) rfl
        | 50, ht =>
          cases ht
          exact so_val rfl rfl (wanted_free rfl) (rn_pick false rfl (show tG a 58 <| .bool false from hd 38 58 rfl (by kernel_rfl)) (show tG a 69 <| .bool false from hd 49 69 rfl (by kernel_rfl))) rfl
        | k + 51, ht => simp at ht
      · intro a10 V43 S hB hf
        have S := S.add (show a10.tmps.getD 70 undef = .bool false from hf 50 70 rfl)
        clear hf S0
        show wpList _ _ _ [] _ _
        refine hK6 _ _ ?_
        refine wp_cond_false (S.at 0 rfl) ?_
        refine wp_skip ?_
        refine hK5 _ _ ?_
        refine wp_seq_k fun K25 hK25 => ?_
        have S := S.keep [7, 5, 4, 3] (ls' := [(7, .int .i64 (cmpR q0 q1)), (5, pT g3 0), (4, pT g2 0), (3, pT g1 0)]) rfl
        refine frm_plain ?_
        refine tl_val S (v := (aG b0_ x0_ y0_)) (rn_load rfl (S.at 3 rfl) (S.bx 0 rfl) Tryz.underlying27 rfl (vs := (aL b0_ x0_ y0_)) sz_Rat rfl) rfl rfl (by decide) (ls' := [(7, .int .i64 (cmpR q0 q1)), (5, pT g3 0), (4, pT g2 0), (3, pT g1 0)]) rfl (fun a S => ?_)
        refine tl_val S (v := (aG b1_ x1_ y1_)) (rn_load rfl (S.at 3 rfl) (S.bx 1 rfl) Tryz.underlying27 rfl (vs := (aL b1_ x1_ y1_)) sz_Rat rfl) rfl rfl (by decide) (ls' := [(71, (aG b0_ x0_ y0_)), (7, .int .i64 (cmpR q0 q1)), (5, pT g3 0), (4, pT g2 0), (3, pT g1 0)]) rfl (fun a S => ?_)
        refine tl_call S (rn_call2 ⟨_, rfl⟩ (S.at 1 rfl) (S.at 0 rfl) (enters_of Tryz.func35 (by kernel_rfl) rfl)) (F := QT 82 ((q0 + q1) / 2)) (p7Mid (T.keep S.below) (show Q1 40 (q0) ((aG b0_ x0_ y0_)) _ from ⟨b0_, x0_, y0_, rfl, hqa0, hkx0, hky0, (S.num 4 rfl), (S.num 5 rfl)⟩) (show Q1 40 (q1) ((aG b1_ x1_ y1_)) _ from ⟨b1_, x1_, y1_, rfl, hqa1, hkx1, hky1, (S.num 2 rfl), (S.num 3 rfl)⟩) (by omega) (by omega)) rfl rfl (by decide) (ls' := [(72, (aG b1_ x1_ y1_)), (71, (aG b0_ x0_ y0_)), (7, .int .i64 (cmpR q0 q1)), (5, pT g3 0), (4, pT g2 0), (3, pT g1 0)]) rfl (fun v a V44 hF hb S => ?_)
        obtain ⟨b7, x10, y4, rfl, hq4, hk13, hk14, ok13, ok14⟩ := hF
        have S := S.know ok13
        have S := S.know ok14
        refine tl_box S (T := 27) (cs := [.bool false, .slice none 0 0, .slice none 0 0]) (rn_alloc rfl (Tryz.zeroValue27 _) rfl) rfl rfl rfl (by decide) (ls' := [(73, (aG b7 x10 y4)), (72, (aG b1_ x1_ y1_)), (71, (aG b0_ x0_ y0_)), (7, .int .i64 (cmpR q0 q1)), (5, pT g3 0), (4, pT g2 0), (3, pT g1 0)]) rfl (lb' := fun g13 => [⟨g1, 27, (aL b0_ x0_ y0_)⟩, ⟨g2, 27, (aL b1_ x1_ y1_)⟩, ⟨g3, 27, (aL b2_ x2_ y2_)⟩, ⟨g13, 27, [.bool false, .slice none 0 0, .slice none 0 0]⟩]) (fun _ => rfl) (fun g13 a V45 hgg13 S => ?_)
        refine tl_store S (i := 3) (vs := (aL b7 x10 y4)) rfl (fun ht => rn_store rfl (S.at 0 rfl) (S.at 1 rfl) sz_Rat rfl (Nat.le_of_ble_eq_true rfl) ht) (Nat.le_of_ble_eq_true rfl) rfl rfl rfl (lb' := [⟨g1, 27, (aL b0_ x0_ y0_)⟩, ⟨g2, 27, (aL b1_ x1_ y1_)⟩, ⟨g3, 27, (aL b2_ x2_ y2_)⟩, ⟨g13, 27, (aL b7 x10 y4)⟩]) rfl (fun V46 S => ?_)
        refine hK25 _ _ ?_
        refine wp_seq_k fun K26 hK26 => ?_
        refine wp_seq_k fun K27 hK27 => ?_
        have S := S.keep [8, 7, 5, 4, 3] (ls' := [(8, pT g13 0), (7, .int .i64 (cmpR q0 q1)), (5, pT g3 0), (4, pT g2 0), (3, pT g1 0)]) rfl
        obtain ⟨W11, hW11⟩ : ∃ W, W = V46 := ⟨_, rfl⟩
        rw [← hW11] at S ⊢
        have S0 := S
        refine frm_region 28 [74, 75, 76, 77, 78, 79, 80, 81, 82, 83, 84, 85, 86, 87, 88, 89, 90, 91, 92, 93, 94, 95, 96, 97, 98, 99, 100, 101] (fun i v V => match i with
            | 0 => v = (aG b0_ x0_ y0_)
            | 1 => v = (aG b7 x10 y4)
            | 2 => v = .int .i64 (cmpR q0 ((q0 + q1) / 2))
            | 3 => v = .int .i64 (cmpR q0 q1)
            | 4 => v = .bool false
            | 5 => v = .bool false
            | 6 => v = (aG b7 x10 y4)
            | 7 => v = (aG b1_ x1_ y1_)
            | 8 => v = .int .i64 (cmpR ((q0 + q1) / 2) q1)
            | 9 => v = .int .i64 (cmpR q0 q1)
            | 10 => v = .bool false
            | 11 => v = .bool false
            | 12 => v = .bool false
            | 13 => v = (aG b0_ x0_ y0_)
            | 14 => v = (aG b2_ x2_ y2_)
            | 15 => QL 40 6 ([q0, q2]) v V
            | 16 => QT 80 (q0 * q2) v V
            | 17 => v = (aG b1_ x1_ y1_)
            | 18 => v = (aG b2_ x2_ y2_)
            | 19 => QL 40 6 ([q1, q2]) v V
            | 20 => QT 80 (q1 * q2) v V
            | 21 => v = .int .i64 (cmpR (q0 * q2) (q1 * q2))
            | 22 => v = .int .i64 (cmpR q0 q1)
            | 23 => v = (aG b2_ x2_ y2_)
            | 24 => v = .int .i64 (cmpR q2 0)
            | 25 => v = .int .i64 ((cmpR q0 q1) * (cmpR q2 0))
            | 26 => v = .bool false
            | _ => v = .bool false) S (by kernel_rfl) (by kernel_rfl) rfl (by decide) rfl rfl ?_ ?_ ?_
        · intro i v V V2 hf hb
          match i, hf with
          | 0, hf => exact hf
          | 1, hf => exact hf
          | 2, hf => exact hf
          | 3, hf => exact hf
          | 4, hf => exact hf
          | 5, hf => exact hf
          | 6, hf => exact hf
          | 7, hf => exact hf
          | 8, hf => exact hf
          | 9, hf => exact hf
          | 10, hf => exact hf
          | 11, hf => exact hf
          | 12, hf => exact hf
          | 13, hf => exact hf
          | 14, hf => exact hf
          | 15, hf => exact QL.keep hf hb
          | 16, hf => exact QT.keep hf hb
          | 17, hf => exact hf
          | 18, hf => exact hf
          | 19, hf => exact QL.keep hf hb
          | 20, hf => exact QT.keep hf hb
          | 21, hf => exact hf
          | 22, hf => exact hf
          | 23, hf => exact hf
          | 24, hf => exact hf
          | 25, hf => exact hf
          | 26, hf => exact hf
          | _ + 27, hf => exact hf
        · intro i t ht a V S hB hd
          match i, ht with
          | 0, ht =>
            cases ht
            exact so_val rfl rfl (wanted_free rfl) (rn_load rfl (S.at 4 rfl) (S.bx 0 rfl) Tryz.underlying27 rfl (vs := (aL b0_ x0_ y0_)) sz_Rat rfl) rfl
          | 1, ht =>
            cases ht
            exact so_val rfl rfl (wanted_free rfl) (rn_load rfl (S.at 0 rfl) (S.bx 3 rfl) Tryz.underlying27 rfl (vs := (aL b7 x10 y4)) sz_Rat rfl) rfl
          | 2, ht =>
            cases ht
            exact so_call rfl rfl (wanted_free rfl) (rn_call2 ⟨_, rfl⟩ (show tG a 74 <| (aG b0_ x0_ y0_) from hd 0 74 rfl (by kernel_rfl)) (show tG a 75 <| (aG b7 x10 y4) from hd 1 75 rfl (by kernel_rfl)) (enters_of Tryz.func17 (by kernel_rfl) rfl)) (p7Cmp (T.keep S.below) (show Q1 40 (q0) ((aG b0_ x0_ y0_)) _ from ⟨b0_, x0_, y0_, rfl, hqa0, hkx0, hky0, (S.num 6 rfl), (S.num 7 rfl)⟩) (show QT 82 ((q0 + q1) / 2) ((aG b7 x10 y4)) _ from ⟨b7, x10, y4, rfl, hq4, hk13, hk14, (S.num 1 rfl), (S.num 0 rfl)⟩).any (by omega) (by omega))
          | 3, ht =>
            cases ht
            exact so_val rfl rfl (wanted_free rfl) (rn_move rfl (S.at 1 rfl)) rfl
          | 4, ht =>
            cases ht
            exact so_val rfl rfl (wanted_free rfl) (rn_bool (rn_neq _ (by decide) rfl (show tG a 76 <| .int .i64 (cmpR q0 ((q0 + q1) / 2)) from hd 2 76 rfl (by kernel_rfl)) (show tG a 77 <| .int .i64 (cmpR q0 q1) from hd 3 77 rfl (by kernel_rfl))) (show (!decide (cmpR q0 ((q0 + q1) / 2) = cmpR q0 q1)) = false from (by rw [(cmpR_mid q0 q1).1]; simp))) rfl
          | 5, ht =>
            cases ht
            exact so_val rfl rfl (wanted_free rfl) (rn_move rfl (show tG a 78 <| .bool false from hd 4 78 rfl (by kernel_rfl))) rfl
          | 6, ht =>
            cases ht
            exact so_val rfl rfl ((wanted_if rfl rfl rfl (show tG a 79 <| .bool false from hd 5 79 rfl (by kernel_rfl))).trans rfl) (rn_load rfl (S.at 0 rfl) (S.bx 3 rfl) Tryz.underlying27 rfl (vs := (aL b7 x10 y4)) sz_Rat rfl) rfl
          | 7, ht =>
            cases ht
            exact so_val rfl rfl ((wanted_if rfl rfl rfl (show tG a 79 <| .bool false from hd 5 79 rfl (by kernel_rfl))).trans rfl) (rn_load rfl (S.at 3 rfl) (S.bx 1 rfl) Tryz.underlying27 rfl (vs := (aL b1_ x1_ y1_)) sz_Rat rfl) rfl
          | 8, ht =>
            cases ht
            exact so_call rfl rfl ((wanted_if rfl rfl rfl (show tG a 79 <| .bool false from hd 5 79 rfl (by kernel_rfl))).trans rfl) (rn_call2 ⟨_, rfl⟩ (show tG a 80 <| (aG b7 x10 y4) from hd 6 80 rfl (by kernel_rfl)) (show tG a 81 <| (aG b1_ x1_ y1_) from hd 7 81 rfl (by kernel_rfl)) (enters_of Tryz.func17 (by kernel_rfl) rfl)) (p7Cmp (T.keep S.below) (show QT 82 ((q0 + q1) / 2) ((aG b7 x10 y4)) _ from ⟨b7, x10, y4, rfl, hq4, hk13, hk14, (S.num 1 rfl), (S.num 0 rfl)⟩).any (show Q1 40 (q1) ((aG b1_ x1_ y1_)) _ from ⟨b1_, x1_, y1_, rfl, hqa1, hkx1, hky1, (S.num 4 rfl), (S.num 5 rfl)⟩) (by omega) (by omega))
          | 9, ht =>
            cases ht
            exact so_val rfl rfl ((wanted_if rfl rfl rfl (show tG a 79 <| .bool false from hd 5 79 rfl (by kernel_rfl))).trans rfl) (rn_move rfl (S.at 1 rfl)) rfl
          | 10, ht =>
            cases ht
            exact so_val rfl rfl ((wanted_if rfl rfl rfl (show tG a 79 <| .bool false from hd 5 79 rfl (by kernel_rfl))).trans rfl) (rn_bool (rn_neq _ (by decide) rfl (show tG a 82 <| .int .i64 (cmpR ((q0 + q1) / 2) q1) from hd 8 82 rfl (by kernel_rfl)) (show tG a 83 <| .int .i64 (cmpR q0 q1) from hd 9 83 rfl (by kernel_rfl))) (show (!decide (cmpR ((q0 + q1) / 2) q1 = cmpR q0 q1)) = false from (by rw [(cmpR_mid q0 q1).2]; simp))) rfl
          | 11, ht =>
            cases ht
            exact so_val rfl rfl (wanted_free rfl) (rn_pick false rfl (show tG a 79 <| .bool false from hd 5 79 rfl (by kernel_rfl)) (show tG a 84 <| .bool false from hd 10 84 rfl (by kernel_rfl))) rfl
          | 12, ht =>
            cases ht
            exact so_val rfl rfl (wanted_free rfl) (rn_move rfl (show tG a 85 <| .bool false from hd 11 85 rfl (by kernel_rfl))) rfl
          | 13, ht =>
            cases ht
            exact so_val rfl rfl ((wanted_if rfl rfl rfl (show tG a 86 <| .bool false from hd 12 86 rfl (by kernel_rfl))).trans rfl) (rn_load rfl (S.at 4 rfl) (S.bx 0 rfl) Tryz.underlying27 rfl (vs := (aL b0_ x0_ y0_)) sz_Rat rfl) rfl
          | 14, ht =>
            cases ht
            exact so_val rfl rfl ((wanted_if rfl rfl rfl (show tG a 86 <| .bool false from hd 12 86 rfl (by kernel_rfl))).trans rfl) (rn_load rfl (S.at 2 rfl) (S.bx 2 rfl) Tryz.underlying27 rfl (vs := (aL b2_ x2_ y2_)) sz_Rat rfl) rfl
          | 15, ht =>
            cases ht
            exact so_lays rfl rfl ((wanted_if rfl rfl rfl (show tG a 86 <| .bool false from hd 12 86 rfl (by kernel_rfl))).trans rfl) (ly_qrow2 rfl (show tG a 87 <| (aG b0_ x0_ y0_) from hd 13 87 rfl (by kernel_rfl)) (show tG a 88 <| (aG b2_ x2_ y2_) from hd 14 88 rfl (by kernel_rfl)) (show Q1 40 (q0) ((aG b0_ x0_ y0_)) _ from ⟨b0_, x0_, y0_, rfl, hqa0, hkx0, hky0, (S.num 6 rfl), (S.num 7 rfl)⟩) (show Q1 40 (q2) ((aG b2_ x2_ y2_)) _ from ⟨b2_, x2_, y2_, rfl, hqa2, hkx2, hky2, (S.num 2 rfl), (S.num 3 rfl)⟩))
          | 16, ht =>
            cases ht
            exact so_call rfl rfl ((wanted_if rfl rfl rfl (show tG a 86 <| .bool false from hd 12 86 rfl (by kernel_rfl))).trans rfl) (rn_call1 ⟨_, rfl⟩ rfl (enters_of Tryz.func29 (by kernel_rfl) rfl)) (AM.mul2 (T.keep S.below) S.below ((show QL 40 6 ([q0, q2]) (a.tmps.getD 89 undef) V from hd 15 89 rfl (by kernel_rfl))).row (by omega))
          | 17, ht =>
            cases ht
            exact so_val rfl rfl ((wanted_if rfl rfl rfl (show tG a 86 <| .bool false from hd 12 86 rfl (by kernel_rfl))).trans rfl) (rn_load rfl (S.at 3 rfl) (S.bx 1 rfl) Tryz.underlying27 rfl (vs := (aL b1_ x1_ y1_)) sz_Rat rfl) rfl
          | 18, ht =>
            cases ht
            exact so_val rfl rfl ((wanted_if rfl rfl rfl (show tG a 86 <| .bool false from hd 12 86 rfl (by kernel_rfl))).trans rfl) (rn_load rfl (S.at 2 rfl) (S.bx 2 rfl) Tryz.underlying27 rfl (vs := (aL b2_ x2_ y2_)) sz_Rat rfl) rfl
          | 19, ht =>
            cases ht
            exact so_lays rfl rfl ((wanted_if rfl rfl rfl (show tG a 86 <| .bool false from hd 12 86 rfl (by kernel_rfl))).trans rfl) (ly_qrow2 rfl (show tG a 91 <| (aG b1_ x1_ y1_) from hd 17 91 rfl (by kernel_rfl)) (show tG a 92 <| (aG b2_ x2_ y2_) from hd 18 92 rfl (by kernel_rfl)) (show Q1 40 (q1) ((aG b1_ x1_ y1_)) _ from ⟨b1_, x1_, y1_, rfl, hqa1, hkx1, hky1, (S.num 4 rfl), (S.num 5 rfl)⟩) (show Q1 40 (q2) ((aG b2_ x2_ y2_)) _ from ⟨b2_, x2_, y2_, rfl, hqa2, hkx2, hky2, (S.num 2 rfl), (S.num 3 rfl)⟩))
          | 20, ht =>
            cases ht
            exact so_call rfl rfl ((wanted_if rfl rfl rfl (show tG a 86 <| .bool false from hd 12 86 rfl (by kernel_rfl))).trans rfl) (rn_call1 ⟨_, rfl⟩ rfl (enters_of Tryz.func29 (by kernel_rfl) rfl)) (AM.mul2 (T.keep S.below) S.below ((show QL 40 6 ([q1, q2]) (a.tmps.getD 93 undef) V from hd 19 93 rfl (by kernel_rfl))).row (by omega))
          | 21, ht =>
            cases ht
            exact so_call rfl rfl ((wanted_if rfl rfl rfl (show tG a 86 <| .bool false from hd 12 86 rfl (by kernel_rfl))).trans rfl) (rn_call2 ⟨_, rfl⟩ rfl rfl (enters_of Tryz.func17 (by kernel_rfl) rfl)) (p7Cmp (T.keep S.below) ((show QT 80 (q0 * q2) (a.tmps.getD 90 undef) V from hd 16 90 rfl (by kernel_rfl))).any ((show QT 80 (q1 * q2) (a.tmps.getD 94 undef) V from hd 20 94 rfl (by kernel_rfl))).any (by omega) (by omega))
          | 22, ht =>
            cases ht
            exact so_val rfl rfl ((wanted_if rfl rfl rfl (show tG a 86 <| .bool false from hd 12 86 rfl (by kernel_rfl))).trans rfl) (rn_move rfl (S.at 1 rfl)) rfl
          | 23, ht =>
            cases ht
            exact so_val rfl rfl ((wanted_if rfl rfl rfl (show tG a 86 <| .bool false from hd 12 86 rfl (by kernel_rfl))).trans rfl) (rn_load rfl (S.at 2 rfl) (S.bx 2 rfl) Tryz.underlying27 rfl (vs := (aL b2_ x2_ y2_)) sz_Rat rfl) rfl
          | 24, ht =>
            cases ht
            exact so_call rfl rfl ((wanted_if rfl rfl rfl (show tG a 86 <| .bool false from hd 12 86 rfl (by kernel_rfl))).trans rfl) (rn_call1 ⟨_, rfl⟩ (show tG a 97 <| (aG b2_ x2_ y2_) from hd 23 97 rfl (by kernel_rfl)) (enters_of Tryz.func15 (by kernel_rfl) rfl)) (p7Sign (T.keep S.below) (show Q1 40 (q2) ((aG b2_ x2_ y2_)) _ from ⟨b2_, x2_, y2_, rfl, hqa2, hkx2, hky2, (S.num 2 rfl), (S.num 3 rfl)⟩) (by omega))
          | 25, ht =>
            cases ht
            exact so_val rfl rfl ((wanted_if rfl rfl rfl (show tG a 86 <| .bool false from hd 12 86 rfl (by kernel_rfl))).trans rfl) (rn_mul rfl (show tG a 96 <| .int .i64 (cmpR q0 q1) from hd 22 96 rfl (by kernel_rfl)) (show tG a 98 <| .int .i64 (cmpR q2 0) from hd 24 98 rfl (by kernel_rfl)) (inr_cc _ _ _ _)) rfl
          | 26, ht =>
            cases ht
            exact so_val rfl rfl ((wanted_if rfl rfl rfl (show tG a 86 <| .bool false from hd 12 86 rfl (by kernel_rfl))).trans rfl) (rn_bool (rn_neq _ (by decide) rfl (show tG a 95 <| .int .i64 (cmpR (q0 * q2) (q1 * q2)) from hd 21 95 rfl (by kernel_rfl)) (show tG a 99 <| .int .i64 ((cmpR q0 q1) * (cmpR q2 0)) from hd 25 99 rfl (by kernel_rfl))) (show (!decide (cmpR (q0 * q2) (q1 * q2) = (cmpR q0 q1) * (cmpR q2 0))) = false from (by rw [cmpR_mul, signR]; simp))) rfl
          | 27, ht =>
            cases ht
            exact so_val rfl rfl (wanted_free rfl) (rn_pick false rfl (show tG a 86 <| .bool false from hd 12 86 rfl (by kernel_rfl)) (show tG a 100 <| .bool false from hd 26 100 rfl (by kernel_rfl))) rfl
          | k + 28, ht => simp at ht
        · intro a11 V47 S hB hf
          have S := S.add (show a11.tmps.getD 101 undef = .bool false from hf 27 101 rfl)
          clear hf S0
          show wpList _ _ _ [] _ _
          refine hK27 _ _ ?_
          refine wp_cond_false (S.at 0 rfl) ?_
          refine wp_skip ?_
          refine hK26 _ _ ?_
          refine wp_seq_k fun K28 hK28 => ?_
          have S := S.keep [3] (ls' := [(3, pT g1 0)]) rfl
          refine frm_plain ?_
          refine tl_val S (v := (aG b0_ x0_ y0_)) (rn_load rfl (S.at 0 rfl) (S.bx 0 rfl) Tryz.underlying27 rfl (vs := (aL b0_ x0_ y0_)) sz_Rat rfl) rfl rfl (by decide) (ls' := [(3, pT g1 0)]) rfl (fun a S => ?_)
          refine tl_call S (rn_call1 ⟨_, rfl⟩ (S.at 0 rfl) (enters_of Tryz.func38 (by kernel_rfl) rfl)) (F := ZT 41 (Rat.floor q0)) (p7Floor (T.keep S.below) (show Q1 40 (q0) ((aG b0_ x0_ y0_)) _ from ⟨b0_, x0_, y0_, rfl, hqa0, hkx0, hky0, (S.num 6 rfl), (S.num 7 rfl)⟩) (by omega)) rfl rfl (by decide) (ls' := [(102, (aG b0_ x0_ y0_)), (3, pT g1 0)]) rfl (fun v a V48 hF hb S => ?_)
          obtain ⟨b8, x11, rfl, hz4, hk15, ok15⟩ := hF
          have S := S.know ok15
          refine tl_box S (T := 25) (cs := [.bool false, .slice none 0 0]) (rn_alloc rfl (Tryz.zeroValue25 _) rfl) rfl rfl rfl (by decide) (ls' := [(103, (aZ b8 x11)), (102, (aG b0_ x0_ y0_)), (3, pT g1 0)]) rfl (lb' := fun g14 => [⟨g1, 27, (aL b0_ x0_ y0_)⟩, ⟨g2, 27, (aL b1_ x1_ y1_)⟩, ⟨g3, 27, (aL b2_ x2_ y2_)⟩, ⟨g13, 27, (aL b7 x10 y4)⟩, ⟨g14, 25, [.bool false, .slice none 0 0]⟩]) (fun _ => rfl) (fun g14 a V49 hgg14 S => ?_)
          refine tl_store S (i := 4) (vs := [.bool b8, aS x11]) rfl (fun ht => rn_store rfl (S.at 0 rfl) (S.at 1 rfl) sz_Int rfl (Nat.le_of_ble_eq_true rfl) ht) (Nat.le_of_ble_eq_true rfl) rfl rfl rfl (lb' := [⟨g1, 27, (aL b0_ x0_ y0_)⟩, ⟨g2, 27, (aL b1_ x1_ y1_)⟩, ⟨g3, 27, (aL b2_ x2_ y2_)⟩, ⟨g13, 27, (aL b7 x10 y4)⟩, ⟨g14, 25, [.bool b8, aS x11]⟩]) rfl (fun V50 S => ?_)
          refine hK28 _ _ ?_
          refine wp_seq_k fun K29 hK29 => ?_
          have S := S.keep [9, 3] (ls' := [(9, pT g14 0), (3, pT g1 0)]) rfl
          refine frm_plain ?_
          refine tl_val S (v := (aZ b8 x11)) (rn_load rfl (S.at 0 rfl) (S.bx 4 rfl) Tryz.underlying25 rfl (vs := [.bool b8, aS x11]) sz_Int rfl) rfl rfl (by decide) (ls' := [(9, pT g14 0), (3, pT g1 0)]) rfl (fun a S => ?_)
          refine tl_lays S (F := NT 1 ((1 : Nat))) (ly_oneT (c := 1) rfl (by decide) (by decide)) rfl rfl (by decide) (ls' := [(104, (aZ b8 x11)), (9, pT g14 0), (3, pT g1 0)]) rfl (fun v a V51 hF hb S => ?_)
          obtain ⟨x12, rfl, hN4, hn4, hk16, ok16⟩ := hF
          have S := S.know ok16
          refine tl_val S (v := (aG b8 x11 x12)) (rn_build2 rfl (S.at 1 rfl) (S.at 0 rfl) (bd_Rat _ _ _ _ _ _ _)) rfl rfl (by decide) (ls' := [(105, aS x12), (104, (aZ b8 x11)), (9, pT g14 0), (3, pT g1 0)]) rfl (fun a S => ?_)
          refine tl_box S (T := 27) (cs := [.bool false, .slice none 0 0, .slice none 0 0]) (rn_alloc rfl (Tryz.zeroValue27 _) rfl) rfl rfl rfl (by decide) (ls' := [(106, (aG b8 x11 x12)), (105, aS x12), (104, (aZ b8 x11)), (9, pT g14 0), (3, pT g1 0)]) rfl (lb' := fun g15 => [⟨g1, 27, (aL b0_ x0_ y0_)⟩, ⟨g2, 27, (aL b1_ x1_ y1_)⟩, ⟨g3, 27, (aL b2_ x2_ y2_)⟩, ⟨g13, 27, (aL b7 x10 y4)⟩, ⟨g14, 25, [.bool b8, aS x11]⟩, ⟨g15, 27, [.bool false, .slice none 0 0, .slice none 0 0]⟩]) (fun _ => rfl) (fun g15 a V52 hgg15 S => ?_)
          refine tl_store S (i := 5) (vs := (aL b8 x11 x12)) rfl (fun ht => rn_store rfl (S.at 0 rfl) (S.at 1 rfl) sz_Rat rfl (Nat.le_of_ble_eq_true rfl) ht) (Nat.le_of_ble_eq_true rfl) rfl rfl rfl (lb' := [⟨g1, 27, (aL b0_ x0_ y0_)⟩, ⟨g2, 27, (aL b1_ x1_ y1_)⟩, ⟨g3, 27, (aL b2_ x2_ y2_)⟩, ⟨g13, 27, (aL b7 x10 y4)⟩, ⟨g14, 25, [.bool b8, aS x11]⟩, ⟨g15, 27, (aL b8 x11 x12)⟩]) rfl (fun V53 S => ?_)
          refine hK29 _ _ ?_
          refine wp_seq_k fun K30 hK30 => ?_
          have S := S.keep [10, 3] (ls' := [(10, pT g15 0), (3, pT g1 0)]) rfl
          obtain ⟨W12, hW12⟩ : ∃ W, W = V53 := ⟨_, rfl⟩
          rw [← hW12] at S ⊢
          have S0 := S
          refine frm_region 16 [107, 108, 109, 110, 111, 112, 113, 114, 115, 116, 117, 118, 119, 120, 121, 122] (fun i v V => match i with
              | 0 => v = (aG b8 x11 x12)
              | 1 => v = (aG b0_ x0_ y0_)
              | 2 => v = .int .i64 (cmpR ((q0.floor : Int) : Rat) q0)
              | 3 => v = .bool true
              | 4 => v = .bool true
              | 5 => v = (aG b8 x11 x12)
              | 6 => QT 1 ((1 : Rat)) v V
              | 7 => QL 42 6 ([((q0.floor : Int) : Rat), (1 : Rat)]) v V
              | 8 => QT 85 (((q0.floor : Int) : Rat) + (1 : Rat)) v V
              | 9 => v = (aG b0_ x0_ y0_)
              | 10 => v = .int .i64 (cmpR (((q0.floor : Int) : Rat) + (1 : Rat)) q0)
              | 11 => v = .bool true
              | 12 => v = .bool true
              | 13 => v = .bool true
              | 14 => v = .bool true
              | _ => v = .bool true) S (by kernel_rfl) (by kernel_rfl) rfl (by decide) rfl rfl ?_ ?_ ?_
          · intro i v V V2 hf hb
            match i, hf with
            | 0, hf => exact hf
            | 1, hf => exact hf
            | 2, hf => exact hf
            | 3, hf => exact hf
            | 4, hf => exact hf
            | 5, hf => exact hf
            | 6, hf => exact QT.keep hf hb
            | 7, hf => exact QL.keep hf hb
            | 8, hf => exact QT.keep hf hb
            | 9, hf => exact hf
            | 10, hf => exact hf
            | 11, hf => exact hf
            | 12, hf => exact hf
            | 13, hf => exact hf
            | 14, hf => exact hf
            | _ + 15, hf => exact hf
          · intro i t ht a V S hB hd
            match i, ht with
            | 0, ht =>
              cases ht
              exact so_val rfl rfl (wanted_free rfl) (rn_load rfl (S.at 0 rfl) (S.bx 5 rfl) Tryz.underlying27 rfl (vs := (aL b8 x11 x12)) sz_Rat rfl) rfl
            | 1, ht =>
              cases ht
              exact so_val rfl rfl (wanted_free rfl) (rn_load rfl (S.at 1 rfl) (S.bx 0 rfl) Tryz.underlying27 rfl (vs := (aL b0_ x0_ y0_)) sz_Rat rfl) rfl
            | 2, ht =>
              cases ht
              exact so_call rfl rfl (wanted_free rfl) (rn_call2 ⟨_, rfl⟩ (show tG a 107 <| (aG b8 x11 x12) from hd 0 107 rfl (by kernel_rfl)) (show tG a 108 <| (aG b0_ x0_ y0_) from hd 1 108 rfl (by kernel_rfl)) (enters_of Tryz.func17 (by kernel_rfl) rfl)) (p7Cmp (T.keep S.below) (show QT 42 (((q0.floor : Int) : Rat)) ((aG b8 x11 x12)) _ from ⟨b8, x11, x12, rfl, isQ_n hz4 hN4 hn4, Nat.le_trans hk15 (by decide), Nat.le_trans hk16 (by decide), (S.num 1 rfl), (S.num 0 rfl)⟩).any (show Q1 40 (q0) ((aG b0_ x0_ y0_)) _ from ⟨b0_, x0_, y0_, rfl, hqa0, hkx0, hky0, (S.num 8 rfl), (S.num 9 rfl)⟩) (by omega) (by omega))
            | 3, ht =>
              cases ht
              exact so_val rfl rfl (wanted_free rfl) (rn_bool (rn_leq rfl (show tG a 109 <| .int .i64 (cmpR ((q0.floor : Int) : Rat) q0) from hd 2 109 rfl (by kernel_rfl)) rfl) (show (decide (cmpR ((q0.floor : Int) : Rat) q0 ≤ 0)) = true from (decide_eq_true (cmpR_le.2 (Rat.floor_le q0))))) rfl
            | 4, ht =>
              cases ht
              exact so_val rfl rfl (wanted_free rfl) (rn_move rfl (show tG a 110 <| .bool true from hd 3 110 rfl (by kernel_rfl))) rfl
            | 5, ht =>
              cases ht
              exact so_val rfl rfl ((wanted_if rfl rfl rfl (show tG a 111 <| .bool true from hd 4 111 rfl (by kernel_rfl))).trans rfl) (rn_load rfl (S.at 0 rfl) (S.bx 5 rfl) Tryz.underlying27 rfl (vs := (aL b8 x11 x12)) sz_Rat rfl) rfl
            | 6, ht =>
              cases ht
              exact so_call rfl rfl ((wanted_if rfl rfl rfl (show tG a 111 <| .bool true from hd 4 111 rfl (by kernel_rfl))).trans rfl) (rn_callc ⟨_, rfl⟩  (enters_of Tryz.func21 (by kernel_rfl) rfl)) p7Of1
            | 7, ht =>
              cases ht
              exact so_lays rfl rfl ((wanted_if rfl rfl rfl (show tG a 111 <| .bool true from hd 4 111 rfl (by kernel_rfl))).trans rfl) (ly_qrow2 rfl (show tG a 112 <| (aG b8 x11 x12) from hd 5 112 rfl (by kernel_rfl)) rfl (show QT 42 (((q0.floor : Int) : Rat)) ((aG b8 x11 x12)) _ from ⟨b8, x11, x12, rfl, isQ_n hz4 hN4 hn4, Nat.le_trans hk15 (by decide), Nat.le_trans hk16 (by decide), (S.num 1 rfl), (S.num 0 rfl)⟩).any ((((show QT 1 ((1 : Rat)) (a.tmps.getD 113 undef) V from hd 6 113 rfl (by kernel_rfl))).any).to rfl (by omega)))
            | 8, ht =>
              cases ht
              exact so_call rfl rfl ((wanted_if rfl rfl rfl (show tG a 111 <| .bool true from hd 4 111 rfl (by kernel_rfl))).trans rfl) (rn_call1 ⟨_, rfl⟩ rfl (enters_of Tryz.func27 (by kernel_rfl) rfl)) (AM.add2 (T.keep S.below) S.below ((show QL 42 6 ([((q0.floor : Int) : Rat), (1 : Rat)]) (a.tmps.getD 114 undef) V from hd 7 114 rfl (by kernel_rfl))).row (by omega))
            | 9, ht =>
              cases ht
              exact so_val rfl rfl ((wanted_if rfl rfl rfl (show tG a 111 <| .bool true from hd 4 111 rfl (by kernel_rfl))).trans rfl) (rn_load rfl (S.at 1 rfl) (S.bx 0 rfl) Tryz.underlying27 rfl (vs := (aL b0_ x0_ y0_)) sz_Rat rfl) rfl
            | 10, ht =>
              cases ht
              exact so_call rfl rfl ((wanted_if rfl rfl rfl (show tG a 111 <| .bool true from hd 4 111 rfl (by kernel_rfl))).trans rfl) (rn_call2 ⟨_, rfl⟩ rfl (show tG a 116 <| (aG b0_ x0_ y0_) from hd 9 116 rfl (by kernel_rfl)) (enters_of Tryz.func17 (by kernel_rfl) rfl)) (p7Cmp (T.keep S.below) ((show QT 85 (((q0.floor : Int) : Rat) + (1 : Rat)) (a.tmps.getD 115 undef) V from hd 8 115 rfl (by kernel_rfl))).any (show Q1 40 (q0) ((aG b0_ x0_ y0_)) _ from ⟨b0_, x0_, y0_, rfl, hqa0, hkx0, hky0, (S.num 8 rfl), (S.num 9 rfl)⟩) (by omega) (by omega))
            | 11, ht =>
              cases ht
              exact so_val rfl rfl ((wanted_if rfl rfl rfl (show tG a 111 <| .bool true from hd 4 111 rfl (by kernel_rfl))).trans rfl) (rn_bool (rn_gtr rfl (show tG a 117 <| .int .i64 (cmpR (((q0.floor : Int) : Rat) + (1 : Rat)) q0) from hd 10 117 rfl (by kernel_rfl)) rfl) (show (decide (0 < cmpR (((q0.floor : Int) : Rat) + (1 : Rat)) q0)) = true from (decide_eq_true (low_gt q0)))) rfl
            | 12, ht =>
              cases ht
              exact so_val rfl rfl (wanted_free rfl) (rn_pick true rfl (show tG a 111 <| .bool true from hd 4 111 rfl (by kernel_rfl)) (show tG a 118 <| .bool true from hd 11 118 rfl (by kernel_rfl))) rfl
            | 13, ht =>
              cases ht
              exact so_val rfl rfl (wanted_free rfl) (rn_move rfl (show tG a 119 <| .bool true from hd 12 119 rfl (by kernel_rfl))) rfl
            | 14, ht =>
              cases ht
              exact so_call rfl rfl ((wanted_if rfl rfl rfl (show tG a 120 <| .bool true from hd 13 120 rfl (by kernel_rfl))).trans rfl) (rn_call0 ⟨_, rfl⟩  (enters_of Tryz.func9 (by kernel_rfl) rfl)) (l7wakes (T.keep S.below))
            | 15, ht =>
              cases ht
              exact so_val rfl rfl (wanted_free rfl) (rn_pick true rfl (show tG a 120 <| .bool true from hd 13 120 rfl (by kernel_rfl)) (show tG a 121 <| .bool true from hd 14 121 rfl (by kernel_rfl))) rfl
            | k + 16, ht => simp at ht
          · intro a12 V54 S hB hf
            have S := S.add (show a12.tmps.getD 122 undef = .bool true from hf 15 122 rfl)
            clear hf S0
            show wpList _ _ _ [_] _ _
            refine tl_val S (v := .bool true) (rn_assign rfl (S.at 0 rfl)) rfl rfl (by decide) (ls' := [(122, .bool true), (10, pT g15 0), (3, pT g1 0)]) rfl (fun a S => ?_)
            refine hK30 _ _ ?_
            refine wp_ret ?_
            exact frm_ret1 rfl S (S.at 0 rfl) ⟨_, rfl, rfl, S.below⟩
set_option maxRecDepth 100000 in
set_option maxHeartbeats 4000000 in
theorem rorder_great (b0_ : Bool) (x0_ y0_ : Num) (b1_ : Bool) (x1_ y1_ : Num) (b2_ : Bool) (x2_ y2_ : Num)  {V : World} (T : TT V) (_AM : AddMul V) (ox0 : x0_.ok V V.heap.size) (oy0 : y0_.ok V V.heap.size) (ox1 : x1_.ok V V.heap.size) (oy1 : y1_.ok V V.heap.size) (ox2 : x2_.ok V V.heap.size) (oy2 : y2_.ok V V.heap.size)  (hG : great7 [(b0_, x0_, y0_), (b1_, x1_, y1_), (b2_, x2_, y2_)] = true) :
    Calls Tryz.prog 6 #[(aG b0_ x0_ y0_), (aG b1_ x1_ y1_), (aG b2_ x2_ y2_)] V (Gives1 V (fun v _ => v = .bool true)) := by
  obtain ⟨q0, hqa0⟩ : ∃ q, qOf b0_ x0_.N y0_.N = q := ⟨_, rfl⟩
  obtain ⟨q1, hqa1⟩ : ∃ q, qOf b1_ x1_.N y1_.N = q := ⟨_, rfl⟩
  obtain ⟨q2, hqa2⟩ : ∃ q, qOf b2_ x2_.N y2_.N = q := ⟨_, rfl⟩
  refine frm_body (e := [x2_, y2_, x1_, y1_, x0_, y0_]) Tryz.func6 rfl Tryz.ntmps6 (Nat.le_of_ble_eq_true rfl) [(0, (aG b0_ x0_ y0_)), (1, (aG b1_ x1_ y1_)), (2, (aG b2_ x2_ y2_))] rfl (ok_cons ox2 (ok_cons oy2 (ok_cons ox1 (ok_cons oy1 (ok_cons ox0 (ok_cons oy0 ok_nil)))))) (fun a S => ?_)
  refine wp_seq_k fun K1 hK1 => ?_
  refine frm_plain ?_
  refine tl_box S (T := 27) (cs := (aL b0_ x0_ y0_)) (rn_box rfl (S.at 0 rfl) rfl) rfl rfl rfl (by decide) (ls' := [(0, (aG b0_ x0_ y0_)), (1, (aG b1_ x1_ y1_)), (2, (aG b2_ x2_ y2_))]) rfl (lb' := fun g1 => [⟨g1, 27, (aL b0_ x0_ y0_)⟩]) (fun _ => rfl) (fun g1 a V1 hgg1 S => ?_)
  refine tl_box S (T := 27) (cs := (aL b1_ x1_ y1_)) (rn_box rfl (S.at 2 rfl) rfl) rfl rfl rfl (by decide) (ls' := [(3, pT g1 0), (0, (aG b0_ x0_ y0_)), (1, (aG b1_ x1_ y1_)), (2, (aG b2_ x2_ y2_))]) rfl (lb' := fun g2 => [⟨g1, 27, (aL b0_ x0_ y0_)⟩, ⟨g2, 27, (aL b1_ x1_ y1_)⟩]) (fun _ => rfl) (fun g2 a V2 hgg2 S => ?_)
  refine tl_box S (T := 27) (cs := (aL b2_ x2_ y2_)) (rn_box rfl (S.at 4 rfl) rfl) rfl rfl rfl (by decide) (ls' := [(4, pT g2 0), (3, pT g1 0), (0, (aG b0_ x0_ y0_)), (1, (aG b1_ x1_ y1_)), (2, (aG b2_ x2_ y2_))]) rfl (lb' := fun g3 => [⟨g1, 27, (aL b0_ x0_ y0_)⟩, ⟨g2, 27, (aL b1_ x1_ y1_)⟩, ⟨g3, 27, (aL b2_ x2_ y2_)⟩]) (fun _ => rfl) (fun g3 a V3 hgg3 S => ?_)
  refine tl_val S (v := .bool false) (rn_assignc rfl) rfl rfl (by decide) (ls' := [(5, pT g3 0), (4, pT g2 0), (3, pT g1 0), (0, (aG b0_ x0_ y0_)), (1, (aG b1_ x1_ y1_)), (2, (aG b2_ x2_ y2_))]) rfl (fun a S => ?_)
  refine hK1 _ _ ?_
  refine wp_seq_k fun K2 hK2 => ?_
  refine wp_seq_k fun K3 hK3 => ?_
  have S := S.keep [5, 4, 3] (ls' := [(5, pT g3 0), (4, pT g2 0), (3, pT g1 0)]) rfl
  refine frm_plain ?_
  refine tl_val S (v := (aG b0_ x0_ y0_)) (rn_load rfl (S.at 2 rfl) (S.bx 0 rfl) Tryz.underlying27 rfl (vs := (aL b0_ x0_ y0_)) sz_Rat rfl) rfl rfl (by decide) (ls' := [(5, pT g3 0), (4, pT g2 0), (3, pT g1 0)]) rfl (fun a S => ?_)
  refine tl_val S (v := (aG b1_ x1_ y1_)) (rn_load rfl (S.at 2 rfl) (S.bx 1 rfl) Tryz.underlying27 rfl (vs := (aL b1_ x1_ y1_)) sz_Rat rfl) rfl rfl (by decide) (ls' := [(11, (aG b0_ x0_ y0_)), (5, pT g3 0), (4, pT g2 0), (3, pT g1 0)]) rfl (fun a S => ?_)
  refine tl_val S (v := (aG b2_ x2_ y2_)) (rn_load rfl (S.at 2 rfl) (S.bx 2 rfl) Tryz.underlying27 rfl (vs := (aL b2_ x2_ y2_)) sz_Rat rfl) rfl rfl (by decide) (ls' := [(12, (aG b1_ x1_ y1_)), (11, (aG b0_ x0_ y0_)), (5, pT g3 0), (4, pT g2 0), (3, pT g1 0)]) rfl (fun a S => ?_)
  refine tl_lays S (F := GL ([(b0_, x0_, y0_), (b1_, x1_, y1_), (b2_, x2_, y2_)])) (ly_grow3 rfl (S.at 2 rfl) (S.at 1 rfl) (S.at 0 rfl) (S.num 4 rfl) (S.num 5 rfl) (S.num 2 rfl) (S.num 3 rfl) (S.num 0 rfl) (S.num 1 rfl)) rfl rfl (by decide) (ls' := [(13, (aG b2_ x2_ y2_)), (12, (aG b1_ x1_ y1_)), (11, (aG b0_ x0_ y0_)), (5, pT g3 0), (4, pT g2 0), (3, pT g1 0)]) rfl (fun v a V4 hF hb S => ?_)
  obtain ⟨ov1, hov1⟩ : ∃ z, z = v := ⟨_, rfl⟩
  rw [← hov1] at hF S
  have rov1 := hF
  refine tl_call S (rn_call1 ⟨_, rfl⟩ (S.at 0 rfl) (enters_of Tryz.func8 (by kernel_rfl) rfl)) (F := (fun v _ => v = .bool true)) (l7Great rov1 hG) rfl rfl (by decide) (ls' := [(14, ov1), (13, (aG b2_ x2_ y2_)), (12, (aG b1_ x1_ y1_)), (11, (aG b0_ x0_ y0_)), (5, pT g3 0), (4, pT g2 0), (3, pT g1 0)]) rfl (fun v a V5 hF hb S => ?_)
  replace rov1 := rov1.keep hb
  subst hF
  refine hK3 _ _ ?_
  refine wp_cond_true (S.at 0 rfl) ?_
  refine wp_seq_k fun K4 hK4 => ?_
  have S := S.keep [] (ls' := []) rfl
  refine frm_plain ?_
  refine tl_call S (rn_call0 ⟨_, rfl⟩  (enters_of Tryz.func9 (by kernel_rfl) rfl)) (F := (fun v _ => v = .bool true)) (l7wakes (T.keep S.below)) rfl rfl (by decide) (ls' := []) rfl (fun v a V6 hF hb S => ?_)
  subst hF
  refine tl_val S (v := .bool true) (rn_assign rfl (S.at 0 rfl)) rfl rfl (by decide) (ls' := [(16, .bool true)]) rfl (fun a S => ?_)
  refine hK4 _ _ ?_
  refine wp_ret ?_
  exact frm_ret1 rfl S (S.at 0 rfl) ⟨_, rfl, rfl, S.below⟩
end Go.Proofs.YtdajbmjknilmiaaGreatDoor
