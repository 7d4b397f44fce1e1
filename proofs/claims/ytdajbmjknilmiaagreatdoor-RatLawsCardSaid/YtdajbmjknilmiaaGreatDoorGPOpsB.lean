/- What of POps only LLaws needs. -/
import Derived.Test.YtdajbmjknilmiaaGreatDoorGPOps
namespace Go.Proofs.YtdajbmjknilmiaaGreatDoor
open Go Go.RowKit
variable {v v' v1 v2 : Value} {V V' : World} {K K' N M : Nat} {q q' q1 q2 : Rat} {Z Z' : Int}

theorem quo_zero {b : Bool} {x y : Num} (hc : decide (Int.sign (zOf b x.N) = 0) = true) (h : qOf b x.N y.N = q ∧ y.N ≠ 0) : q = 0 := by
  have h1 := sign_q ⟨h.2, h.1⟩
  rw [of_decide_eq_true hc] at h1
  exact cmpR_zero.1 h1.symm
theorem quo_nz {b : Bool} {x y : Num} (hc : decide (Int.sign (zOf b x.N) = 0) = false) (h : qOf b x.N y.N = q ∧ y.N ≠ 0) : q ≠ 0 := fun h0 => by
  have h1 := sign_q ⟨h.2, h.1⟩
  rw [h0, cmpR_eq] at h1
  exact of_decide_eq_false hc h1
theorem quo_nought (h : q2 = 0) : (0 : Rat) = q1 / q2 := by rw [h, Rat.div_def, Rat.inv_zero, Rat.mul_zero]
theorem quo_inv : q1 * q2⁻¹ = q1 / q2 := (Rat.div_def q1 q2).symm
set_option maxRecDepth 100000 in
set_option maxHeartbeats 4000000 in
theorem p7Norm {K : Nat} {q : Rat} {v1 : Value} {V : World} (T : TT V) (h1 : Q1 K (q) v1 V) (hK0 : K ≤ 10000):
    Calls Tryz.prog 23 #[v1] V (Gives1 V (QT (max K 1) q)) := by
  obtain ⟨b1, x1, y1, rfl, hq1, hk1, hk2, ok1, ok2⟩ := h1
  refine frm_body (e := [x1, y1]) Tryz.func23 rfl Tryz.ntmps23 (Nat.le_of_ble_eq_true rfl) [(0, (aG b1 x1 y1))] rfl (ok_cons ok1 (ok_cons ok2 ok_nil)) (fun a S => ?_)
  refine wp_seq_k fun K1 hK1 => ?_
  refine frm_plain ?_
  refine tl_box S (T := 27) (cs := (aL b1 x1 y1)) (rn_box rfl (S.at 0 rfl) rfl) rfl rfl rfl (by decide) (ls' := [(0, (aG b1 x1 y1))]) rfl (lb' := fun g1 => [⟨g1, 27, (aL b1 x1 y1)⟩]) (fun _ => rfl) (fun g1 a V1 hgg1 S => ?_)
  refine tl_box S (T := 27) (cs := [.bool false, .slice none 0 0, .slice none 0 0]) (rn_alloc rfl (Tryz.zeroValue27 _) rfl) rfl rfl rfl (by decide) (ls' := [(1, pT g1 0), (0, (aG b1 x1 y1))]) rfl (lb' := fun g2 => [⟨g1, 27, (aL b1 x1 y1)⟩, ⟨g2, 27, [.bool false, .slice none 0 0, .slice none 0 0]⟩]) (fun _ => rfl) (fun g2 a V2 hgg2 S => ?_)
  refine hK1 _ _ ?_
  refine wp_seq_k fun K2 hK2 => ?_
  have S := S.keep [2, 1] (ls' := [(2, pT g2 0), (1, pT g1 0)]) rfl
  refine frm_plain ?_
  refine tl_val S (v := (aG b1 x1 y1)) (rn_load rfl (S.at 1 rfl) (S.bx 0 rfl) Tryz.underlying27 rfl (vs := (aL b1 x1 y1)) sz_Rat rfl) rfl rfl (by decide) (ls' := [(2, pT g2 0), (1, pT g1 0)]) rfl (fun a S => ?_)
  refine tl_call S (rn_call1 ⟨_, rfl⟩ (S.at 0 rfl) (enters_of Tryz.func58 (by kernel_rfl) rfl)) (F := QM (max K 1) (q)) (p7reckon (show Q1 K (q) ((aG b1 x1 y1)) _ from ⟨b1, x1, y1, rfl, hq1, hk1, hk2, (S.num 0 rfl), (S.num 1 rfl)⟩) (by omega)) rfl rfl (by decide) (ls' := [(3, (aG b1 x1 y1)), (2, pT g2 0), (1, pT g1 0)]) rfl (fun v a V3 hF hb S => ?_)
  obtain ⟨b2, x2, y2, rfl, hq2, hk3, hk4, ok3, ok4⟩ := hF
  have S := S.know ok3
  have S := S.know ok4
  refine tl_call S (rn_call1 ⟨_, rfl⟩ (S.at 0 rfl) (enters_of Tryz.func52 (by kernel_rfl) rfl)) (F := QT (max K 1) (q)) (p7told (T.keep S.below) (show QM (max K 1) (q) ((aG b2 x2 y2)) _ from ⟨b2, x2, y2, rfl, hq2, hk3, hk4, (S.num 1 rfl), (S.num 0 rfl)⟩) (by omega)) rfl rfl (by decide) (ls' := [(4, (aG b2 x2 y2)), (3, (aG b1 x1 y1)), (2, pT g2 0), (1, pT g1 0)]) rfl (fun v a V4 hF hb S => ?_)
  obtain ⟨b3, x3, y3, rfl, hq3, hk5, hk6, ok5, ok6⟩ := hF
  have S := S.know ok5
  have S := S.know ok6
  refine tl_store S (i := 1) (vs := (aL b3 x3 y3)) rfl (fun ht => rn_store rfl (S.at 3 rfl) (S.at 0 rfl) sz_Rat rfl (Nat.le_of_ble_eq_true rfl) ht) (Nat.le_of_ble_eq_true rfl) rfl rfl rfl (lb' := [⟨g1, 27, (aL b1 x1 y1)⟩, ⟨g2, 27, (aL b3 x3 y3)⟩]) rfl (fun V5 S => ?_)
  refine hK2 _ _ ?_
  refine wp_ret ?_
  exact frm_retc rfl S (S.at 3 rfl) (i := 1) rfl Tryz.underlying27 rfl sz_Rat ⟨_, rfl, ((show QT (max K 1) (q) ((aG b3 x3 y3)) _ from ⟨b3, x3, y3, rfl, hq3, hk5, hk6, (S.num 1 rfl), (S.num 0 rfl)⟩)).to rfl (by omega), S.below⟩
set_option maxRecDepth 100000 in
set_option maxHeartbeats 4000000 in
theorem p7Neg {K : Nat} {q : Rat} {v1 : Value} {V : World} (T : TT V) (h1 : Q1 K (q) v1 V) (hK0 : K ≤ 10000):
    Calls Tryz.prog 25 #[v1] V (Gives1 V (QT (max K 1) (-q))) := by
  obtain ⟨b1, x1, y1, rfl, hq1, hk1, hk2, ok1, ok2⟩ := h1
  refine frm_body (e := [x1, y1]) Tryz.func25 rfl Tryz.ntmps25 (Nat.le_of_ble_eq_true rfl) [(0, (aG b1 x1 y1))] rfl (ok_cons ok1 (ok_cons ok2 ok_nil)) (fun a S => ?_)
  refine wp_seq_k fun K1 hK1 => ?_
  refine frm_plain ?_
  refine tl_box S (T := 27) (cs := (aL b1 x1 y1)) (rn_box rfl (S.at 0 rfl) rfl) rfl rfl rfl (by decide) (ls' := [(0, (aG b1 x1 y1))]) rfl (lb' := fun g1 => [⟨g1, 27, (aL b1 x1 y1)⟩]) (fun _ => rfl) (fun g1 a V1 hgg1 S => ?_)
  refine tl_box S (T := 27) (cs := [.bool false, .slice none 0 0, .slice none 0 0]) (rn_alloc rfl (Tryz.zeroValue27 _) rfl) rfl rfl rfl (by decide) (ls' := [(1, pT g1 0), (0, (aG b1 x1 y1))]) rfl (lb' := fun g2 => [⟨g1, 27, (aL b1 x1 y1)⟩, ⟨g2, 27, [.bool false, .slice none 0 0, .slice none 0 0]⟩]) (fun _ => rfl) (fun g2 a V2 hgg2 S => ?_)
  refine hK1 _ _ ?_
  refine wp_seq_k fun K2 hK2 => ?_
  have S := S.keep [2, 1] (ls' := [(2, pT g2 0), (1, pT g1 0)]) rfl
  refine frm_plain ?_
  refine tl_val S (v := (aG b1 x1 y1)) (rn_load rfl (S.at 1 rfl) (S.bx 0 rfl) Tryz.underlying27 rfl (vs := (aL b1 x1 y1)) sz_Rat rfl) rfl rfl (by decide) (ls' := [(2, pT g2 0), (1, pT g1 0)]) rfl (fun a S => ?_)
  refine tl_call S (rn_call1 ⟨_, rfl⟩ (S.at 0 rfl) (enters_of Tryz.func58 (by kernel_rfl) rfl)) (F := QM (max K 1) (q)) (p7reckon (show Q1 K (q) ((aG b1 x1 y1)) _ from ⟨b1, x1, y1, rfl, hq1, hk1, hk2, (S.num 0 rfl), (S.num 1 rfl)⟩) (by omega)) rfl rfl (by decide) (ls' := [(3, (aG b1 x1 y1)), (2, pT g2 0), (1, pT g1 0)]) rfl (fun v a V3 hF hb S => ?_)
  obtain ⟨b2, x2, y2, rfl, hq2, hk3, hk4, ok3, ok4⟩ := hF
  have S := S.know ok3
  have S := S.know ok4
  refine tl_call S (rn_call1 ⟨_, rfl⟩ (S.at 0 rfl) (enters_of Tryz.func68 (by kernel_rfl) rfl)) (F := QM (max K 1) (-q)) (p7negated (show QM (max K 1) (q) ((aG b2 x2 y2)) _ from ⟨b2, x2, y2, rfl, hq2, hk3, hk4, (S.num 1 rfl), (S.num 0 rfl)⟩)) rfl rfl (by decide) (ls' := [(4, (aG b2 x2 y2)), (3, (aG b1 x1 y1)), (2, pT g2 0), (1, pT g1 0)]) rfl (fun v a V4 hF hb S => ?_)
  obtain ⟨b3, x3, y3, rfl, hq3, hk5, hk6, ok5, ok6⟩ := hF
  have S := S.know ok5
  have S := S.know ok6
  refine tl_call S (rn_call1 ⟨_, rfl⟩ (S.at 0 rfl) (enters_of Tryz.func52 (by kernel_rfl) rfl)) (F := QT (max K 1) (-q)) (p7told (T.keep S.below) (show QM (max K 1) (-q) ((aG b3 x3 y3)) _ from ⟨b3, x3, y3, rfl, hq3, hk5, hk6, (S.num 1 rfl), (S.num 0 rfl)⟩) (by omega)) rfl rfl (by decide) (ls' := [(5, (aG b3 x3 y3)), (4, (aG b2 x2 y2)), (3, (aG b1 x1 y1)), (2, pT g2 0), (1, pT g1 0)]) rfl (fun v a V5 hF hb S => ?_)
  obtain ⟨b4, x4, y4, rfl, hq4, hk7, hk8, ok7, ok8⟩ := hF
  have S := S.know ok7
  have S := S.know ok8
  refine tl_store S (i := 1) (vs := (aL b4 x4 y4)) rfl (fun ht => rn_store rfl (S.at 4 rfl) (S.at 0 rfl) sz_Rat rfl (Nat.le_of_ble_eq_true rfl) ht) (Nat.le_of_ble_eq_true rfl) rfl rfl rfl (lb' := [⟨g1, 27, (aL b1 x1 y1)⟩, ⟨g2, 27, (aL b4 x4 y4)⟩]) rfl (fun V6 S => ?_)
  refine hK2 _ _ ?_
  refine wp_ret ?_
  exact frm_retc rfl S (S.at 4 rfl) (i := 1) rfl Tryz.underlying27 rfl sz_Rat ⟨_, rfl, ((show QT (max K 1) (-q) ((aG b4 x4 y4)) _ from ⟨b4, x4, y4, rfl, hq4, hk7, hk8, (S.num 1 rfl), (S.num 0 rfl)⟩)).to rfl (by omega), S.below⟩
set_option maxRecDepth 100000 in
set_option maxHeartbeats 4000000 in
theorem p7Sub {K K' : Nat} {q1 q2 : Rat} {v1 v2 : Value} {V : World} (T : TT V) (h1 : Q1 K (q1) v1 V) (h2 : Q1 K' (q2) v2 V) (hK0 : K ≤ 1000) (hK1 : K' ≤ 1000):
    Calls Tryz.prog 33 #[v1, v2] V (Gives1 V (QT (max K 1 + max K' 1 + 1) (q1 - q2))) := by
  obtain ⟨b1, x1, y1, rfl, hq1, hk1, hk2, ok1, ok2⟩ := h1
  obtain ⟨b2, x2, y2, rfl, hq2, hk3, hk4, ok3, ok4⟩ := h2
  refine frm_body (e := [x2, y2, x1, y1]) Tryz.func33 rfl Tryz.ntmps33 (Nat.le_of_ble_eq_true rfl) [(0, (aG b1 x1 y1)), (1, (aG b2 x2 y2))] rfl (ok_cons ok3 (ok_cons ok4 (ok_cons ok1 (ok_cons ok2 ok_nil)))) (fun a S => ?_)
  refine wp_seq_k fun K1 hK1 => ?_
  refine frm_plain ?_
  refine tl_box S (T := 27) (cs := (aL b1 x1 y1)) (rn_box rfl (S.at 0 rfl) rfl) rfl rfl rfl (by decide) (ls' := [(0, (aG b1 x1 y1)), (1, (aG b2 x2 y2))]) rfl (lb' := fun g1 => [⟨g1, 27, (aL b1 x1 y1)⟩]) (fun _ => rfl) (fun g1 a V1 hgg1 S => ?_)
  refine tl_box S (T := 27) (cs := (aL b2 x2 y2)) (rn_box rfl (S.at 2 rfl) rfl) rfl rfl rfl (by decide) (ls' := [(2, pT g1 0), (0, (aG b1 x1 y1)), (1, (aG b2 x2 y2))]) rfl (lb' := fun g2 => [⟨g1, 27, (aL b1 x1 y1)⟩, ⟨g2, 27, (aL b2 x2 y2)⟩]) (fun _ => rfl) (fun g2 a V2 hgg2 S => ?_)
  refine tl_box S (T := 27) (cs := [.bool false, .slice none 0 0, .slice none 0 0]) (rn_alloc rfl (Tryz.zeroValue27 _) rfl) rfl rfl rfl (by decide) (ls' := [(3, pT g2 0), (2, pT g1 0), (0, (aG b1 x1 y1)), (1, (aG b2 x2 y2))]) rfl (lb' := fun g3 => [⟨g1, 27, (aL b1 x1 y1)⟩, ⟨g2, 27, (aL b2 x2 y2)⟩, ⟨g3, 27, [.bool false, .slice none 0 0, .slice none 0 0]⟩]) (fun _ => rfl) (fun g3 a V3 hgg3 S => ?_)
  refine hK1 _ _ ?_
  refine wp_seq_k fun K2 hK2 => ?_
  have S := S.keep [4, 3, 2] (ls' := [(4, pT g3 0), (3, pT g2 0), (2, pT g1 0)]) rfl
  obtain ⟨W1, hW1⟩ : ∃ W, W = V3 := ⟨_, rfl⟩
  rw [← hW1] at S ⊢
  have S0 := S
  refine frm_region 7 [5, 6, 7, 8, 9, 10, 11] (fun i v V => match i with
      | 0 => v = (aG b1 x1 y1)
      | 1 => QM (max K 1) (q1) v V
      | 2 => v = (aG b2 x2 y2)
      | 3 => QM (max K' 1) (q2) v V
      | 4 => QM (max K' 1) (-q2) v V
      | 5 => QM ((max K 1) + (max K' 1) + 1) (q1 + (-q2)) v V
      | _ => QT ((max K 1) + (max K' 1) + 1) (q1 + (-q2)) v V) S (by kernel_rfl) (by kernel_rfl) rfl (by decide) rfl rfl ?_ ?_ ?_
  · intro i v V V2 hf hb
    match i, hf with
    | 0, hf => exact hf
    | 1, hf => exact QM.keep hf hb
    | 2, hf => exact hf
    | 3, hf => exact QM.keep hf hb
    | 4, hf => exact QM.keep hf hb
    | 5, hf => exact QM.keep hf hb
    | _ + 6, hf => exact QT.keep hf hb
  · intro i t ht a V S hB hd
    match i, ht with
    | 0, ht =>
      cases ht
      exact so_val rfl rfl (wanted_free rfl) (rn_load rfl (S.at 2 rfl) (S.bx 0 rfl) Tryz.underlying27 rfl (vs := (aL b1 x1 y1)) sz_Rat rfl) rfl
    | 1, ht =>
      cases ht
      exact so_call rfl rfl (wanted_free rfl) (rn_call1 ⟨_, rfl⟩ (show tG a 5 <| (aG b1 x1 y1) from hd 0 5 rfl (by kernel_rfl)) (enters_of Tryz.func58 (by kernel_rfl) rfl)) (p7reckon (show Q1 K (q1) ((aG b1 x1 y1)) _ from ⟨b1, x1, y1, rfl, hq1, hk1, hk2, (S.num 2 rfl), (S.num 3 rfl)⟩) (by omega))
    | 2, ht =>
      cases ht
      exact so_val rfl rfl (wanted_free rfl) (rn_load rfl (S.at 1 rfl) (S.bx 1 rfl) Tryz.underlying27 rfl (vs := (aL b2 x2 y2)) sz_Rat rfl) rfl
    | 3, ht =>
      cases ht
      exact so_call rfl rfl (wanted_free rfl) (rn_call1 ⟨_, rfl⟩ (show tG a 7 <| (aG b2 x2 y2) from hd 2 7 rfl (by kernel_rfl)) (enters_of Tryz.func58 (by kernel_rfl) rfl)) (p7reckon (show Q1 K' (q2) ((aG b2 x2 y2)) _ from ⟨b2, x2, y2, rfl, hq2, hk3, hk4, (S.num 0 rfl), (S.num 1 rfl)⟩) (by omega))
    | 4, ht =>
      cases ht
      exact so_call rfl rfl (wanted_free rfl) (rn_call1 ⟨_, rfl⟩ rfl (enters_of Tryz.func68 (by kernel_rfl) rfl)) (p7negated (show QM (max K' 1) (q2) (a.tmps.getD 8 undef) V from hd 3 8 rfl (by kernel_rfl)))
    | 5, ht =>
      cases ht
      exact so_call rfl rfl (wanted_free rfl) (rn_call2 ⟨_, rfl⟩ rfl rfl (enters_of Tryz.func71 (by kernel_rfl) rfl)) (p7plus (T.keep S.below) (show QM (max K 1) (q1) (a.tmps.getD 6 undef) V from hd 1 6 rfl (by kernel_rfl)) (show QM (max K' 1) (-q2) (a.tmps.getD 9 undef) V from hd 4 9 rfl (by kernel_rfl)) (by omega) (by omega))
    | 6, ht =>
      cases ht
      exact so_call rfl rfl (wanted_free rfl) (rn_call1 ⟨_, rfl⟩ rfl (enters_of Tryz.func52 (by kernel_rfl) rfl)) (p7told (T.keep S.below) (show QM ((max K 1) + (max K' 1) + 1) (q1 + (-q2)) (a.tmps.getD 10 undef) V from hd 5 10 rfl (by kernel_rfl)) (by omega))
    | k + 7, ht => simp at ht
  · intro a1 V4 S hB hf
    obtain ⟨b3, x3, y3, hv1, hq3, hk5, hk6, ok5, ok6⟩ := (show QT ((max K 1) + (max K' 1) + 1) (q1 + (-q2)) (a1.tmps.getD 11 undef) V4 from hf 6 11 rfl)
    have S := S.add hv1
    have S := S.know ok5
    have S := S.know ok6
    clear hf S0
    show wpList _ _ _ [_] _ _
    refine tl_store S (i := 2) (vs := (aL b3 x3 y3)) rfl (fun ht => rn_store rfl (S.at 1 rfl) (S.at 0 rfl) sz_Rat rfl (Nat.le_of_ble_eq_true rfl) ht) (Nat.le_of_ble_eq_true rfl) rfl rfl rfl (lb' := [⟨g1, 27, (aL b1 x1 y1)⟩, ⟨g2, 27, (aL b2 x2 y2)⟩, ⟨g3, 27, (aL b3 x3 y3)⟩]) rfl (fun V5 S => ?_)
    refine hK2 _ _ ?_
    refine wp_ret ?_
    exact frm_retc rfl S (S.at 1 rfl) (i := 2) rfl Tryz.underlying27 rfl sz_Rat ⟨_, rfl, ((show QT ((max K 1) + (max K' 1) + 1) (q1 + (-q2)) ((aG b3 x3 y3)) _ from ⟨b3, x3, y3, rfl, hq3, hk5, hk6, (S.num 1 rfl), (S.num 0 rfl)⟩)).to (sub_eq q1 q2) (by omega), S.below⟩
set_option maxRecDepth 100000 in
set_option maxHeartbeats 4000000 in
theorem p7Quo {K K' : Nat} {q1 q2 : Rat} {v1 v2 : Value} {V : World} (T : TT V) (h1 : Q1 K (q1) v1 V) (h2 : Q1 K' (q2) v2 V) (hK0 : K ≤ 1000) (hK1 : K' ≤ 1000):
    Calls Tryz.prog 12 #[v1, v2] V (Gives1 V (QE (max K 1 + max K' 1) (q1 / q2) (erq q2))) := by
  obtain ⟨b1, x1, y1, rfl, hq1, hk1, hk2, ok1, ok2⟩ := h1
  obtain ⟨b2, x2, y2, rfl, hq2, hk3, hk4, ok3, ok4⟩ := h2
  refine frm_body (e := [x2, y2, x1, y1]) Tryz.func12 rfl Tryz.ntmps12 (Nat.le_of_ble_eq_true rfl) [(0, (aG b1 x1 y1)), (1, (aG b2 x2 y2))] rfl (ok_cons ok3 (ok_cons ok4 (ok_cons ok1 (ok_cons ok2 ok_nil)))) (fun a S => ?_)
  refine wp_seq_k fun K1 hK1 => ?_
  refine frm_plain ?_
  refine tl_box S (T := 27) (cs := (aL b1 x1 y1)) (rn_box rfl (S.at 0 rfl) rfl) rfl rfl rfl (by decide) (ls' := [(0, (aG b1 x1 y1)), (1, (aG b2 x2 y2))]) rfl (lb' := fun g1 => [⟨g1, 27, (aL b1 x1 y1)⟩]) (fun _ => rfl) (fun g1 a V1 hgg1 S => ?_)
  refine tl_box S (T := 27) (cs := (aL b2 x2 y2)) (rn_box rfl (S.at 2 rfl) rfl) rfl rfl rfl (by decide) (ls' := [(2, pT g1 0), (0, (aG b1 x1 y1)), (1, (aG b2 x2 y2))]) rfl (lb' := fun g2 => [⟨g1, 27, (aL b1 x1 y1)⟩, ⟨g2, 27, (aL b2 x2 y2)⟩]) (fun _ => rfl) (fun g2 a V2 hgg2 S => ?_)
  refine tl_box S (T := 27) (cs := [.bool false, .slice none 0 0, .slice none 0 0]) (rn_alloc rfl (Tryz.zeroValue27 _) rfl) rfl rfl rfl (by decide) (ls' := [(3, pT g2 0), (2, pT g1 0), (0, (aG b1 x1 y1)), (1, (aG b2 x2 y2))]) rfl (lb' := fun g3 => [⟨g1, 27, (aL b1 x1 y1)⟩, ⟨g2, 27, (aL b2 x2 y2)⟩, ⟨g3, 27, [.bool false, .slice none 0 0, .slice none 0 0]⟩]) (fun _ => rfl) (fun g3 a V3 hgg3 S => ?_)
  refine tl_val S (v := .int .i64 0) (rn_assignc rfl) rfl rfl (by decide) (ls' := [(4, pT g3 0), (3, pT g2 0), (2, pT g1 0), (0, (aG b1 x1 y1)), (1, (aG b2 x2 y2))]) rfl (fun a S => ?_)
  refine hK1 _ _ ?_
  refine wp_seq_k fun K2 hK2 => ?_
  have S := S.keep [4, 3, 2] (ls' := [(4, pT g3 0), (3, pT g2 0), (2, pT g1 0)]) rfl
  obtain ⟨W1, hW1⟩ : ∃ W, W = V3 := ⟨_, rfl⟩
  rw [← hW1] at S ⊢
  have S0 := S
  refine frm_regs [(64, 3)] [some 8, some 9, some 10, some 11, some 6, some 7, none, none] (fun i v V => match i with
      | 0 => v = (aG b1 x1 y1)
      | 1 => QM (max K 1) (q1) v V
      | 2 => v = (aG b2 x2 y2)
      | 3 => QM (max K' 1) (q2) v V
      | 4 => True
      | 5 => True
      | 6 => True
      | _ => True)
    [⟨4, 6, 64, [.bool false, .slice none 0 0, .slice none 0 0]⟩, ⟨5, 7, 64, [.bool false, .slice none 0 0, .slice none 0 0]⟩]
    [⟨6, 6, 64, QM (max K 1) (q1)⟩, ⟨7, 7, 64, QM (max K' 1) (q2)⟩]
    []
    (lb := [⟨g1, 27, (aL b1 x1 y1)⟩, ⟨g2, 27, (aL b2 x2 y2)⟩, ⟨g3, 27, [.bool false, .slice none 0 0, .slice none 0 0]⟩]) S (by kernel_rfl) (by kernel_rfl) rfl (by decide) rfl rfl
    (all_cons rfl (all_cons rfl all_nil))
    (all_cons rfl (all_cons rfl all_nil))
    ?_ (by decide) ?_ ?_ (all_cons (.inl ⟨_, List.mem_of_getElem? (i := 0) rfl, rfl, by kernel_rfl⟩) (all_cons (.inl ⟨_, List.mem_of_getElem? (i := 1) rfl, rfl, by kernel_rfl⟩) all_nil)) ?_ ?_ ?_ ?_ ?_ ?_ ?_ ?_ ?_
  · intro i hi
    match i, hi with
    | 0, hi => cases hi
    | 1, hi => cases hi
    | 2, hi => cases hi
    | 3, hi => cases hi
    | 4, hi => cases hi
    | 5, hi => cases hi
    | 6, hi => exact ⟨_, List.mem_of_getElem? (i := 0) rfl, rfl⟩
    | 7, hi => exact ⟨_, List.mem_of_getElem? (i := 1) rfl, rfl⟩
    | k + 8, hi => simp at hi
  · intro s hs s2 hs2 h
    exact st_inj (f := (·.i)) hs hs2 h (show List.Nodup [6, 7] from by decide)
  · intro s hs s2 hs2 h
    exact st_inj (f := (·.tb)) hs hs2 h (show List.Nodup [6, 7] from by decide)
  · intro i v V V2 hf hb
    match i, hf with
    | 0, hf => exact hf
    | 1, hf => exact QM.keep hf hb
    | 2, hf => exact hf
    | 3, hf => exact QM.keep hf hb
    | 4, hf => exact hf
    | 5, hf => exact hf
    | 6, hf => exact hf
    | _ + 7, hf => exact hf
  · intro i g vs v V V2 hf hb
    match i, hf with
    | 0, hf => exact hf
    | 1, hf => exact QM.keepS hf hb
    | 2, hf => exact hf
    | 3, hf => exact QM.keepS hf hb
    | 4, hf => exact hf
    | 5, hf => exact hf
    | 6, hf => exact hf
    | _ + 7, hf => exact hf
  · exact (all_cons (fun v V V2 hf hb => QM.keep hf hb) (all_cons (fun v V V2 hf hb => QM.keep hf hb) all_nil))
  · exact (all_cons (fun g vs v V V2 hf hb => QM.keepS hf hb) (all_cons (fun g vs v V V2 hf hb => QM.keepS hf hb) all_nil))
  · intro i t ht hnal a V S hB hd hp
    match i, ht, hnal with
    | 0, ht, hnal =>
      cases ht
      exact so_val rfl rfl (wanted_free rfl) (rn_load rfl (S.at 2 rfl) (S.bx 0 rfl) Tryz.underlying27 rfl (vs := (aL b1 x1 y1)) sz_Rat rfl) rfl
    | 1, ht, hnal =>
      cases ht
      exact so_call rfl rfl (wanted_free rfl) (rn_call1 ⟨_, rfl⟩ (show tG a 8 <| (aG b1 x1 y1) from hd 0 8 rfl rfl (by kernel_rfl)) (enters_of Tryz.func58 (by kernel_rfl) rfl)) (p7reckon (show Q1 K (q1) ((aG b1 x1 y1)) _ from ⟨b1, x1, y1, rfl, hq1, hk1, hk2, (S.num 2 rfl), (S.num 3 rfl)⟩) (by omega))
    | 2, ht, hnal =>
      cases ht
      exact so_val rfl rfl (wanted_free rfl) (rn_load rfl (S.at 1 rfl) (S.bx 1 rfl) Tryz.underlying27 rfl (vs := (aL b2 x2 y2)) sz_Rat rfl) rfl
    | 3, ht, hnal =>
      cases ht
      exact so_call rfl rfl (wanted_free rfl) (rn_call1 ⟨_, rfl⟩ (show tG a 10 <| (aG b2 x2 y2) from hd 2 10 rfl rfl (by kernel_rfl)) (enters_of Tryz.func58 (by kernel_rfl) rfl)) (p7reckon (show Q1 K' (q2) ((aG b2 x2 y2)) _ from ⟨b2, x2, y2, rfl, hq2, hk3, hk4, (S.num 0 rfl), (S.num 1 rfl)⟩) (by omega))
    | 4, ht, hnal => cases hnal
    | 5, ht, hnal => cases hnal
    | 6, ht, hnal => cases ht
    | 7, ht, hnal => cases ht
    | k + 8, ht, hnal => simp at ht
  · exact (all_cons ⟨rfl, _, rfl, rfl, rfl, fun a V S => (rn_alloc rfl (Tryz.zeroValue64 _) rfl)⟩ (all_cons ⟨rfl, _, rfl, rfl, rfl, fun a V S => (rn_alloc rfl (Tryz.zeroValue64 _) rfl)⟩ all_nil))
  · exact (all_cons ⟨_, 3, rfl, rfl, rfl, List.mem_of_getElem? (i := 0) rfl, (all_cons (fun h => ⟨rfl, rfl⟩) (all_cons (fun h => by cases h) all_nil)), all_nil, fun a V g S hg hd => st_rep (show QM (max K 1) (q1) (a.tmps.getD 9 undef) V from hd 1 9 rfl rfl (by kernel_rfl)) ((show QM (max K 1) (q1) (a.tmps.getD 9 undef) V from hd 1 9 rfl rfl (by kernel_rfl))).parts rfl hg rfl sz_number⟩ (all_cons ⟨_, 3, rfl, rfl, rfl, List.mem_of_getElem? (i := 0) rfl, (all_cons (fun h => by cases h) (all_cons (fun h => ⟨rfl, rfl⟩) all_nil)), all_nil, fun a V g S hg hd => st_rep (show QM (max K' 1) (q2) (a.tmps.getD 11 undef) V from hd 3 11 rfl rfl (by kernel_rfl)) ((show QM (max K' 1) (q2) (a.tmps.getD 11 undef) V from hd 3 11 rfl rfl (by kernel_rfl))).parts rfl hg rfl sz_number⟩ all_nil))
  rotate_left
  · exact all_nil
  · intro a1 V4 S hB hf hl hdis hs hp
    obtain ⟨g4, csg4, hvg4, hgg4, hbg4, hlg4, hng4, hkg4⟩ := hl _ (List.mem_of_getElem? (i := 0) rfl)
    obtain ⟨g5, csg5, hvg5, hgg5, hbg5, hlg5, hng5, hkg5⟩ := hl _ (List.mem_of_getElem? (i := 1) rfl)
    have hne_g4_g5 : g4 ≠ g5 := fun h => hdis _ (List.mem_of_getElem? (i := 0) rfl) _ (List.mem_of_getElem? (i := 1) rfl) (by decide) (hvg4.trans (h ▸ hvg5.symm))
    obtain ⟨gs1, vsgs1, hvgs1, -, hbgs1, hngs1, hPgs1⟩ := hs _ (List.mem_of_getElem? (i := 0) rfl)
    have hegs1 := ptr_inj ((hvg4).symm.trans hvgs1)
    subst hegs1
    obtain ⟨b3, x3, y3, hv1, hq3, hk5, hk6, ok5, ok6⟩ := (show QM (max K 1) (q1) (.agg vsgs1.toArray) V4 from hPgs1)
    have hvsgs1 := agg_inj (ws := (aL b3 x3 y3)) hv1
    subst hvsgs1
    have S := S.know ok5
    have S := S.know ok6
    obtain ⟨gs2, vsgs2, hvgs2, -, hbgs2, hngs2, hPgs2⟩ := hs _ (List.mem_of_getElem? (i := 1) rfl)
    have hegs2 := ptr_inj ((hvg5).symm.trans hvgs2)
    subst hegs2
    obtain ⟨b4, x4, y4, hv2, hq4, hk7, hk8, ok7, ok8⟩ := (show QM (max K' 1) (q2) (.agg vsgs2.toArray) V4 from hPgs2)
    have hvsgs2 := agg_inj (ws := (aL b4 x4 y4)) hv2
    subst hvsgs2
    have S := S.know ok7
    have S := S.know ok8
    have S := Frm.readd (S.add hvg4) (Nat.le_trans S0.below.size hgg4) hbgs1 rfl (ne_cons (ne_of_lt_le (S0.lt 0 rfl) hgg4) (ne_cons (ne_of_lt_le (S0.lt 1 rfl) hgg4) (ne_cons (ne_of_lt_le (S0.lt 2 rfl) hgg4) ne_nil)))
    have S := Frm.readd (S.add hvg5) (Nat.le_trans S0.below.size hgg5) hbgs2 rfl (ne_cons (ne_of_lt_le (S0.lt 0 rfl) hgg5) (ne_cons (ne_of_lt_le (S0.lt 1 rfl) hgg5) (ne_cons (ne_of_lt_le (S0.lt 2 rfl) hgg5) (ne_cons hne_g4_g5 ne_nil))))
    have S : Frm 22 [(7, pT g5 0), (6, pT g4 0), (4, pT g3 0), (3, pT g2 0), (2, pT g1 0)] [⟨g1, 27, (aL b1 x1 y1)⟩, ⟨g2, 27, (aL b2 x2 y2)⟩, ⟨g3, 27, [.bool false, .slice none 0 0, .slice none 0 0]⟩, ⟨g4, 64, (aL b3 x3 y3)⟩, ⟨g5, 64, (aL b4 x4 y4)⟩] V _ _ _ := S
    clear hf hl hdis hs hp S0
    refine hK2 _ _ ?_
    refine wp_seq_k fun K3 hK3 => ?_
    refine wp_seq_k fun K4 hK4 => ?_
    have hq2z : qOf b4 x4.N y4.N = q2 ∧ y4.N ≠ 0 := ⟨hq4.2, hq4.1⟩
    have S := S.keep [7, 6, 4] (ls' := [(7, pT g5 0), (6, pT g4 0), (4, pT g3 0)]) rfl
    refine frm_plain ?_
    refine tl_val S (v := pT g5 0) (rn_field rfl (S.at 0 rfl) (fa_number_0_0 _)) rfl rfl (by decide) (ls' := [(7, pT g5 0), (6, pT g4 0), (4, pT g3 0)]) rfl (fun a S => ?_)
    refine tl_val S (v := (aZ b4 x4)) (rn_load rfl (S.at 0 rfl) (S.bx 4 rfl) Tryz.underlying62 rfl (vs := [.bool b4, aS x4]) sz_numerator rfl) rfl rfl (by decide) (ls' := [(12, pT g5 0), (7, pT g5 0), (6, pT g4 0), (4, pT g3 0)]) rfl (fun a S => ?_)
    refine tl_call S (rn_call1 ⟨_, rfl⟩ (S.at 0 rfl) (enters_of Tryz.func59 (by kernel_rfl) rfl)) (F := (fun v _ => v = .int .i64 (Int.sign (zOf b4 x4.N)))) (p7sign (T.keep S.below) (show Z1 (max K' 1) (zOf b4 x4.N) ((aZ b4 x4)) _ from ⟨b4, x4, rfl, rfl, hk7, (S.num 1 rfl)⟩) (by omega)) rfl rfl (by decide) (ls' := [(13, (aZ b4 x4)), (12, pT g5 0), (7, pT g5 0), (6, pT g4 0), (4, pT g3 0)]) rfl (fun v a V5 hF hb S => ?_)
    subst hF
    refine tl_val S (v := .bool (decide (Int.sign (zOf b4 x4.N) = 0))) (rn_eql _ (by decide) rfl (S.at 0 rfl) rfl) rfl rfl (by decide) (ls' := [(14, .int .i64 (Int.sign (zOf b4 x4.N))), (13, (aZ b4 x4)), (12, pT g5 0), (7, pT g5 0), (6, pT g4 0), (4, pT g3 0)]) rfl (fun a S => ?_)
    refine hK4 _ _ ?_
    rcases Bool.eq_false_or_eq_true (decide (Int.sign (zOf b4 x4.N) = 0)) with hc15 | hc15
    · refine wp_cond_true ((S.at 0 rfl).trans (congrArg Value.bool hc15)) ?_
      refine wp_seq_k fun K5 hK5 => ?_
      have S := S.keep [4] (ls' := [(4, pT g3 0)]) rfl
      refine frm_plain ?_
      refine tl_call S (rn_callc ⟨_, rfl⟩  (enters_of Tryz.func21 (by kernel_rfl) rfl)) (F := QT 1 ((0 : Rat))) p7Of0 rfl rfl (by decide) (ls' := [(4, pT g3 0)]) rfl (fun v a V6 hF hb S => ?_)
      obtain ⟨b5, x5, y5, rfl, hq5, hk9, hk10, ok9, ok10⟩ := hF
      have S := S.know ok9
      have S := S.know ok10
      refine tl_store S (i := 2) (vs := (aL b5 x5 y5)) rfl (fun ht => rn_store rfl (S.at 1 rfl) (S.at 0 rfl) sz_Rat rfl (Nat.le_of_ble_eq_true rfl) ht) (Nat.le_of_ble_eq_true rfl) rfl rfl rfl (lb' := [⟨g1, 27, (aL b1 x1 y1)⟩, ⟨g2, 27, (aL b2 x2 y2)⟩, ⟨g3, 27, (aL b5 x5 y5)⟩, ⟨g4, 64, (aL b3 x3 y3)⟩, ⟨g5, 64, (aL b4 x4 y4)⟩]) rfl (fun V7 S => ?_)
      refine tl_val S (v := .int .i64 30) (rn_assignc rfl) rfl rfl (by decide) (ls' := [(16, (aG b5 x5 y5)), (4, pT g3 0)]) rfl (fun a S => ?_)
      refine hK5 _ _ ?_
      refine wp_ret ?_
      exact frm_retct rfl S (S.at 2 rfl) (i := 2) rfl Tryz.underlying27 rfl sz_Rat (S.at 0 rfl) ⟨_, rfl, ⟨b5, x5, y5, congrArg (fun z => Value.tuple #[(aG b5 x5 y5), .int .i64 z]) (show 30 = erq q2 from erq_yes (quo_zero hc15 hq2z)), (show _ = q1 / q2 from quo_nought (quo_zero hc15 hq2z)) ▸ hq5, Nat.le_trans hk9 (by omega), Nat.le_trans hk10 (by omega), (S.num 1 rfl), (S.num 0 rfl)⟩, S.below⟩
    · refine wp_cond_false ((S.at 0 rfl).trans (congrArg Value.bool hc15)) ?_
      refine wp_skip ?_
      refine hK3 _ _ ?_
      refine wp_seq_k fun K6 hK6 => ?_
      have S := S.keep [7, 6, 4] (ls' := [(7, pT g5 0), (6, pT g4 0), (4, pT g3 0)]) rfl
      obtain ⟨W2, hW2⟩ : ∃ W, W = V5 := ⟨_, rfl⟩
      rw [← hW2] at S ⊢
      have S0 := S
      refine frm_region 5 [17, 18, 19, 20, 21] (fun i v V => match i with
          | 0 => v = (aG b3 x3 y3)
          | 1 => v = (aG b4 x4 y4)
          | 2 => QM (max K' 1) ((q2)⁻¹) v V
          | 3 => QM ((max K 1) + (max K' 1)) (q1 * ((q2)⁻¹)) v V
          | _ => QT ((max K 1) + (max K' 1)) (q1 * ((q2)⁻¹)) v V) S (by kernel_rfl) (by kernel_rfl) rfl (by decide) rfl rfl ?_ ?_ ?_
      · intro i v V V2 hf hb
        match i, hf with
        | 0, hf => exact hf
        | 1, hf => exact hf
        | 2, hf => exact QM.keep hf hb
        | 3, hf => exact QM.keep hf hb
        | _ + 4, hf => exact QT.keep hf hb
      · intro i t ht a V S hB hd
        match i, ht with
        | 0, ht =>
          cases ht
          exact so_val rfl rfl (wanted_free rfl) (rn_load rfl (S.at 1 rfl) (S.bx 3 rfl) Tryz.underlying64 rfl (vs := (aL b3 x3 y3)) sz_number rfl) rfl
        | 1, ht =>
          cases ht
          exact so_val rfl rfl (wanted_free rfl) (rn_load rfl (S.at 0 rfl) (S.bx 4 rfl) Tryz.underlying64 rfl (vs := (aL b4 x4 y4)) sz_number rfl) rfl
        | 2, ht =>
          cases ht
          exact so_call rfl rfl (wanted_free rfl) (rn_call1 ⟨_, rfl⟩ (show tG a 18 <| (aG b4 x4 y4) from hd 1 18 rfl (by kernel_rfl)) (enters_of Tryz.func61 (by kernel_rfl) rfl)) (p7upsideDown (show QM (max K' 1) (q2) ((aG b4 x4 y4)) _ from ⟨b4, x4, y4, rfl, hq4, hk7, hk8, (S.num 1 rfl), (S.num 0 rfl)⟩) (quo_nz hc15 hq2z))
        | 3, ht =>
          cases ht
          exact so_call rfl rfl (wanted_free rfl) (rn_call2 ⟨_, rfl⟩ (show tG a 17 <| (aG b3 x3 y3) from hd 0 17 rfl (by kernel_rfl)) rfl (enters_of Tryz.func60 (by kernel_rfl) rfl)) (p7by (show QM (max K 1) (q1) ((aG b3 x3 y3)) _ from ⟨b3, x3, y3, rfl, hq3, hk5, hk6, (S.num 3 rfl), (S.num 2 rfl)⟩) (show QM (max K' 1) ((q2)⁻¹) (a.tmps.getD 19 undef) V from hd 2 19 rfl (by kernel_rfl)) (by omega) (by omega))
        | 4, ht =>
          cases ht
          exact so_call rfl rfl (wanted_free rfl) (rn_call1 ⟨_, rfl⟩ rfl (enters_of Tryz.func52 (by kernel_rfl) rfl)) (p7told (T.keep S.below) (show QM ((max K 1) + (max K' 1)) (q1 * ((q2)⁻¹)) (a.tmps.getD 20 undef) V from hd 3 20 rfl (by kernel_rfl)) (by omega))
        | k + 5, ht => simp at ht
      · intro a2 V8 S hB hf
        obtain ⟨b6, x6, y6, hv3, hq6, hk11, hk12, ok11, ok12⟩ := (show QT ((max K 1) + (max K' 1)) (q1 * ((q2)⁻¹)) (a2.tmps.getD 21 undef) V8 from hf 4 21 rfl)
        have S := S.add hv3
        have S := S.know ok11
        have S := S.know ok12
        clear hf S0
        show wpList _ _ _ [_, _] _ _
        refine tl_store S (i := 2) (vs := (aL b6 x6 y6)) rfl (fun ht => rn_store rfl (S.at 3 rfl) (S.at 0 rfl) sz_Rat rfl (Nat.le_of_ble_eq_true rfl) ht) (Nat.le_of_ble_eq_true rfl) rfl rfl rfl (lb' := [⟨g1, 27, (aL b1 x1 y1)⟩, ⟨g2, 27, (aL b2 x2 y2)⟩, ⟨g3, 27, (aL b6 x6 y6)⟩, ⟨g4, 64, (aL b3 x3 y3)⟩, ⟨g5, 64, (aL b4 x4 y4)⟩]) rfl (fun V9 S => ?_)
        refine tl_val S (v := .int .i64 0) (rn_assignc rfl) rfl rfl (by decide) (ls' := [(21, (aG b6 x6 y6)), (7, pT g5 0), (6, pT g4 0), (4, pT g3 0)]) rfl (fun a S => ?_)
        refine hK6 _ _ ?_
        refine wp_ret ?_
        exact frm_retct rfl S (S.at 4 rfl) (i := 2) rfl Tryz.underlying27 rfl sz_Rat (S.at 0 rfl) ⟨_, rfl, ⟨b6, x6, y6, congrArg (fun z => Value.tuple #[(aG b6 x6 y6), .int .i64 z]) (show 0 = erq q2 from erq_no (quo_nz hc15 hq2z)), (show _ = q1 / q2 from quo_inv) ▸ hq6, Nat.le_trans hk11 (by omega), Nat.le_trans hk12 (by omega), (S.num 1 rfl), (S.num 0 rfl)⟩, S.below⟩
end Go.Proofs.YtdajbmjknilmiaaGreatDoor
