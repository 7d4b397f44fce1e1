/- Contracts of package rat's New, Of, Norm, Sign, Cmp, Same, Neg, Sub, Mid, Quo, Floor. -/
import Derived.Test.YtdajbmjknilmiaaGreatDoorGPNum
namespace Go.Proofs.YtdajbmjknilmiaaGreatDoor
open Go Go.RowKit
variable {v v' v1 v2 : Value} {V V' : World} {K K' N M : Nat} {q q' q1 q2 : Rat} {Z Z' : Int}

theorem isQ_n {n : Int} {b : Bool} {x y : Num} (h : b = decide (n < 0) ∧ x.N = n.natAbs ∧ x.n = lenL n.natAbs) (h1 : y.N = 1) (h2 : y.n = lenL 1) : IsQ (n : Rat) b x y := by
  refine ⟨?_, ?_, ?_, ?_, ?_⟩
  · rw [Rat.num_intCast]; exact h.1
  · rw [Rat.num_intCast]; exact h.2.1
  · rw [h.2.1]; exact h.2.2
  · rw [Rat.den_intCast]; exact h1
  · rw [h1]; exact h2
theorem half_eq (q1 q2 : Rat) : (q1 + q2) / 2 = (q1 + q2) / 2 := rfl
theorem half_q {b : Bool} {x y : Num} (h : y.N ≠ 0 ∧ qOf b x.N y.N = q) : y.N * 2 ^ 1 ≠ 0 ∧ mkRat (zOf b x.N) (y.N * 2 ^ 1) = q / 2 := by
  refine ⟨by have := h.1; omega, ?_⟩
  rw [← h.2]
  unfold qOf
  have p2 : ((y.N : Nat) : Rat) ≠ 0 := fun h2 => h.1 (by exact_mod_cast h2)
  rw [Rat.mkRat_eq_div, Rat.mkRat_eq_div, Rat.natCast_mul]
  show (zOf b x.N : Rat) / ((y.N : Rat) * 2) = (zOf b x.N : Rat) / (y.N : Rat) / 2
  grind
theorem erq_yes (h : q = 0) : 30 = erq q := by unfold erq; rw [if_pos h]
theorem erq_no (h : q ≠ 0) : 0 = erq q := by unfold erq; rw [if_neg h]
theorem floor_mk {b : Bool} {x y : Num} (h : y.N ≠ 0 ∧ qOf b x.N y.N = q) : Int.fdiv (zOf b x.N) ((y.N : Nat) : Int) = q.floor := by
  refine (floor_div _ _ _ h.1 ?_).symm
  rw [← h.2]
  unfold qOf
  have p2 : ((y.N : Nat) : Rat) ≠ 0 := fun h2 => h.1 (by exact_mod_cast h2)
  rw [Rat.mkRat_eq_div]
  grind
set_option maxRecDepth 100000 in
set_option maxHeartbeats 4000000 in
theorem p7Of {n : Int} {V : World}  (hn : -9223372036854775808 ≤ n ∧ n ≤ 9223372036854775807):
    Calls Tryz.prog 21 #[.int .i64 n] V (Gives1 V (QT 2 (n : Rat))) := by
  refine frm_body (e := []) Tryz.func21 rfl Tryz.ntmps21 (Nat.le_of_ble_eq_true rfl) [(0, .int .i64 n)] rfl ok_nil (fun a S => ?_)
  refine wp_seq_k fun K1 hK1 => ?_
  refine frm_plain ?_
  refine tl_box S (T := 27) (cs := [.bool false, .slice none 0 0, .slice none 0 0]) (rn_alloc rfl (Tryz.zeroValue27 _) rfl) rfl rfl rfl (by decide) (ls' := [(0, .int .i64 n)]) rfl (lb' := fun g1 => [⟨g1, 27, [.bool false, .slice none 0 0, .slice none 0 0]⟩]) (fun _ => rfl) (fun g1 a V1 hgg1 S => ?_)
  refine hK1 _ _ ?_
  refine wp_seq_k fun K2 hK2 => ?_
  refine frm_plain ?_
  refine tl_val S (v := .int .i64 n) (rn_move rfl (S.at 1 rfl)) rfl rfl (by decide) (ls' := [(2, pT g1 0), (0, .int .i64 n)]) rfl (fun a S => ?_)
  refine tl_call S (rn_call1 ⟨_, rfl⟩ (S.at 0 rfl) (enters_of Tryz.func66 (by kernel_rfl) rfl)) (F := ZT 2 (n)) (psOf (n := n) hn) rfl rfl (by decide) (ls' := [(3, .int .i64 n), (2, pT g1 0), (0, .int .i64 n)]) rfl (fun v a V2 hF hb S => ?_)
  obtain ⟨b1, x1, rfl, hz1, hk1, ok1⟩ := hF
  have S := S.know ok1
  refine tl_call S (rn_callc ⟨_, rfl⟩  (enters_of Tryz.func67 (by kernel_rfl) rfl)) (F := NT 1 (1)) pOf1 rfl rfl (by decide) (ls' := [(4, (aZ b1 x1)), (3, .int .i64 n), (2, pT g1 0), (0, .int .i64 n)]) rfl (fun v a V3 hF hb S => ?_)
  obtain ⟨x2, rfl, hN1, hn1, hk2, ok2⟩ := hF
  have S := S.know ok2
  refine tl_val S (v := (aG b1 x1 x2)) (rn_build2 rfl (S.at 1 rfl) (S.at 0 rfl) (bd_Rat _ _ _ _ _ _ _)) rfl rfl (by decide) (ls' := [(5, aS x2), (4, (aZ b1 x1)), (3, .int .i64 n), (2, pT g1 0), (0, .int .i64 n)]) rfl (fun a S => ?_)
  refine tl_store S (i := 0) (vs := (aL b1 x1 x2)) rfl (fun ht => rn_store rfl (S.at 4 rfl) (S.at 0 rfl) sz_Rat rfl (Nat.le_of_ble_eq_true rfl) ht) (Nat.le_of_ble_eq_true rfl) rfl rfl rfl (lb' := [⟨g1, 27, (aL b1 x1 x2)⟩]) rfl (fun V4 S => ?_)
  refine hK2 _ _ ?_
  refine wp_ret ?_
  exact frm_retc rfl S (S.at 4 rfl) (i := 0) rfl Tryz.underlying27 rfl sz_Rat ⟨_, rfl, ⟨b1, x1, x2, rfl, isQ_n hz1 hN1 hn1, hk1, Nat.le_trans hk2 (by decide), (S.num 1 rfl), (S.num 0 rfl)⟩, S.below⟩
theorem p7Of0 : Calls Tryz.prog 21 #[.int .i64 0] V (Gives1 V (QT 1 (0 : Rat))) := gmono (p7Of (n := 0) (by decide)) (fun _ _ h => h.sml (K' := 1) sm_zero)
theorem p7Of1 : Calls Tryz.prog 21 #[.int .i64 1] V (Gives1 V (QT 1 (1 : Rat))) := gmono (p7Of (n := 1) (by decide)) (fun _ _ h => h.sml (K' := 1) sm_one)
set_option maxRecDepth 100000 in
set_option maxHeartbeats 4000000 in
theorem p7New {K K' N : Nat} {Z : Int} {v1 v2 : Value} {V : World} (T : TT V) (h1 : Z1 K (Z) v1 V) (h2 : N1 K' (N) v2 V) (hK0 : K ≤ 10000) (hK1 : K' ≤ 10000):
    Calls Tryz.prog 10 #[v1, v2] V (Gives1 V (QE (max (max K K') 1) (mkRat Z N) (erz N))) := by
  obtain ⟨b1, x1, rfl, hz1, hk1, ok1⟩ := h1
  obtain ⟨x2, rfl, hN1, hk2, ok2⟩ := h2
  refine frm_body (e := [x2, x1]) Tryz.func10 rfl Tryz.ntmps10 (Nat.le_of_ble_eq_true rfl) [(0, (aZ b1 x1)), (1, aS x2)] rfl (ok_cons ok2 (ok_cons ok1 ok_nil)) (fun a S => ?_)
  refine wp_seq_k fun K1 hK1 => ?_
  refine frm_plain ?_
  refine tl_box S (T := 25) (cs := [.bool b1, aS x1]) (rn_box rfl (S.at 0 rfl) rfl) rfl rfl rfl (by decide) (ls' := [(0, (aZ b1 x1)), (1, aS x2)]) rfl (lb' := fun g1 => [⟨g1, 25, [.bool b1, aS x1]⟩]) (fun _ => rfl) (fun g1 a V1 hgg1 S => ?_)
  refine tl_box S (T := 27) (cs := [.bool false, .slice none 0 0, .slice none 0 0]) (rn_alloc rfl (Tryz.zeroValue27 _) rfl) rfl rfl rfl (by decide) (ls' := [(2, pT g1 0), (0, (aZ b1 x1)), (1, aS x2)]) rfl (lb' := fun g2 => [⟨g1, 25, [.bool b1, aS x1]⟩, ⟨g2, 27, [.bool false, .slice none 0 0, .slice none 0 0]⟩]) (fun _ => rfl) (fun g2 a V2 hgg2 S => ?_)
  refine tl_val S (v := .int .i64 0) (rn_assignc rfl) rfl rfl (by decide) (ls' := [(4, pT g2 0), (2, pT g1 0), (0, (aZ b1 x1)), (1, aS x2)]) rfl (fun a S => ?_)
  refine hK1 _ _ ?_
  refine wp_seq_k fun K2 hK2 => ?_
  refine wp_seq_k fun K3 hK3 => ?_
  have S := S.keep [4, 2, 1] (ls' := [(4, pT g2 0), (2, pT g1 0), (1, aS x2)]) rfl
  refine frm_plain ?_
  refine tl_val S (v := aS x2) (rn_move rfl (S.at 2 rfl)) rfl rfl (by decide) (ls' := [(4, pT g2 0), (2, pT g1 0), (1, aS x2)]) rfl (fun a S => ?_)
  refine tl_call S (rn_call1 ⟨_, rfl⟩ (S.at 0 rfl) (enters_of Tryz.func51 (by kernel_rfl) rfl)) (F := (fun v _ => v = .bool (decide (N = 0)))) (p7isNought (show N1 K' (N) (aS x2) _ from ⟨x2, rfl, hN1, hk2, (S.num 0 rfl)⟩)) rfl rfl (by decide) (ls' := [(6, aS x2), (4, pT g2 0), (2, pT g1 0), (1, aS x2)]) rfl (fun v a V3 hF hb S => ?_)
  subst hF
  refine hK3 _ _ ?_
  rcases Bool.eq_false_or_eq_true (decide (N = 0)) with hc7 | hc7
  · refine wp_cond_true ((S.at 0 rfl).trans (congrArg Value.bool hc7)) ?_
    refine wp_seq_k fun K4 hK4 => ?_
    have S := S.keep [4] (ls' := [(4, pT g2 0)]) rfl
    refine frm_plain ?_
    refine tl_call S (rn_callc ⟨_, rfl⟩  (enters_of Tryz.func21 (by kernel_rfl) rfl)) (F := QT 1 ((0 : Rat))) p7Of0 rfl rfl (by decide) (ls' := [(4, pT g2 0)]) rfl (fun v a V4 hF hb S => ?_)
    obtain ⟨b2, x3, y1, rfl, hq1, hk3, hk4, ok3, ok4⟩ := hF
    have S := S.know ok3
    have S := S.know ok4
    refine tl_store S (i := 1) (vs := (aL b2 x3 y1)) rfl (fun ht => rn_store rfl (S.at 1 rfl) (S.at 0 rfl) sz_Rat rfl (Nat.le_of_ble_eq_true rfl) ht) (Nat.le_of_ble_eq_true rfl) rfl rfl rfl (lb' := [⟨g1, 25, [.bool b1, aS x1]⟩, ⟨g2, 27, (aL b2 x3 y1)⟩]) rfl (fun V5 S => ?_)
    refine tl_val S (v := .int .i64 30) (rn_assignc rfl) rfl rfl (by decide) (ls' := [(8, (aG b2 x3 y1)), (4, pT g2 0)]) rfl (fun a S => ?_)
    refine hK4 _ _ ?_
    refine wp_ret ?_
    exact frm_retct rfl S (S.at 2 rfl) (i := 1) rfl Tryz.underlying27 rfl sz_Rat (S.at 0 rfl) ⟨_, rfl, ⟨b2, x3, y1, congrArg (fun z => Value.tuple #[(aG b2 x3 y1), .int .i64 z]) (show 30 = erz N by unfold erz; rw [if_pos (of_decide_eq_true hc7)]), (show (0 : Rat) = mkRat Z N by rw [of_decide_eq_true hc7]; simp) ▸ hq1, Nat.le_trans hk3 (by omega), Nat.le_trans hk4 (by omega), (S.num 1 rfl), (S.num 0 rfl)⟩, S.below⟩
  · refine wp_cond_false ((S.at 0 rfl).trans (congrArg Value.bool hc7)) ?_
    refine wp_skip ?_
    refine hK2 _ _ ?_
    refine wp_seq_k fun K5 hK5 => ?_
    have S := S.keep [4, 2, 1] (ls' := [(4, pT g2 0), (2, pT g1 0), (1, aS x2)]) rfl
    refine frm_plain ?_
    refine tl_val S (v := (aZ b1 x1)) (rn_load rfl (S.at 1 rfl) (S.bx 0 rfl) Tryz.underlying25 rfl (vs := [.bool b1, aS x1]) sz_Int rfl) rfl rfl (by decide) (ls' := [(4, pT g2 0), (2, pT g1 0), (1, aS x2)]) rfl (fun a S => ?_)
    refine tl_val S (v := (aZ b1 x1)) (rn_build1 rfl (S.at 0 rfl) (bd_numerator _ _ _ _)) rfl rfl (by decide) (ls' := [(9, (aZ b1 x1)), (4, pT g2 0), (2, pT g1 0), (1, aS x2)]) rfl (fun a S => ?_)
    refine tl_val S (v := aS x2) (rn_move rfl (S.at 4 rfl)) rfl rfl (by decide) (ls' := [(10, (aZ b1 x1)), (9, (aZ b1 x1)), (4, pT g2 0), (2, pT g1 0), (1, aS x2)]) rfl (fun a S => ?_)
    refine tl_val S (v := (aG b1 x1 x2)) (rn_build2 rfl (S.at 1 rfl) (S.at 0 rfl) (bd_number _ _ _ _ _ _ _)) rfl rfl (by decide) (ls' := [(11, aS x2), (10, (aZ b1 x1)), (9, (aZ b1 x1)), (4, pT g2 0), (2, pT g1 0), (1, aS x2)]) rfl (fun a S => ?_)
    refine tl_call S (rn_call1 ⟨_, rfl⟩ (S.at 0 rfl) (enters_of Tryz.func52 (by kernel_rfl) rfl)) (F := QT (max K K') (mkRat Z N)) (p7told (T.keep S.below) (show QM (max K K') (mkRat Z N) ((aG b1 x1 x2)) _ from ⟨b1, x1, x2, rfl, ⟨by rw [hN1]; exact of_decide_eq_false hc7, by unfold qOf; rw [hz1, hN1]⟩, Nat.le_trans hk1 (by omega), Nat.le_trans hk2 (by omega), (S.num 1 rfl), (S.num 0 rfl)⟩) (by omega)) rfl rfl (by decide) (ls' := [(12, (aG b1 x1 x2)), (11, aS x2), (10, (aZ b1 x1)), (9, (aZ b1 x1)), (4, pT g2 0), (2, pT g1 0), (1, aS x2)]) rfl (fun v a V6 hF hb S => ?_)
    obtain ⟨b3, x4, y2, rfl, hq2, hk5, hk6, ok5, ok6⟩ := hF
    have S := S.know ok5
    have S := S.know ok6
    refine tl_store S (i := 1) (vs := (aL b3 x4 y2)) rfl (fun ht => rn_store rfl (S.at 5 rfl) (S.at 0 rfl) sz_Rat rfl (Nat.le_of_ble_eq_true rfl) ht) (Nat.le_of_ble_eq_true rfl) rfl rfl rfl (lb' := [⟨g1, 25, [.bool b1, aS x1]⟩, ⟨g2, 27, (aL b3 x4 y2)⟩]) rfl (fun V7 S => ?_)
    refine tl_val S (v := .int .i64 0) (rn_assignc rfl) rfl rfl (by decide) (ls' := [(13, (aG b3 x4 y2)), (12, (aG b1 x1 x2)), (11, aS x2), (10, (aZ b1 x1)), (9, (aZ b1 x1)), (4, pT g2 0), (2, pT g1 0), (1, aS x2)]) rfl (fun a S => ?_)
    refine hK5 _ _ ?_
    refine wp_ret ?_
    exact frm_retct rfl S (S.at 6 rfl) (i := 1) rfl Tryz.underlying27 rfl sz_Rat (S.at 0 rfl) ⟨_, rfl, ⟨b3, x4, y2, congrArg (fun z => Value.tuple #[(aG b3 x4 y2), .int .i64 z]) (show 0 = erz N by unfold erz; rw [if_neg (of_decide_eq_false hc7)]), hq2, Nat.le_trans hk5 (by omega), Nat.le_trans hk6 (by omega), (S.num 1 rfl), (S.num 0 rfl)⟩, S.below⟩
set_option maxRecDepth 100000 in
set_option maxHeartbeats 4000000 in
theorem p7Sign {K : Nat} {q : Rat} {v1 : Value} {V : World} (T : TT V) (h1 : Q1 K (q) v1 V) (hK0 : K ≤ 10000):
    Calls Tryz.prog 15 #[v1] V (Gives1 V (fun v _ => v = .int .i64 (cmpR q 0))) := by
  obtain ⟨b1, x1, y1, rfl, hq1, hk1, hk2, ok1, ok2⟩ := h1
  refine frm_body (e := [x1, y1]) Tryz.func15 rfl Tryz.ntmps15 (Nat.le_of_ble_eq_true rfl) [(0, (aG b1 x1 y1))] rfl (ok_cons ok1 (ok_cons ok2 ok_nil)) (fun a S => ?_)
  refine wp_seq_k fun K1 hK1 => ?_
  refine frm_plain ?_
  refine tl_box S (T := 27) (cs := (aL b1 x1 y1)) (rn_box rfl (S.at 0 rfl) rfl) rfl rfl rfl (by decide) (ls' := [(0, (aG b1 x1 y1))]) rfl (lb' := fun g1 => [⟨g1, 27, (aL b1 x1 y1)⟩]) (fun _ => rfl) (fun g1 a V1 hgg1 S => ?_)
  refine tl_val S (v := .int .i64 0) (rn_assignc rfl) rfl rfl (by decide) (ls' := [(1, pT g1 0), (0, (aG b1 x1 y1))]) rfl (fun a S => ?_)
  refine hK1 _ _ ?_
  refine wp_seq_k fun K2 hK2 => ?_
  have S := S.keep [2, 1] (ls' := [(2, .int .i64 0), (1, pT g1 0)]) rfl
  refine frm_plain ?_
  refine tl_val S (v := (aG b1 x1 y1)) (rn_load rfl (S.at 1 rfl) (S.bx 0 rfl) Tryz.underlying27 rfl (vs := (aL b1 x1 y1)) sz_Rat rfl) rfl rfl (by decide) (ls' := [(2, .int .i64 0), (1, pT g1 0)]) rfl (fun a S => ?_)
  refine tl_call S (rn_call1 ⟨_, rfl⟩ (S.at 0 rfl) (enters_of Tryz.func58 (by kernel_rfl) rfl)) (F := QM (max K 1) (q)) (p7reckon (show Q1 K (q) ((aG b1 x1 y1)) _ from ⟨b1, x1, y1, rfl, hq1, hk1, hk2, (S.num 0 rfl), (S.num 1 rfl)⟩) (by omega)) rfl rfl (by decide) (ls' := [(3, (aG b1 x1 y1)), (2, .int .i64 0), (1, pT g1 0)]) rfl (fun v a V2 hF hb S => ?_)
  obtain ⟨b2, x2, y2, rfl, hq2, hk3, hk4, ok3, ok4⟩ := hF
  have S := S.know ok3
  have S := S.know ok4
  refine tl_val S (v := (aZ b2 x2)) (rn_fieldv rfl (S.at 0 rfl) (fl_number _ _ _ _ _ _ _)) rfl rfl (by decide) (ls' := [(4, (aG b2 x2 y2)), (3, (aG b1 x1 y1)), (2, .int .i64 0), (1, pT g1 0)]) rfl (fun a S => ?_)
  refine tl_call S (rn_call1 ⟨_, rfl⟩ (S.at 0 rfl) (enters_of Tryz.func59 (by kernel_rfl) rfl)) (F := (fun v _ => v = .int .i64 (Int.sign (zOf b2 x2.N)))) (p7sign (T.keep S.below) (show Z1 (max K 1) (zOf b2 x2.N) ((aZ b2 x2)) _ from ⟨b2, x2, rfl, rfl, hk3, (S.num 1 rfl)⟩) (by omega)) rfl rfl (by decide) (ls' := [(5, (aZ b2 x2)), (4, (aG b2 x2 y2)), (3, (aG b1 x1 y1)), (2, .int .i64 0), (1, pT g1 0)]) rfl (fun v a V3 hF hb S => ?_)
  subst hF
  refine tl_val S (v := .int .i64 (Int.sign (zOf b2 x2.N))) (rn_assign rfl (S.at 0 rfl)) rfl rfl (by decide) (ls' := [(6, .int .i64 (Int.sign (zOf b2 x2.N))), (5, (aZ b2 x2)), (4, (aG b2 x2 y2)), (3, (aG b1 x1 y1)), (1, pT g1 0)]) rfl (fun a S => ?_)
  refine hK2 _ _ ?_
  refine wp_ret ?_
  exact frm_ret1 rfl S (S.at 0 rfl) ⟨_, rfl, congrArg (Value.int .i64) (sign_q hq2), S.below⟩
set_option maxRecDepth 100000 in
set_option maxHeartbeats 4000000 in
theorem p7Cmp {K K' : Nat} {q1 q2 : Rat} {v1 v2 : Value} {V : World} (T : TT V) (h1 : Q1 K (q1) v1 V) (h2 : Q1 K' (q2) v2 V) (hK0 : K ≤ 1000) (hK1 : K' ≤ 1000):
    Calls Tryz.prog 17 #[v1, v2] V (Gives1 V (fun v _ => v = .int .i64 (cmpR q1 q2))) := by
  obtain ⟨b1, x1, y1, rfl, hq1, hk1, hk2, ok1, ok2⟩ := h1
  obtain ⟨b2, x2, y2, rfl, hq2, hk3, hk4, ok3, ok4⟩ := h2
  refine frm_body (e := [x2, y2, x1, y1]) Tryz.func17 rfl Tryz.ntmps17 (Nat.le_of_ble_eq_true rfl) [(0, (aG b1 x1 y1)), (1, (aG b2 x2 y2))] rfl (ok_cons ok3 (ok_cons ok4 (ok_cons ok1 (ok_cons ok2 ok_nil)))) (fun a S => ?_)
  refine wp_seq_k fun K1 hK1 => ?_
  refine frm_plain ?_
  refine tl_box S (T := 27) (cs := (aL b1 x1 y1)) (rn_box rfl (S.at 0 rfl) rfl) rfl rfl rfl (by decide) (ls' := [(0, (aG b1 x1 y1)), (1, (aG b2 x2 y2))]) rfl (lb' := fun g1 => [⟨g1, 27, (aL b1 x1 y1)⟩]) (fun _ => rfl) (fun g1 a V1 hgg1 S => ?_)
  refine tl_box S (T := 27) (cs := (aL b2 x2 y2)) (rn_box rfl (S.at 2 rfl) rfl) rfl rfl rfl (by decide) (ls' := [(2, pT g1 0), (0, (aG b1 x1 y1)), (1, (aG b2 x2 y2))]) rfl (lb' := fun g2 => [⟨g1, 27, (aL b1 x1 y1)⟩, ⟨g2, 27, (aL b2 x2 y2)⟩]) (fun _ => rfl) (fun g2 a V2 hgg2 S => ?_)
  refine tl_val S (v := .int .i64 0) (rn_assignc rfl) rfl rfl (by decide) (ls' := [(3, pT g2 0), (2, pT g1 0), (0, (aG b1 x1 y1)), (1, (aG b2 x2 y2))]) rfl (fun a S => ?_)
  refine hK1 _ _ ?_
  refine wp_seq_k fun K2 hK2 => ?_
  have S := S.keep [4, 3, 2] (ls' := [(4, .int .i64 0), (3, pT g2 0), (2, pT g1 0)]) rfl
  obtain ⟨W1, hW1⟩ : ∃ W, W = V2 := ⟨_, rfl⟩
  rw [← hW1] at S ⊢
  have S0 := S
  refine frm_region 5 [5, 6, 7, 8, 9] (fun i v V => match i with
      | 0 => v = (aG b1 x1 y1)
      | 1 => QM (max K 1) (q1) v V
      | 2 => v = (aG b2 x2 y2)
      | 3 => QM (max K' 1) (q2) v V
      | _ => v = .int .i64 (cmpR q1 q2)) S (by kernel_rfl) (by kernel_rfl) rfl (by decide) rfl rfl ?_ ?_ ?_
  · intro i v V V2 hf hb
    match i, hf with
    | 0, hf => exact hf
    | 1, hf => exact QM.keep hf hb
    | 2, hf => exact hf
    | 3, hf => exact QM.keep hf hb
    | _ + 4, hf => exact hf
  · intro i t ht a V S hB hd
    match i, ht with
    | 0, ht =>
      cases ht
      exact so_val rfl rfl (wanted_free rfl) (rn_load rfl (S.at 2 rfl) (S.bx 0 rfl) Tryz.underlying27 rfl (vs := (aL b1 x1 y1)) sz_Rat rfl) rfl
    | 1, ht =>
      cases ht
      exact so_call rfl rfl (wanted_free rfl) (rn_call1 ⟨_, rfl⟩ (show tG a 5 <| (aG b1 x1 y1) from hd 0 5 rfl (by kernel_rfl)) (enters_of Tryz.func58 (by kernel_rfl) rfl)) (p7reckon (show Q1 K (q1) ((aG b1 x1 y1)) _ from ⟨b1, x1, y1, rfl, hq1, hk1, hk2, (S.num 2 rfl), (S.num 3 rfl)⟩) (by omega))
    | 2, ht =>
      cases ht
      exact so_val rfl rfl (wanted_free rfl) (rn_load rfl (S.at 1 rfl) (S.bx 1 rfl) Tryz.underlying27 rfl (vs := (aL b2 x2 y2)) sz_Rat rfl) rfl
    | 3, ht =>
      cases ht
      exact so_call rfl rfl (wanted_free rfl) (rn_call1 ⟨_, rfl⟩ (show tG a 7 <| (aG b2 x2 y2) from hd 2 7 rfl (by kernel_rfl)) (enters_of Tryz.func58 (by kernel_rfl) rfl)) (p7reckon (show Q1 K' (q2) ((aG b2 x2 y2)) _ from ⟨b2, x2, y2, rfl, hq2, hk3, hk4, (S.num 0 rfl), (S.num 1 rfl)⟩) (by omega))
    | 4, ht =>
      cases ht
      exact so_call rfl rfl (wanted_free rfl) (rn_call2 ⟨_, rfl⟩ rfl rfl (enters_of Tryz.func63 (by kernel_rfl) rfl)) (p7compare (T.keep S.below) (show QM (max K 1) (q1) (a.tmps.getD 6 undef) V from hd 1 6 rfl (by kernel_rfl)) (show QM (max K' 1) (q2) (a.tmps.getD 8 undef) V from hd 3 8 rfl (by kernel_rfl)) (by omega) (by omega))
    | k + 5, ht => simp at ht
  · intro a1 V3 S hB hf
    have S := S.add (show a1.tmps.getD 9 undef = .int .i64 (cmpR q1 q2) from hf 4 9 rfl)
    clear hf S0
    show wpList _ _ _ [_] _ _
    refine tl_val S (v := .int .i64 (cmpR q1 q2)) (rn_assign rfl (S.at 0 rfl)) rfl rfl (by decide) (ls' := [(9, .int .i64 (cmpR q1 q2)), (3, pT g2 0), (2, pT g1 0)]) rfl (fun a S => ?_)
    refine hK2 _ _ ?_
    refine wp_ret ?_
    exact frm_ret1 rfl S (S.at 0 rfl) ⟨_, rfl, rfl, S.below⟩
set_option maxRecDepth 100000 in
set_option maxHeartbeats 4000000 in
theorem p7Same {K K' : Nat} {q1 q2 : Rat} {v1 v2 : Value} {V : World} (T : TT V) (h1 : Q1 K (q1) v1 V) (h2 : Q1 K' (q2) v2 V) (hK0 : K ≤ 1000) (hK1 : K' ≤ 1000):
    Calls Tryz.prog 19 #[v1, v2] V (Gives1 V (fun v _ => v = .bool (decide (cmpR q1 q2 = 0)))) := by
  obtain ⟨b1, x1, y1, rfl, hq1, hk1, hk2, ok1, ok2⟩ := h1
  obtain ⟨b2, x2, y2, rfl, hq2, hk3, hk4, ok3, ok4⟩ := h2
  refine frm_body (e := [x2, y2, x1, y1]) Tryz.func19 rfl Tryz.ntmps19 (Nat.le_of_ble_eq_true rfl) [(0, (aG b1 x1 y1)), (1, (aG b2 x2 y2))] rfl (ok_cons ok3 (ok_cons ok4 (ok_cons ok1 (ok_cons ok2 ok_nil)))) (fun a S => ?_)
  refine wp_seq_k fun K1 hK1 => ?_
  refine frm_plain ?_
  refine tl_box S (T := 27) (cs := (aL b1 x1 y1)) (rn_box rfl (S.at 0 rfl) rfl) rfl rfl rfl (by decide) (ls' := [(0, (aG b1 x1 y1)), (1, (aG b2 x2 y2))]) rfl (lb' := fun g1 => [⟨g1, 27, (aL b1 x1 y1)⟩]) (fun _ => rfl) (fun g1 a V1 hgg1 S => ?_)
  refine tl_box S (T := 27) (cs := (aL b2 x2 y2)) (rn_box rfl (S.at 2 rfl) rfl) rfl rfl rfl (by decide) (ls' := [(2, pT g1 0), (0, (aG b1 x1 y1)), (1, (aG b2 x2 y2))]) rfl (lb' := fun g2 => [⟨g1, 27, (aL b1 x1 y1)⟩, ⟨g2, 27, (aL b2 x2 y2)⟩]) (fun _ => rfl) (fun g2 a V2 hgg2 S => ?_)
  refine tl_val S (v := .bool false) (rn_assignc rfl) rfl rfl (by decide) (ls' := [(3, pT g2 0), (2, pT g1 0), (0, (aG b1 x1 y1)), (1, (aG b2 x2 y2))]) rfl (fun a S => ?_)
  refine hK1 _ _ ?_
  refine wp_seq_k fun K2 hK2 => ?_
  have S := S.keep [4, 3, 2] (ls' := [(4, .bool false), (3, pT g2 0), (2, pT g1 0)]) rfl
  refine frm_plain ?_
  refine tl_val S (v := (aG b1 x1 y1)) (rn_load rfl (S.at 2 rfl) (S.bx 0 rfl) Tryz.underlying27 rfl (vs := (aL b1 x1 y1)) sz_Rat rfl) rfl rfl (by decide) (ls' := [(4, .bool false), (3, pT g2 0), (2, pT g1 0)]) rfl (fun a S => ?_)
  refine tl_val S (v := (aG b2 x2 y2)) (rn_load rfl (S.at 2 rfl) (S.bx 1 rfl) Tryz.underlying27 rfl (vs := (aL b2 x2 y2)) sz_Rat rfl) rfl rfl (by decide) (ls' := [(5, (aG b1 x1 y1)), (4, .bool false), (3, pT g2 0), (2, pT g1 0)]) rfl (fun a S => ?_)
  refine tl_call S (rn_call2 ⟨_, rfl⟩ (S.at 1 rfl) (S.at 0 rfl) (enters_of Tryz.func17 (by kernel_rfl) rfl)) (F := (fun v _ => v = .int .i64 (cmpR q1 q2))) (p7Cmp (T.keep S.below) (show Q1 K (q1) ((aG b1 x1 y1)) _ from ⟨b1, x1, y1, rfl, hq1, hk1, hk2, (S.num 2 rfl), (S.num 3 rfl)⟩) (show Q1 K' (q2) ((aG b2 x2 y2)) _ from ⟨b2, x2, y2, rfl, hq2, hk3, hk4, (S.num 0 rfl), (S.num 1 rfl)⟩) (by omega) (by omega)) rfl rfl (by decide) (ls' := [(6, (aG b2 x2 y2)), (5, (aG b1 x1 y1)), (4, .bool false), (3, pT g2 0), (2, pT g1 0)]) rfl (fun v a V3 hF hb S => ?_)
  subst hF
  refine tl_val S (v := .bool (decide (cmpR q1 q2 = 0))) (rn_eql _ (by decide) rfl (S.at 0 rfl) rfl) rfl rfl (by decide) (ls' := [(7, .int .i64 (cmpR q1 q2)), (6, (aG b2 x2 y2)), (5, (aG b1 x1 y1)), (4, .bool false), (3, pT g2 0), (2, pT g1 0)]) rfl (fun a S => ?_)
  refine tl_val S (v := .bool (decide (cmpR q1 q2 = 0))) (rn_assign rfl (S.at 0 rfl)) rfl rfl (by decide) (ls' := [(8, .bool (decide (cmpR q1 q2 = 0))), (7, .int .i64 (cmpR q1 q2)), (6, (aG b2 x2 y2)), (5, (aG b1 x1 y1)), (3, pT g2 0), (2, pT g1 0)]) rfl (fun a S => ?_)
  refine hK2 _ _ ?_
  refine wp_ret ?_
  exact frm_ret1 rfl S (S.at 0 rfl) ⟨_, rfl, rfl, S.below⟩
set_option maxRecDepth 100000 in
set_option maxHeartbeats 4000000 in
theorem p7Mid {K K' : Nat} {q1 q2 : Rat} {v1 v2 : Value} {V : World} (T : TT V) (h1 : Q1 K (q1) v1 V) (h2 : Q1 K' (q2) v2 V) (hK0 : K ≤ 1000) (hK1 : K' ≤ 1000):
    Calls Tryz.prog 35 #[v1, v2] V (Gives1 V (QT (max K 1 + max K' 1 + 2) ((q1 + q2) / 2))) := by
  obtain ⟨b1, x1, y1, rfl, hq1, hk1, hk2, ok1, ok2⟩ := h1
  obtain ⟨b2, x2, y2, rfl, hq2, hk3, hk4, ok3, ok4⟩ := h2
  refine frm_body (e := [x2, y2, x1, y1]) Tryz.func35 rfl Tryz.ntmps35 (Nat.le_of_ble_eq_true rfl) [(0, (aG b1 x1 y1)), (1, (aG b2 x2 y2))] rfl (ok_cons ok3 (ok_cons ok4 (ok_cons ok1 (ok_cons ok2 ok_nil)))) (fun a S => ?_)
  refine wp_seq_k fun K1 hK1 => ?_
  refine frm_plain ?_
  refine tl_box S (T := 27) (cs := (aL b1 x1 y1)) (rn_box rfl (S.at 0 rfl) rfl) rfl rfl rfl (by decide) (ls' := [(0, (aG b1 x1 y1)), (1, (aG b2 x2 y2))]) rfl (lb' := fun g1 => [⟨g1, 27, (aL b1 x1 y1)⟩]) (fun _ => rfl) (fun g1 a V1 hgg1 S => ?_)
  refine tl_box S (T := 27) (cs := (aL b2 x2 y2)) (rn_box rfl (S.at 2 rfl) rfl) rfl rfl rfl (by decide) (ls' := [(2, pT g1 0), (0, (aG b1 x1 y1)), (1, (aG b2 x2 y2))]) rfl (lb' := fun g2 => [⟨g1, 27, (aL b1 x1 y1)⟩, ⟨g2, 27, (aL b2 x2 y2)⟩]) (fun _ => rfl) (fun g2 a V2 hgg2 S => ?_)
  refine tl_box S (T := 27) (cs := [.bool false, .slice none 0 0, .slice none 0 0]) (rn_alloc rfl (Tryz.zeroValue27 _) rfl) rfl rfl rfl (by decide) (ls' := [(3, pT g2 0), (2, pT g1 0), (0, (aG b1 x1 y1)), (1, (aG b2 x2 y2))]) rfl (lb' := fun g3 => [⟨g1, 27, (aL b1 x1 y1)⟩, ⟨g2, 27, (aL b2 x2 y2)⟩, ⟨g3, 27, [.bool false, .slice none 0 0, .slice none 0 0]⟩]) (fun _ => rfl) (fun g3 a V3 hgg3 S => ?_)
  refine hK1 _ _ ?_
  refine wp_seq_k fun K2 hK2 => ?_
  have S := S.keep [4, 3, 2] (ls' := [(4, pT g3 0), (3, pT g2 0), (2, pT g1 0)]) rfl
  obtain ⟨W1, hW1⟩ : ∃ W, W = V3 := ⟨_, rfl⟩
  rw [← hW1] at S ⊢
  have S0 := S
  refine frm_region 6 [6, 7, 8, 9, 10, 5] (fun i v V => match i with
      | 0 => v = (aG b1 x1 y1)
      | 1 => QM (max K 1) (q1) v V
      | 2 => v = (aG b2 x2 y2)
      | 3 => QM (max K' 1) (q2) v V
      | 4 => QM ((max K 1) + (max K' 1) + 1) (q1 + q2) v V
      | _ => RBx (W1) (64) ([.bool false, .slice none 0 0, .slice none 0 0]) v V) S (by kernel_rfl) (by kernel_rfl) rfl (by decide) rfl rfl ?_ ?_ ?_
  · intro i v V V2 hf hb
    match i, hf with
    | 0, hf => exact hf
    | 1, hf => exact QM.keep hf hb
    | 2, hf => exact hf
    | 3, hf => exact QM.keep hf hb
    | 4, hf => exact QM.keep hf hb
    | _ + 5, hf => exact RBx.keep hf hb
  · intro i t ht a V S hB hd
    match i, ht with
    | 0, ht =>
      cases ht
      exact so_val rfl rfl (wanted_free rfl) (rn_load rfl (S.at 2 rfl) (S.bx 0 rfl) Tryz.underlying27 rfl (vs := (aL b1 x1 y1)) sz_Rat rfl) rfl
    | 1, ht =>
      cases ht
      exact so_call rfl rfl (wanted_free rfl) (rn_call1 ⟨_, rfl⟩ (show tG a 6 <| (aG b1 x1 y1) from hd 0 6 rfl (by kernel_rfl)) (enters_of Tryz.func58 (by kernel_rfl) rfl)) (p7reckon (show Q1 K (q1) ((aG b1 x1 y1)) _ from ⟨b1, x1, y1, rfl, hq1, hk1, hk2, (S.num 2 rfl), (S.num 3 rfl)⟩) (by omega))
    | 2, ht =>
      cases ht
      exact so_val rfl rfl (wanted_free rfl) (rn_load rfl (S.at 1 rfl) (S.bx 1 rfl) Tryz.underlying27 rfl (vs := (aL b2 x2 y2)) sz_Rat rfl) rfl
    | 3, ht =>
      cases ht
      exact so_call rfl rfl (wanted_free rfl) (rn_call1 ⟨_, rfl⟩ (show tG a 8 <| (aG b2 x2 y2) from hd 2 8 rfl (by kernel_rfl)) (enters_of Tryz.func58 (by kernel_rfl) rfl)) (p7reckon (show Q1 K' (q2) ((aG b2 x2 y2)) _ from ⟨b2, x2, y2, rfl, hq2, hk3, hk4, (S.num 0 rfl), (S.num 1 rfl)⟩) (by omega))
    | 4, ht =>
      cases ht
      exact so_call rfl rfl (wanted_free rfl) (rn_call2 ⟨_, rfl⟩ rfl rfl (enters_of Tryz.func71 (by kernel_rfl) rfl)) (p7plus (T.keep S.below) (show QM (max K 1) (q1) (a.tmps.getD 7 undef) V from hd 1 7 rfl (by kernel_rfl)) (show QM (max K' 1) (q2) (a.tmps.getD 9 undef) V from hd 3 9 rfl (by kernel_rfl)) (by omega) (by omega))
    | 5, ht =>
      cases ht
      exact so_lays rfl rfl (wanted_free rfl) (ly_box (cs := [.bool false, .slice none 0 0, .slice none 0 0]) (rn_alloc rfl (Tryz.zeroValue64 _) rfl) hB.size)
    | k + 6, ht => simp at ht
  · intro a1 V4 S hB hf
    obtain ⟨b3, x3, y3, hv1, hq3, hk5, hk6, ok5, ok6⟩ := (show QM ((max K 1) + (max K' 1) + 1) (q1 + q2) (a1.tmps.getD 10 undef) V4 from hf 4 10 rfl)
    have S := S.add hv1
    have S := S.know ok5
    have S := S.know ok6
    obtain ⟨g4, hvg4, hgg4, hbg4⟩ := (show RBx (W1) (64) ([.bool false, .slice none 0 0, .slice none 0 0]) (a1.tmps.getD 5 undef) V4 from hf 5 5 rfl)
    have S := Frm.box (S.add hvg4) S0 hgg4 hbg4 rfl
    have S : Frm 18 [(5, pT g4 0), (10, (aG b3 x3 y3)), (4, pT g3 0), (3, pT g2 0), (2, pT g1 0)] [⟨g1, 27, (aL b1 x1 y1)⟩, ⟨g2, 27, (aL b2 x2 y2)⟩, ⟨g3, 27, [.bool false, .slice none 0 0, .slice none 0 0]⟩, ⟨g4, 64, [.bool false, .slice none 0 0, .slice none 0 0]⟩] V _ _ _ := S
    clear hf S0
    show wpList _ _ _ [_] _ _
    refine tl_store S (i := 3) (vs := (aL b3 x3 y3)) rfl (fun ht => rn_store rfl (S.at 0 rfl) (S.at 1 rfl) sz_number rfl (Nat.le_of_ble_eq_true rfl) ht) (Nat.le_of_ble_eq_true rfl) rfl rfl rfl (lb' := [⟨g1, 27, (aL b1 x1 y1)⟩, ⟨g2, 27, (aL b2 x2 y2)⟩, ⟨g3, 27, [.bool false, .slice none 0 0, .slice none 0 0]⟩, ⟨g4, 64, (aL b3 x3 y3)⟩]) rfl (fun V5 S => ?_)
    refine hK2 _ _ ?_
    refine wp_seq_k fun K3 hK3 => ?_
    have S := S.keep [5, 4] (ls' := [(5, pT g4 0), (4, pT g3 0)]) rfl
    obtain ⟨W2, hW2⟩ : ∃ W, W = V5 := ⟨_, rfl⟩
    rw [← hW2] at S ⊢
    have S0 := S
    refine frm_region 7 [11, 12, 13, 14, 15, 16, 17] (fun i v V => match i with
        | 0 => v = pT g4 0
        | 1 => v = (aZ b3 x3)
        | 2 => v = pT g4 2
        | 3 => v = aS y3
        | 4 => NT (((max K 1) + (max K' 1) + 1) + 1) (y3.N * 2 ^ 1) v V
        | 5 => QA (max ((max K 1) + (max K' 1) + 1) (((max K 1) + (max K' 1) + 1) + 1)) (zOf b3 x3.N) (y3.N * 2 ^ 1) v V
        | _ => QT (max ((max K 1) + (max K' 1) + 1) (((max K 1) + (max K' 1) + 1) + 1)) ((q1 + q2) / 2) v V) S (by kernel_rfl) (by kernel_rfl) rfl (by decide) rfl rfl ?_ ?_ ?_
    · intro i v V V2 hf hb
      match i, hf with
      | 0, hf => exact hf
      | 1, hf => exact hf
      | 2, hf => exact hf
      | 3, hf => exact hf
      | 4, hf => exact NT.keep hf hb
      | 5, hf => exact QA.keep hf hb
      | _ + 6, hf => exact QT.keep hf hb
    · intro i t ht a V S hB hd
      match i, ht with
      | 0, ht =>
        cases ht
        exact so_val rfl rfl (wanted_free rfl) (rn_field rfl (S.at 0 rfl) (fa_number_0_0 _)) rfl
      | 1, ht =>
        cases ht
        exact so_val rfl rfl (wanted_free rfl) (rn_load rfl (show tG a 11 <| pT g4 0 from hd 0 11 rfl (by kernel_rfl)) (S.bx 3 rfl) Tryz.underlying62 rfl (vs := [.bool b3, aS x3]) sz_numerator rfl) rfl
      | 2, ht =>
        cases ht
        exact so_val rfl rfl (wanted_free rfl) (rn_field rfl (S.at 0 rfl) (fa_number_1_0 _)) rfl
      | 3, ht =>
        cases ht
        exact so_val rfl rfl (wanted_free rfl) (rn_load1 rfl (show tG a 13 <| pT g4 2 from hd 2 13 rfl (by kernel_rfl)) (S.bx 3 rfl) (Tryz.isAgg23 _) rfl) rfl
      | 4, ht =>
        cases ht
        exact so_call rfl rfl (wanted_free rfl) (rn_call1c ⟨_, rfl⟩ (show tG a 14 <| aS y3 from hd 3 14 rfl (by kernel_rfl)) (enters_of Tryz.func76 (by kernel_rfl) rfl)) (pUp (k := 1) (show N1 ((max K 1) + (max K' 1) + 1) (y3.N) (aS y3) _ from ⟨y3, rfl, rfl, hk6, (S.num 0 rfl)⟩) (by omega) (by omega))
      | 5, ht =>
        cases ht
        obtain ⟨v, hv, hq⟩ := qa_mk (T := 64) (K3 := (max ((max K 1) + (max K' 1) + 1) (((max K 1) + (max K' 1) + 1) + 1))) (by decide) (show Z1 ((max K 1) + (max K' 1) + 1) (zOf b3 x3.N) ((aZ b3 x3)) _ from ⟨b3, x3, rfl, rfl, hk5, (S.num 1 rfl)⟩) ((show NT (((max K 1) + (max K' 1) + 1) + 1) (y3.N * 2 ^ 1) (a.tmps.getD 15 undef) V from hd 4 15 rfl (by kernel_rfl))).any (by omega) (by omega)
        exact so_val rfl rfl (wanted_free rfl) (rn_build2 rfl (show tG a 12 <| (aZ b3 x3) from hd 1 12 rfl (by kernel_rfl)) rfl hv) hq
      | 6, ht =>
        cases ht
        exact so_call rfl rfl (wanted_free rfl) (rn_call1 ⟨_, rfl⟩ rfl (enters_of Tryz.func52 (by kernel_rfl) rfl)) (p7told (T.keep S.below) (((show QA (max ((max K 1) + (max K' 1) + 1) (((max K 1) + (max K' 1) + 1) + 1)) (zOf b3 x3.N) (y3.N * 2 ^ 1) (a.tmps.getD 16 undef) V from hd 5 16 rfl (by kernel_rfl))).qm (half_q hq3)) (by omega))
      | k + 7, ht => simp at ht
    · intro a2 V6 S hB hf
      obtain ⟨b4, x4, y4, hv2, hq4, hk7, hk8, ok7, ok8⟩ := (show QT (max ((max K 1) + (max K' 1) + 1) (((max K 1) + (max K' 1) + 1) + 1)) ((q1 + q2) / 2) (a2.tmps.getD 17 undef) V6 from hf 6 17 rfl)
      have S := S.add hv2
      have S := S.know ok7
      have S := S.know ok8
      clear hf S0
      show wpList _ _ _ [_] _ _
      refine tl_store S (i := 2) (vs := (aL b4 x4 y4)) rfl (fun ht => rn_store rfl (S.at 2 rfl) (S.at 0 rfl) sz_Rat rfl (Nat.le_of_ble_eq_true rfl) ht) (Nat.le_of_ble_eq_true rfl) rfl rfl rfl (lb' := [⟨g1, 27, (aL b1 x1 y1)⟩, ⟨g2, 27, (aL b2 x2 y2)⟩, ⟨g3, 27, (aL b4 x4 y4)⟩, ⟨g4, 64, (aL b3 x3 y3)⟩]) rfl (fun V7 S => ?_)
      refine hK3 _ _ ?_
      refine wp_ret ?_
      exact frm_retc rfl S (S.at 2 rfl) (i := 2) rfl Tryz.underlying27 rfl sz_Rat ⟨_, rfl, ((show QT (max ((max K 1) + (max K' 1) + 1) (((max K 1) + (max K' 1) + 1) + 1)) ((q1 + q2) / 2) ((aG b4 x4 y4)) _ from ⟨b4, x4, y4, rfl, hq4, hk7, hk8, (S.num 1 rfl), (S.num 0 rfl)⟩)).to (half_eq q1 q2) (by omega), S.below⟩
set_option maxRecDepth 100000 in
set_option maxHeartbeats 4000000 in
theorem p7Floor {K : Nat} {q : Rat} {v1 : Value} {V : World} (T : TT V) (h1 : Q1 K (q) v1 V) (hK0 : K ≤ 5000):
    Calls Tryz.prog 38 #[v1] V (Gives1 V (ZT (max K 1 + 1) q.floor)) := by
  obtain ⟨b1, x1, y1, rfl, hq1, hk1, hk2, ok1, ok2⟩ := h1
  refine frm_body (e := [x1, y1]) Tryz.func38 rfl Tryz.ntmps38 (Nat.le_of_ble_eq_true rfl) [(0, (aG b1 x1 y1))] rfl (ok_cons ok1 (ok_cons ok2 ok_nil)) (fun a S => ?_)
  refine wp_seq_k fun K1 hK1 => ?_
  refine frm_plain ?_
  refine tl_box S (T := 27) (cs := (aL b1 x1 y1)) (rn_box rfl (S.at 0 rfl) rfl) rfl rfl rfl (by decide) (ls' := [(0, (aG b1 x1 y1))]) rfl (lb' := fun g1 => [⟨g1, 27, (aL b1 x1 y1)⟩]) (fun _ => rfl) (fun g1 a V1 hgg1 S => ?_)
  refine tl_box S (T := 25) (cs := [.bool false, .slice none 0 0]) (rn_alloc rfl (Tryz.zeroValue25 _) rfl) rfl rfl rfl (by decide) (ls' := [(1, pT g1 0), (0, (aG b1 x1 y1))]) rfl (lb' := fun g2 => [⟨g1, 27, (aL b1 x1 y1)⟩, ⟨g2, 25, [.bool false, .slice none 0 0]⟩]) (fun _ => rfl) (fun g2 a V2 hgg2 S => ?_)
  refine hK1 _ _ ?_
  refine wp_seq_k fun K2 hK2 => ?_
  have S := S.keep [2, 1] (ls' := [(2, pT g2 0), (1, pT g1 0)]) rfl
  refine frm_plain ?_
  refine tl_val S (v := (aG b1 x1 y1)) (rn_load rfl (S.at 1 rfl) (S.bx 0 rfl) Tryz.underlying27 rfl (vs := (aL b1 x1 y1)) sz_Rat rfl) rfl rfl (by decide) (ls' := [(2, pT g2 0), (1, pT g1 0)]) rfl (fun a S => ?_)
  refine tl_call S (rn_call1 ⟨_, rfl⟩ (S.at 0 rfl) (enters_of Tryz.func58 (by kernel_rfl) rfl)) (F := QM (max K 1) (q)) (p7reckon (show Q1 K (q) ((aG b1 x1 y1)) _ from ⟨b1, x1, y1, rfl, hq1, hk1, hk2, (S.num 0 rfl), (S.num 1 rfl)⟩) (by omega)) rfl rfl (by decide) (ls' := [(7, (aG b1 x1 y1)), (2, pT g2 0), (1, pT g1 0)]) rfl (fun v a V3 hF hb S => ?_)
  obtain ⟨b2, x2, y2, rfl, hq2, hk3, hk4, ok3, ok4⟩ := hF
  have S := S.know ok3
  have S := S.know ok4
  refine tl_box S (T := 64) (cs := [.bool false, .slice none 0 0, .slice none 0 0]) (rn_alloc rfl (Tryz.zeroValue64 _) rfl) rfl rfl rfl (by decide) (ls' := [(8, (aG b2 x2 y2)), (7, (aG b1 x1 y1)), (2, pT g2 0), (1, pT g1 0)]) rfl (lb' := fun g3 => [⟨g1, 27, (aL b1 x1 y1)⟩, ⟨g2, 25, [.bool false, .slice none 0 0]⟩, ⟨g3, 64, [.bool false, .slice none 0 0, .slice none 0 0]⟩]) (fun _ => rfl) (fun g3 a V4 hgg3 S => ?_)
  refine tl_store S (i := 2) (vs := (aL b2 x2 y2)) rfl (fun ht => rn_store rfl (S.at 0 rfl) (S.at 1 rfl) sz_number rfl (Nat.le_of_ble_eq_true rfl) ht) (Nat.le_of_ble_eq_true rfl) rfl rfl rfl (lb' := [⟨g1, 27, (aL b1 x1 y1)⟩, ⟨g2, 25, [.bool false, .slice none 0 0]⟩, ⟨g3, 64, (aL b2 x2 y2)⟩]) rfl (fun V5 S => ?_)
  refine hK2 _ _ ?_
  refine wp_seq_k fun K3 hK3 => ?_
  have S := S.keep [3, 2] (ls' := [(3, pT g3 0), (2, pT g2 0)]) rfl
  refine frm_plain ?_
  refine tl_val S (v := pT g3 0) (rn_field rfl (S.at 0 rfl) (fa_number_0_0 _)) rfl rfl (by decide) (ls' := [(3, pT g3 0), (2, pT g2 0)]) rfl (fun a S => ?_)
  refine tl_val S (v := pT g3 0) (rn_field rfl (S.at 0 rfl) (fa_numerator_0_0 _)) rfl rfl (by decide) (ls' := [(10, pT g3 0), (3, pT g3 0), (2, pT g2 0)]) rfl (fun a S => ?_)
  refine tl_val S (v := (aZ b2 x2)) (rn_load rfl (S.at 0 rfl) (S.bx 2 rfl) Tryz.underlying25 rfl (vs := [.bool b2, aS x2]) sz_Int rfl) rfl rfl (by decide) (ls' := [(11, pT g3 0), (10, pT g3 0), (3, pT g3 0), (2, pT g2 0)]) rfl (fun a S => ?_)
  refine tl_val S (v := pT g3 2) (rn_field rfl (S.at 3 rfl) (fa_number_1_0 _)) rfl rfl (by decide) (ls' := [(12, (aZ b2 x2)), (11, pT g3 0), (10, pT g3 0), (3, pT g3 0), (2, pT g2 0)]) rfl (fun a S => ?_)
  refine tl_val S (v := aS y2) (rn_load1 rfl (S.at 0 rfl) (S.bx 2 rfl) (Tryz.isAgg23 _) rfl) rfl rfl (by decide) (ls' := [(13, pT g3 2), (12, (aZ b2 x2)), (11, pT g3 0), (10, pT g3 0), (3, pT g3 0), (2, pT g2 0)]) rfl (fun a S => ?_)
  refine tl_val S (v := (aZ false y2)) (rn_build1 rfl (S.at 0 rfl) (bd_Int1 _ _ _)) rfl rfl (by decide) (ls' := [(14, aS y2), (13, pT g3 2), (12, (aZ b2 x2)), (11, pT g3 0), (10, pT g3 0), (3, pT g3 0), (2, pT g2 0)]) rfl (fun a S => ?_)
  refine tl_call S (rn_call2 ⟨_, rfl⟩ (S.at 3 rfl) (S.at 0 rfl) (enters_of Tryz.func77 (by kernel_rfl) rfl)) (F := ZDiv (max K 1) (max K 1) (zOf b2 x2.N) (zOf false y2.N)) (psDiv (T.keep S.below) (show Z1 (max K 1) (zOf b2 x2.N) ((aZ b2 x2)) _ from ⟨b2, x2, rfl, rfl, hk3, (S.num 1 rfl)⟩) (show Z1 (max K 1) (zOf false y2.N) ((aZ false y2)) _ from ⟨false, y2, rfl, congrArg (zOf false) rfl, hk4, (S.num 0 rfl)⟩) (by omega) (by omega)) rfl rfl (by decide) (ls' := [(15, (aZ false y2)), (14, aS y2), (13, pT g3 2), (12, (aZ b2 x2)), (11, pT g3 0), (10, pT g3 0), (3, pT g3 0), (2, pT g2 0)]) rfl (fun v a V6 hF hb S => ?_)
  obtain ⟨tv1, tv2, rfl, tf1, tf2⟩ := hF
  obtain ⟨b3, x3, rfl, hz1, hk5, ok5⟩ := tf1
  obtain ⟨b4, x4, rfl, hz2, hk6, ok6⟩ := tf2
  have S := S.know ok6
  have S := S.know ok5
  refine tl_val S (v := .tuple #[(aZ b3 x3), (aZ b4 x4), .int .i64 (erq0 (zOf false y2.N))]) (rn_move rfl (S.at 0 rfl)) rfl rfl (by decide) (ls' := [(16, .tuple #[(aZ b3 x3), (aZ b4 x4), .int .i64 (erq0 (zOf false y2.N))]), (15, (aZ false y2)), (14, aS y2), (13, pT g3 2), (12, (aZ b2 x2)), (11, pT g3 0), (10, pT g3 0), (3, pT g3 0), (2, pT g2 0)]) rfl (fun a S => ?_)
  refine tl_val S (v := (aZ b3 x3)) (rn_extract rfl (S.at 0 rfl) rfl) rfl rfl (by decide) (ls' := [(9, .tuple #[(aZ b3 x3), (aZ b4 x4), .int .i64 (erq0 (zOf false y2.N))]), (16, .tuple #[(aZ b3 x3), (aZ b4 x4), .int .i64 (erq0 (zOf false y2.N))]), (15, (aZ false y2)), (14, aS y2), (13, pT g3 2), (12, (aZ b2 x2)), (11, pT g3 0), (10, pT g3 0), (3, pT g3 0), (2, pT g2 0)]) rfl (fun a S => ?_)
  refine tl_val S (v := (aZ b4 x4)) (rn_extract rfl (S.at 1 rfl) rfl) rfl rfl (by decide) (ls' := [(17, (aZ b3 x3)), (9, .tuple #[(aZ b3 x3), (aZ b4 x4), .int .i64 (erq0 (zOf false y2.N))]), (16, .tuple #[(aZ b3 x3), (aZ b4 x4), .int .i64 (erq0 (zOf false y2.N))]), (15, (aZ false y2)), (14, aS y2), (13, pT g3 2), (12, (aZ b2 x2)), (11, pT g3 0), (10, pT g3 0), (3, pT g3 0), (2, pT g2 0)]) rfl (fun a S => ?_)
  refine tl_val S (v := .int .i64 (erq0 (zOf false y2.N))) (rn_extract rfl (S.at 2 rfl) rfl) rfl rfl (by decide) (ls' := [(18, (aZ b4 x4)), (17, (aZ b3 x3)), (9, .tuple #[(aZ b3 x3), (aZ b4 x4), .int .i64 (erq0 (zOf false y2.N))]), (16, .tuple #[(aZ b3 x3), (aZ b4 x4), .int .i64 (erq0 (zOf false y2.N))]), (15, (aZ false y2)), (14, aS y2), (13, pT g3 2), (12, (aZ b2 x2)), (11, pT g3 0), (10, pT g3 0), (3, pT g3 0), (2, pT g2 0)]) rfl (fun a S => ?_)
  refine tl_box S (T := 25) (cs := [.bool false, .slice none 0 0]) (rn_alloc rfl (Tryz.zeroValue25 _) rfl) rfl rfl rfl (by decide) (ls' := [(19, .int .i64 (erq0 (zOf false y2.N))), (18, (aZ b4 x4)), (17, (aZ b3 x3)), (9, .tuple #[(aZ b3 x3), (aZ b4 x4), .int .i64 (erq0 (zOf false y2.N))]), (16, .tuple #[(aZ b3 x3), (aZ b4 x4), .int .i64 (erq0 (zOf false y2.N))]), (15, (aZ false y2)), (14, aS y2), (13, pT g3 2), (12, (aZ b2 x2)), (11, pT g3 0), (10, pT g3 0), (3, pT g3 0), (2, pT g2 0)]) rfl (lb' := fun g4 => [⟨g1, 27, (aL b1 x1 y1)⟩, ⟨g2, 25, [.bool false, .slice none 0 0]⟩, ⟨g3, 64, (aL b2 x2 y2)⟩, ⟨g4, 25, [.bool false, .slice none 0 0]⟩]) (fun _ => rfl) (fun g4 a V7 hgg4 S => ?_)
  refine tl_box S (T := 25) (cs := [.bool false, .slice none 0 0]) (rn_alloc rfl (Tryz.zeroValue25 _) rfl) rfl rfl rfl (by decide) (ls' := [(4, pT g4 0), (19, .int .i64 (erq0 (zOf false y2.N))), (18, (aZ b4 x4)), (17, (aZ b3 x3)), (9, .tuple #[(aZ b3 x3), (aZ b4 x4), .int .i64 (erq0 (zOf false y2.N))]), (16, .tuple #[(aZ b3 x3), (aZ b4 x4), .int .i64 (erq0 (zOf false y2.N))]), (15, (aZ false y2)), (14, aS y2), (13, pT g3 2), (12, (aZ b2 x2)), (11, pT g3 0), (10, pT g3 0), (3, pT g3 0), (2, pT g2 0)]) rfl (lb' := fun g5 => [⟨g1, 27, (aL b1 x1 y1)⟩, ⟨g2, 25, [.bool false, .slice none 0 0]⟩, ⟨g3, 64, (aL b2 x2 y2)⟩, ⟨g4, 25, [.bool false, .slice none 0 0]⟩, ⟨g5, 25, [.bool false, .slice none 0 0]⟩]) (fun _ => rfl) (fun g5 a V8 hgg5 S => ?_)
  refine tl_store S (i := 3) (vs := [.bool b3, aS x3]) rfl (fun ht => rn_store rfl (S.at 1 rfl) (S.at 4 rfl) sz_Int rfl (Nat.le_of_ble_eq_true rfl) ht) (Nat.le_of_ble_eq_true rfl) rfl rfl rfl (lb' := [⟨g1, 27, (aL b1 x1 y1)⟩, ⟨g2, 25, [.bool false, .slice none 0 0]⟩, ⟨g3, 64, (aL b2 x2 y2)⟩, ⟨g4, 25, [.bool b3, aS x3]⟩, ⟨g5, 25, [.bool false, .slice none 0 0]⟩]) rfl (fun V9 S => ?_)
  refine tl_store S (i := 4) (vs := [.bool b4, aS x4]) rfl (fun ht => rn_store rfl (S.at 0 rfl) (S.at 3 rfl) sz_Int rfl (Nat.le_of_ble_eq_true rfl) ht) (Nat.le_of_ble_eq_true rfl) rfl rfl rfl (lb' := [⟨g1, 27, (aL b1 x1 y1)⟩, ⟨g2, 25, [.bool false, .slice none 0 0]⟩, ⟨g3, 64, (aL b2 x2 y2)⟩, ⟨g4, 25, [.bool b3, aS x3]⟩, ⟨g5, 25, [.bool b4, aS x4]⟩]) rfl (fun V10 S => ?_)
  refine tl_val S (v := .int .i64 (erq0 (zOf false y2.N))) (rn_assign rfl (S.at 2 rfl)) rfl rfl (by decide) (ls' := [(5, pT g5 0), (4, pT g4 0), (19, .int .i64 (erq0 (zOf false y2.N))), (18, (aZ b4 x4)), (17, (aZ b3 x3)), (9, .tuple #[(aZ b3 x3), (aZ b4 x4), .int .i64 (erq0 (zOf false y2.N))]), (16, .tuple #[(aZ b3 x3), (aZ b4 x4), .int .i64 (erq0 (zOf false y2.N))]), (15, (aZ false y2)), (14, aS y2), (13, pT g3 2), (12, (aZ b2 x2)), (11, pT g3 0), (10, pT g3 0), (3, pT g3 0), (2, pT g2 0)]) rfl (fun a S => ?_)
  refine hK3 _ _ ?_
  refine wp_seq_k fun K4 hK4 => ?_
  have S := S.keep [4, 2] (ls' := [(4, pT g4 0), (2, pT g2 0)]) rfl
  refine frm_plain ?_
  refine tl_val S (v := (aZ b3 x3)) (rn_load rfl (S.at 0 rfl) (S.bx 3 rfl) Tryz.underlying25 rfl (vs := [.bool b3, aS x3]) sz_Int rfl) rfl rfl (by decide) (ls' := [(4, pT g4 0), (2, pT g2 0)]) rfl (fun a S => ?_)
  refine tl_store S (i := 1) (vs := [.bool b3, aS x3]) rfl (fun ht => rn_store rfl (S.at 2 rfl) (S.at 0 rfl) sz_Int rfl (Nat.le_of_ble_eq_true rfl) ht) (Nat.le_of_ble_eq_true rfl) rfl rfl rfl (lb' := [⟨g1, 27, (aL b1 x1 y1)⟩, ⟨g2, 25, [.bool b3, aS x3]⟩, ⟨g3, 64, (aL b2 x2 y2)⟩, ⟨g4, 25, [.bool b3, aS x3]⟩, ⟨g5, 25, [.bool b4, aS x4]⟩]) rfl (fun V11 S => ?_)
  refine hK4 _ _ ?_
  refine wp_ret ?_
  exact frm_retc rfl S (S.at 2 rfl) (i := 1) rfl Tryz.underlying25 rfl sz_Int ⟨_, rfl, ((show ZT ((max K 1) + 1) (Int.fdiv (zOf b2 x2.N) (zOf false y2.N)) ((aZ b3 x3)) _ from ⟨b3, x3, rfl, hz1, hk5, (S.num 0 rfl)⟩)).to (floor_mk hq2) (by omega), S.below⟩
end Go.Proofs.YtdajbmjknilmiaaGreatDoor
