/- RatNorm: what is told is normalised; a number that is written otherwise is told the same. -/
import Derived.Test.YtdajbmjknilmiaaGreatDoorGRatL
namespace Go.Proofs.YtdajbmjknilmiaaGreatDoor
open Go Go.RowKit
variable {v v' v1 v2 v3 : Value} {V V' : World} {K K' N M : Nat} {q q' q1 q2 : Rat} {Z Z' : Int}

theorem sizeQ1_le {b : Bool} {x y : Num} (h : great7 [(b, x, y)] = false) : x.n + y.n ≤ 40 := by
  have := (great7_false h).2
  simpa [sizeQ] using this
theorem len_same {y : Num} (h : y.n = lenL N) : (!decide (((lenL N : Nat) : Int) = ((y.n : Nat) : Int))) = false := by rw [h]; simp
theorem den_one (h : decide (Int.sign q.num = 0) = true) : q.den = 1 := by
  have h1 := of_decide_eq_true h
  have h2 : q.num = 0 := by
    rcases Int.lt_trichotomy q.num 0 with hz | hz | hz
    · rw [Int.sign_eq_neg_one_of_neg hz] at h1; omega
    · exact hz
    · rw [Int.sign_eq_one_of_pos hz] at h1; omega
  rw [Rat.num_eq_zero.1 h2]; rfl
theorem q_zero {b : Bool} {x y : Num} (h : y.N = 0) (hq : qOf b x.N y.N = q) : q = 0 := by
  rw [← hq, h]; simp [qOf]
theorem cross_q {b : Bool} {x y : Num} (h : y.N ≠ 0) (hq : qOf b x.N y.N = q) : q.num.natAbs * y.N = x.N * q.den := by
  have := cross_mkRat (z := zOf b x.N) h
  rw [zOf_abs] at this
  rw [← hq]; exact this
theorem den_le {b : Bool} {x y : Num} (h : y.N ≠ 0) (hq : qOf b x.N y.N = q) : q.den ≤ y.N := by
  have := (parts_le (z := zOf b x.N) (d := y.N)).2
  rw [← hq]
  unfold qOf
  omega
theorem cmpN_le {a b : Nat} (h : a ≤ b) : cmpN a b ≤ 0 := by
  unfold cmpN; split
  · decide
  · rw [if_neg (by omega)]; decide
theorem long_q {b b' : Bool} {x y x' y' : Num} {t : Nat} (ht : t ≠ 0) (h1 : zOf b' x'.N = zOf b (x.N * t)) (h2 : y'.N = y.N * t) (hq : qOf b x.N y.N = q) : qOf b' x'.N y'.N = q := by
  rw [← hq]
  unfold qOf
  rw [h1, h2]
  have e : zOf b (x.N * t) = zOf b x.N * (t : Int) := by cases b <;> simp [zOf, Int.neg_mul]
  rw [e]
  exact Rat.mkRat_mul_right ht
set_option maxRecDepth 100000 in
set_option maxHeartbeats 4000000 in
theorem rnorm_go (b0_ : Bool) (x0_ y0_ : Num) (z : Num) {V : World} (T : TT V) (ox0 : x0_.ok V V.heap.size) (oy0 : y0_.ok V V.heap.size) (oz : z.ok V V.heap.size) (hG : great7 [(b0_, x0_, y0_)] = false) (hlen : decide ((4 : Int) < ((z.n : Nat) : Int)) = false):
    Calls Tryz.prog 5 #[.agg #[.bool b0_, .slice x0_.A x0_.n x0_.c, .slice y0_.A y0_.n y0_.c], .slice z.A z.n z.c] V (Gives1 V (fun v _ => v = .bool true)) := by
  have hsz := sizeQ1_le hG
  have hkx0 : x0_.n ≤ 40 := by omega
  have hky0 : y0_.n ≤ 40 := by omega
  obtain ⟨q0, hqa0⟩ : ∃ q, qOf b0_ x0_.N y0_.N = q := ⟨_, rfl⟩
  have hlz : z.n ≤ 4 := by have := of_decide_eq_false hlen; omega
  refine frm_body (e := [z, x0_, y0_]) Tryz.func5 rfl Tryz.ntmps5 (Nat.le_of_ble_eq_true rfl) [(0, .agg #[.bool b0_, .slice x0_.A x0_.n x0_.c, .slice y0_.A y0_.n y0_.c]), (1, .slice z.A z.n z.c)] rfl (ok_cons oz (ok_cons ox0 (ok_cons oy0 ok_nil))) (fun a S => ?_)
  refine wp_seq_k fun K1 hK1 => ?_
  refine frm_plain ?_
  refine tl_box S (T := 27) (cs := [.bool b0_, .slice x0_.A x0_.n x0_.c, .slice y0_.A y0_.n y0_.c]) (rn_box rfl (S.at 0 rfl) rfl) rfl rfl rfl (by decide) (ls' := [(0, .agg #[.bool b0_, .slice x0_.A x0_.n x0_.c, .slice y0_.A y0_.n y0_.c]), (1, .slice z.A z.n z.c)]) rfl (lb' := fun g1 => [⟨g1, 27, [.bool b0_, .slice x0_.A x0_.n x0_.c, .slice y0_.A y0_.n y0_.c]⟩]) (fun _ => rfl) (fun g1 a V1 hgg1 S => ?_)
  refine tl_val S (v := .bool false) (rn_assignc rfl) rfl rfl (by decide) (ls' := [(2, .pointer (some ⟨g1, 0, none⟩)), (0, .agg #[.bool b0_, .slice x0_.A x0_.n x0_.c, .slice y0_.A y0_.n y0_.c]), (1, .slice z.A z.n z.c)]) rfl (fun a S => ?_)
  refine hK1 _ _ ?_
  refine wp_seq_k fun K2 hK2 => ?_
  refine wp_seq_k fun K3 hK3 => ?_
  have S := S.keep [2, 1] (ls' := [(2, .pointer (some ⟨g1, 0, none⟩)), (1, .slice z.A z.n z.c)]) rfl
  refine frm_plain ?_
  refine tl_val S (v := .agg #[.bool b0_, .slice x0_.A x0_.n x0_.c, .slice y0_.A y0_.n y0_.c]) (rn_load rfl (S.at 0 rfl) (S.bx 0 rfl) Tryz.underlying27 rfl (vs := [.bool b0_, .slice x0_.A x0_.n x0_.c, .slice y0_.A y0_.n y0_.c]) sz_Rat rfl) rfl rfl (by decide) (ls' := [(2, .pointer (some ⟨g1, 0, none⟩)), (1, .slice z.A z.n z.c)]) rfl (fun a S => ?_)
  refine tl_lays S (F := GL ([(b0_, x0_, y0_)])) (ly_grow1 rfl (S.at 0 rfl) (S.num 1 rfl) (S.num 2 rfl)) rfl rfl (by decide) (ls' := [(9, .agg #[.bool b0_, .slice x0_.A x0_.n x0_.c, .slice y0_.A y0_.n y0_.c]), (2, .pointer (some ⟨g1, 0, none⟩)), (1, .slice z.A z.n z.c)]) rfl (fun v a V2 hF hb S => ?_)
  obtain ⟨ov1, hov1⟩ : ∃ z, z = v := ⟨_, rfl⟩
  rw [← hov1] at hF S
  have rov1 := hF
  refine tl_call S (rn_call1 ⟨_, rfl⟩ (S.at 0 rfl) (enters_of Tryz.func8 (by kernel_rfl) rfl)) (F := (fun v _ => v = .bool false)) (l7Great rov1 hG) rfl rfl (by decide) (ls' := [(10, ov1), (9, .agg #[.bool b0_, .slice x0_.A x0_.n x0_.c, .slice y0_.A y0_.n y0_.c]), (2, .pointer (some ⟨g1, 0, none⟩)), (1, .slice z.A z.n z.c)]) rfl (fun v a V3 hF hb S => ?_)
  replace rov1 := rov1.keep hb
  subst hF
  refine tl_val S (v := .bool false) (rn_move rfl (S.at 0 rfl)) rfl rfl (by decide) (ls' := [(11, .bool false), (10, ov1), (9, .agg #[.bool b0_, .slice x0_.A x0_.n x0_.c, .slice y0_.A y0_.n y0_.c]), (2, .pointer (some ⟨g1, 0, none⟩)), (1, .slice z.A z.n z.c)]) rfl (fun a S => ?_)
  refine tl_valg S rfl rfl rfl (S.at 0 rfl) rfl (v := .slice z.A z.n z.c) (rn_move rfl (S.at 5 rfl)) rfl (by decide) (ls' := [(12, .bool false), (11, .bool false), (10, ov1), (9, .agg #[.bool b0_, .slice x0_.A x0_.n x0_.c, .slice y0_.A y0_.n y0_.c]), (2, .pointer (some ⟨g1, 0, none⟩)), (1, .slice z.A z.n z.c)]) rfl (fun a S => ?_)
  refine tl_valg S rfl rfl rfl (S.at 1 rfl) rfl (v := .int .i64 (((z.n : Nat) : Int))) (rn_len (by decide) rfl (S.at 0 rfl)) rfl (by decide) (ls' := [(13, .slice z.A z.n z.c), (12, .bool false), (11, .bool false), (10, ov1), (9, .agg #[.bool b0_, .slice x0_.A x0_.n x0_.c, .slice y0_.A y0_.n y0_.c]), (2, .pointer (some ⟨g1, 0, none⟩)), (1, .slice z.A z.n z.c)]) rfl (fun a S => ?_)
  refine tl_valg S rfl rfl rfl (S.at 2 rfl) rfl (v := .bool false) (rn_bool (rn_gtr rfl (S.at 0 rfl) rfl) (show (decide (4 < ((z.n : Nat) : Int))) = false from hlen)) rfl (by decide) (ls' := [(14, .int .i64 (((z.n : Nat) : Int))), (13, .slice z.A z.n z.c), (12, .bool false), (11, .bool false), (10, ov1), (9, .agg #[.bool b0_, .slice x0_.A x0_.n x0_.c, .slice y0_.A y0_.n y0_.c]), (2, .pointer (some ⟨g1, 0, none⟩)), (1, .slice z.A z.n z.c)]) rfl (fun a S => ?_)
  refine tl_val S (v := .bool false) (rn_pick false rfl (S.at 3 rfl) (S.at 0 rfl)) rfl rfl (by decide) (ls' := [(15, .bool false), (14, .int .i64 (((z.n : Nat) : Int))), (13, .slice z.A z.n z.c), (12, .bool false), (11, .bool false), (10, ov1), (9, .agg #[.bool b0_, .slice x0_.A x0_.n x0_.c, .slice y0_.A y0_.n y0_.c]), (2, .pointer (some ⟨g1, 0, none⟩)), (1, .slice z.A z.n z.c)]) rfl (fun a S => ?_)
  refine hK3 _ _ ?_
  refine wp_cond_false (S.at 0 rfl) ?_
  refine wp_skip ?_
  refine hK2 _ _ ?_
  refine wp_seq_k fun K4 hK4 => ?_
  have S := S.keep [2, 1] (ls' := [(2, .pointer (some ⟨g1, 0, none⟩)), (1, .slice z.A z.n z.c)]) rfl
  refine frm_plain ?_
  refine tl_val S (v := .agg #[.bool b0_, .slice x0_.A x0_.n x0_.c, .slice y0_.A y0_.n y0_.c]) (rn_load rfl (S.at 0 rfl) (S.bx 0 rfl) Tryz.underlying27 rfl (vs := [.bool b0_, .slice x0_.A x0_.n x0_.c, .slice y0_.A y0_.n y0_.c]) sz_Rat rfl) rfl rfl (by decide) (ls' := [(2, .pointer (some ⟨g1, 0, none⟩)), (1, .slice z.A z.n z.c)]) rfl (fun a S => ?_)
  refine tl_call S (rn_call1 ⟨_, rfl⟩ (S.at 0 rfl) (enters_of Tryz.func23 (by kernel_rfl) rfl)) (F := QT 40 (q0)) (p7Norm (T.keep S.below) (show Q1 40 (q0) (.agg #[.bool b0_, .slice x0_.A x0_.n x0_.c, .slice y0_.A y0_.n y0_.c]) _ from ⟨b0_, x0_, y0_, rfl, hqa0, hkx0, hky0, (S.num 1 rfl), (S.num 2 rfl)⟩) (by omega)) rfl rfl (by decide) (ls' := [(18, .agg #[.bool b0_, .slice x0_.A x0_.n x0_.c, .slice y0_.A y0_.n y0_.c]), (2, .pointer (some ⟨g1, 0, none⟩)), (1, .slice z.A z.n z.c)]) rfl (fun v a V4 hF hb S => ?_)
  obtain ⟨b1, x1, y1, rfl, hq1, hk1, hk2, ok1, ok2⟩ := hF
  have S := S.know ok1
  have S := S.know ok2
  refine tl_box S (T := 27) (cs := [.bool false, .slice none 0 0, .slice none 0 0]) (rn_alloc rfl (Tryz.zeroValue27 _) rfl) rfl rfl rfl (by decide) (ls' := [(19, .agg #[.bool b1, .slice x1.A x1.n x1.c, .slice y1.A y1.n y1.c]), (18, .agg #[.bool b0_, .slice x0_.A x0_.n x0_.c, .slice y0_.A y0_.n y0_.c]), (2, .pointer (some ⟨g1, 0, none⟩)), (1, .slice z.A z.n z.c)]) rfl (lb' := fun g2 => [⟨g1, 27, [.bool b0_, .slice x0_.A x0_.n x0_.c, .slice y0_.A y0_.n y0_.c]⟩, ⟨g2, 27, [.bool false, .slice none 0 0, .slice none 0 0]⟩]) (fun _ => rfl) (fun g2 a V5 hgg2 S => ?_)
  refine tl_store S (i := 1) (vs := [.bool b1, .slice x1.A x1.n x1.c, .slice y1.A y1.n y1.c]) rfl (fun ht => rn_store rfl (S.at 0 rfl) (S.at 1 rfl) sz_Rat rfl (Nat.le_of_ble_eq_true rfl) ht) (Nat.le_of_ble_eq_true rfl) rfl rfl rfl (lb' := [⟨g1, 27, [.bool b0_, .slice x0_.A x0_.n x0_.c, .slice y0_.A y0_.n y0_.c]⟩, ⟨g2, 27, [.bool b1, .slice x1.A x1.n x1.c, .slice y1.A y1.n y1.c]⟩]) rfl (fun V6 S => ?_)
  refine hK4 _ _ ?_
  refine wp_seq_k fun K5 hK5 => ?_
  refine wp_seq_k fun K6 hK6 => ?_
  have S := S.keep [5, 2, 1] (ls' := [(5, .pointer (some ⟨g2, 0, none⟩)), (2, .pointer (some ⟨g1, 0, none⟩)), (1, .slice z.A z.n z.c)]) rfl
  obtain ⟨W1, hW1⟩ : ∃ W, W = V6 := ⟨_, rfl⟩
  rw [← hW1] at S ⊢
  have S0 := S
  refine frm_region 24 [20, 21, 22, 23, 24, 25, 26, 27, 28, 29, 30, 31, 32, 33, 34, 35, 36, 37, 38, 39, 40, 41, 42, 43] (fun i v V => match i with
      | 0 => v = .pointer (some ⟨g2, 2, none⟩)
      | 1 => v = .slice y1.A y1.n y1.c
      | 2 => NT 40 ((q0).den) v V
      | 3 => v = .int .i64 (((lenL ((q0).den) : Nat) : Int))
      | 4 => v = .bool false
      | 5 => v = .bool false
      | 6 => v = .pointer (some ⟨g2, 2, none⟩)
      | 7 => v = .slice y1.A y1.n y1.c
      | 8 => NT 40 ((q0).den) v V
      | 9 => v = .int .i64 (((lenL ((q0).den) : Nat) : Int))
      | 10 => v = .pointer (some ⟨g2, 2, none⟩)
      | 11 => v = .slice y1.A y1.n y1.c
      | 12 => v = .int .i64 (((y1.n : Nat) : Int))
      | 13 => v = .bool false
      | 14 => v = .bool false
      | 15 => v = .bool false
      | 16 => v = .pointer (some ⟨g2, 0, none⟩)
      | 17 => v = .agg #[.bool b1, .slice x1.A x1.n x1.c]
      | 18 => v = .pointer (some ⟨g2, 0, none⟩)
      | 19 => v = .agg #[.bool b1, .slice x1.A x1.n x1.c]
      | 20 => ZT 40 ((q0).num) v V
      | 21 => v = .bool true
      | 22 => v = .bool false
      | _ => v = .bool false) S (by kernel_rfl) (by kernel_rfl) rfl (by decide) rfl rfl ?_ ?_ ?_
  · intro i v V V2 hf hb
    match i, hf with
    | 0, hf => exact hf
    | 1, hf => exact hf
    | 2, hf => exact NT.keep hf hb
    | 3, hf => exact hf
    | 4, hf => exact hf
    | 5, hf => exact hf
    | 6, hf => exact hf
    | 7, hf => exact hf
    | 8, hf => exact NT.keep hf hb
    | 9, hf => exact hf
    | 10, hf => exact hf
    | 11, hf => exact hf
    | 12, hf => exact hf
    | 13, hf => exact hf
    | 14, hf => exact hf
    | 15, hf => exact hf
    | 16, hf => exact hf
    | 17, hf => exact hf
    | 18, hf => exact hf
    | 19, hf => exact hf
    | 20, hf => exact ZT.keep hf hb
    | 21, hf => exact hf
    | 22, hf => exact hf
    | _ + 23, hf => exact hf
  · intro i t ht a V S hB hd
    match i, ht with
    | 0, ht =>
      cases ht
      exact so_val rfl rfl (wanted_free rfl) (rn_field rfl (S.at 0 rfl) (fa_Rat_1_0 _)) rfl
    | 1, ht =>
      cases ht
      exact so_val rfl rfl (wanted_free rfl) (rn_load1 rfl (show a.tmps.getD 20 undef = .pointer (some ⟨g2, 2, none⟩) from hd 0 20 rfl (by kernel_rfl)) (S.bx 1 rfl) (Tryz.isAgg23 _) rfl) rfl
    | 2, ht =>
      cases ht
      exact so_call rfl rfl (wanted_free rfl) (rn_call1 ⟨_, rfl⟩ (show a.tmps.getD 21 undef = .slice y1.A y1.n y1.c from hd 1 21 rfl (by kernel_rfl)) (enters_of Tryz.func40 (by kernel_rfl) rfl)) (c1Trim (show NT 40 ((q0).den) (.slice y1.A y1.n y1.c) _ from ⟨y1, rfl, hq1.2.2.2.1, (by rw [← hq1.2.2.2.1]; exact hq1.2.2.2.2), hk2, (S.num 0 rfl)⟩).any)
    | 3, ht =>
      cases ht
      exact so_val rfl rfl (wanted_free rfl) (rn_lenN (show NT 40 ((q0).den) (a.tmps.getD 22 undef) V from hd 2 22 rfl (by kernel_rfl)) rfl rfl) rfl
    | 4, ht =>
      cases ht
      exact so_val rfl rfl (wanted_free rfl) (rn_bool (rn_eql _ (by decide) rfl (show a.tmps.getD 23 undef = .int .i64 (((lenL ((q0).den) : Nat) : Int)) from hd 3 23 rfl (by kernel_rfl)) rfl) (show (decide (((lenL ((q0).den) : Nat) : Int) = 0)) = false from (decide_eq_false (by have := lenL_pos q0.den_nz; omega)))) rfl
    | 5, ht =>
      cases ht
      exact so_val rfl rfl (wanted_free rfl) (rn_move rfl (show a.tmps.getD 24 undef = .bool false from hd 4 24 rfl (by kernel_rfl))) rfl
    | 6, ht =>
      cases ht
      exact so_val rfl rfl ((wanted_if rfl rfl rfl (show a.tmps.getD 25 undef = .bool false from hd 5 25 rfl (by kernel_rfl))).trans rfl) (rn_field rfl (S.at 0 rfl) (fa_Rat_1_0 _)) rfl
    | 7, ht =>
      cases ht
      exact so_val rfl rfl ((wanted_if rfl rfl rfl (show a.tmps.getD 25 undef = .bool false from hd 5 25 rfl (by kernel_rfl))).trans rfl) (rn_load1 rfl (show a.tmps.getD 26 undef = .pointer (some ⟨g2, 2, none⟩) from hd 6 26 rfl (by kernel_rfl)) (S.bx 1 rfl) (Tryz.isAgg23 _) rfl) rfl
    | 8, ht =>
      cases ht
      exact so_call rfl rfl ((wanted_if rfl rfl rfl (show a.tmps.getD 25 undef = .bool false from hd 5 25 rfl (by kernel_rfl))).trans rfl) (rn_call1 ⟨_, rfl⟩ (show a.tmps.getD 27 undef = .slice y1.A y1.n y1.c from hd 7 27 rfl (by kernel_rfl)) (enters_of Tryz.func40 (by kernel_rfl) rfl)) (c1Trim (show NT 40 ((q0).den) (.slice y1.A y1.n y1.c) _ from ⟨y1, rfl, hq1.2.2.2.1, (by rw [← hq1.2.2.2.1]; exact hq1.2.2.2.2), hk2, (S.num 0 rfl)⟩).any)
    | 9, ht =>
      cases ht
      exact so_val rfl rfl ((wanted_if rfl rfl rfl (show a.tmps.getD 25 undef = .bool false from hd 5 25 rfl (by kernel_rfl))).trans rfl) (rn_lenN (show NT 40 ((q0).den) (a.tmps.getD 28 undef) V from hd 8 28 rfl (by kernel_rfl)) rfl rfl) rfl
    | 10, ht =>
      cases ht
      exact so_val rfl rfl ((wanted_if rfl rfl rfl (show a.tmps.getD 25 undef = .bool false from hd 5 25 rfl (by kernel_rfl))).trans rfl) (rn_field rfl (S.at 0 rfl) (fa_Rat_1_0 _)) rfl
    | 11, ht =>
      cases ht
      exact so_val rfl rfl ((wanted_if rfl rfl rfl (show a.tmps.getD 25 undef = .bool false from hd 5 25 rfl (by kernel_rfl))).trans rfl) (rn_load1 rfl (show a.tmps.getD 30 undef = .pointer (some ⟨g2, 2, none⟩) from hd 10 30 rfl (by kernel_rfl)) (S.bx 1 rfl) (Tryz.isAgg23 _) rfl) rfl
    | 12, ht =>
      cases ht
      exact so_val rfl rfl ((wanted_if rfl rfl rfl (show a.tmps.getD 25 undef = .bool false from hd 5 25 rfl (by kernel_rfl))).trans rfl) (rn_len (by decide) rfl (show a.tmps.getD 31 undef = .slice y1.A y1.n y1.c from hd 11 31 rfl (by kernel_rfl))) rfl
    | 13, ht =>
      cases ht
      exact so_val rfl rfl ((wanted_if rfl rfl rfl (show a.tmps.getD 25 undef = .bool false from hd 5 25 rfl (by kernel_rfl))).trans rfl) (rn_bool (rn_neq _ (by decide) rfl (show a.tmps.getD 29 undef = .int .i64 (((lenL ((q0).den) : Nat) : Int)) from hd 9 29 rfl (by kernel_rfl)) (show a.tmps.getD 32 undef = .int .i64 (((y1.n : Nat) : Int)) from hd 12 32 rfl (by kernel_rfl))) (show (!decide (((lenL ((q0).den) : Nat) : Int) = ((y1.n : Nat) : Int))) = false from (len_same (by rw [← hq1.2.2.2.1]; exact hq1.2.2.2.2)))) rfl
    | 14, ht =>
      cases ht
      exact so_val rfl rfl (wanted_free rfl) (rn_pick false rfl (show a.tmps.getD 25 undef = .bool false from hd 5 25 rfl (by kernel_rfl)) (show a.tmps.getD 33 undef = .bool false from hd 13 33 rfl (by kernel_rfl))) rfl
    | 15, ht =>
      cases ht
      exact so_val rfl rfl (wanted_free rfl) (rn_move rfl (show a.tmps.getD 34 undef = .bool false from hd 14 34 rfl (by kernel_rfl))) rfl
    | 16, ht =>
      cases ht
      exact so_val rfl rfl ((wanted_if rfl rfl rfl (show a.tmps.getD 35 undef = .bool false from hd 15 35 rfl (by kernel_rfl))).trans rfl) (rn_field rfl (S.at 0 rfl) (fa_Rat_0_0 _)) rfl
    | 17, ht =>
      cases ht
      exact so_val rfl rfl ((wanted_if rfl rfl rfl (show a.tmps.getD 35 undef = .bool false from hd 15 35 rfl (by kernel_rfl))).trans rfl) (rn_load rfl (show a.tmps.getD 36 undef = .pointer (some ⟨g2, 0, none⟩) from hd 16 36 rfl (by kernel_rfl)) (S.bx 1 rfl) Tryz.underlying25 rfl (vs := [.bool b1, .slice x1.A x1.n x1.c]) sz_Int rfl) rfl
    | 18, ht =>
      cases ht
      exact so_val rfl rfl ((wanted_if rfl rfl rfl (show a.tmps.getD 35 undef = .bool false from hd 15 35 rfl (by kernel_rfl))).trans rfl) (rn_field rfl (S.at 0 rfl) (fa_Rat_0_0 _)) rfl
    | 19, ht =>
      cases ht
      exact so_val rfl rfl ((wanted_if rfl rfl rfl (show a.tmps.getD 35 undef = .bool false from hd 15 35 rfl (by kernel_rfl))).trans rfl) (rn_load rfl (show a.tmps.getD 38 undef = .pointer (some ⟨g2, 0, none⟩) from hd 18 38 rfl (by kernel_rfl)) (S.bx 1 rfl) Tryz.underlying25 rfl (vs := [.bool b1, .slice x1.A x1.n x1.c]) sz_Int rfl) rfl
    | 20, ht =>
      cases ht
      exact so_call rfl rfl ((wanted_if rfl rfl rfl (show a.tmps.getD 35 undef = .bool false from hd 15 35 rfl (by kernel_rfl))).trans rfl) (rn_call1 ⟨_, rfl⟩ (show a.tmps.getD 39 undef = .agg #[.bool b1, .slice x1.A x1.n x1.c] from hd 19 39 rfl (by kernel_rfl)) (enters_of Tryz.func41 (by kernel_rfl) rfl)) (c5Norm (show ZT 40 ((q0).num) (.agg #[.bool b1, .slice x1.A x1.n x1.c]) _ from ⟨b1, x1, rfl, (show b1 = decide ((q0).num < 0) ∧ x1.N = (q0).num.natAbs ∧ x1.n = lenL (q0).num.natAbs from ⟨hq1.1, hq1.2.1, by rw [← hq1.2.1]; exact hq1.2.2.1⟩), hk1, (S.num 1 rfl)⟩).any)
    | 21, ht =>
      cases ht
      exact so_call rfl rfl ((wanted_if rfl rfl rfl (show a.tmps.getD 35 undef = .bool false from hd 15 35 rfl (by kernel_rfl))).trans rfl) (rn_call2 ⟨_, rfl⟩ (show a.tmps.getD 37 undef = .agg #[.bool b1, .slice x1.A x1.n x1.c] from hd 17 37 rfl (by kernel_rfl)) rfl (enters_of Tryz.func37 (by kernel_rfl) rfl)) (c5Told (show ZT 40 ((q0).num) (.agg #[.bool b1, .slice x1.A x1.n x1.c]) _ from ⟨b1, x1, rfl, (show b1 = decide ((q0).num < 0) ∧ x1.N = (q0).num.natAbs ∧ x1.n = lenL (q0).num.natAbs from ⟨hq1.1, hq1.2.1, by rw [← hq1.2.1]; exact hq1.2.2.1⟩), hk1, (S.num 1 rfl)⟩) (show ZT 40 ((q0).num) (a.tmps.getD 40 undef) V from hd 20 40 rfl (by kernel_rfl)) rfl)
    | 22, ht =>
      cases ht
      exact so_val rfl rfl ((wanted_if rfl rfl rfl (show a.tmps.getD 35 undef = .bool false from hd 15 35 rfl (by kernel_rfl))).trans rfl) (rn_not (b := true) rfl (show a.tmps.getD 41 undef = .bool true from hd 21 41 rfl (by kernel_rfl))) rfl
    | 23, ht =>
      cases ht
      exact so_val rfl rfl (wanted_free rfl) (rn_pick false rfl (show a.tmps.getD 35 undef = .bool false from hd 15 35 rfl (by kernel_rfl)) (show a.tmps.getD 42 undef = .bool false from hd 22 42 rfl (by kernel_rfl))) rfl
    | k + 24, ht => simp at ht
  · intro a1 V7 S hB hf
    have S := S.add (show a1.tmps.getD 43 undef = .bool false from hf 23 43 rfl)
    clear hf S0
    show wpList _ _ _ [] _ _
    refine hK6 _ _ ?_
    refine wp_cond_false (S.at 0 rfl) ?_
    refine wp_skip ?_
    refine hK5 _ _ ?_
    refine wp_seq_k fun K7 hK7 => ?_
    refine wp_seq_k fun K8 hK8 => ?_
    rcases Bool.eq_false_or_eq_true (decide (Int.sign q0.num = 0)) with hs0 | hs0
    · skip
      have S := S.keep [5, 2, 1] (ls' := [(5, .pointer (some ⟨g2, 0, none⟩)), (2, .pointer (some ⟨g1, 0, none⟩)), (1, .slice z.A z.n z.c)]) rfl
      refine frm_plain ?_
      refine tl_val S (v := .pointer (some ⟨g2, 0, none⟩)) (rn_field rfl (S.at 0 rfl) (fa_Rat_0_0 _)) rfl rfl (by decide) (ls' := [(5, .pointer (some ⟨g2, 0, none⟩)), (2, .pointer (some ⟨g1, 0, none⟩)), (1, .slice z.A z.n z.c)]) rfl (fun a S => ?_)
      refine tl_val S (v := .agg #[.bool b1, .slice x1.A x1.n x1.c]) (rn_load rfl (S.at 0 rfl) (S.bx 1 rfl) Tryz.underlying25 rfl (vs := [.bool b1, .slice x1.A x1.n x1.c]) sz_Int rfl) rfl rfl (by decide) (ls' := [(44, .pointer (some ⟨g2, 0, none⟩)), (5, .pointer (some ⟨g2, 0, none⟩)), (2, .pointer (some ⟨g1, 0, none⟩)), (1, .slice z.A z.n z.c)]) rfl (fun a S => ?_)
      refine tl_call S (rn_call1 ⟨_, rfl⟩ (S.at 0 rfl) (enters_of Tryz.func42 (by kernel_rfl) rfl)) (F := (fun v _ => v = .int .i64 (Int.sign ((q0).num)))) (c5Sign (show ZT 40 ((q0).num) (.agg #[.bool b1, .slice x1.A x1.n x1.c]) _ from ⟨b1, x1, rfl, (show b1 = decide ((q0).num < 0) ∧ x1.N = (q0).num.natAbs ∧ x1.n = lenL (q0).num.natAbs from ⟨hq1.1, hq1.2.1, by rw [← hq1.2.1]; exact hq1.2.2.1⟩), hk1, (S.num 1 rfl)⟩).any) rfl rfl (by decide) (ls' := [(45, .agg #[.bool b1, .slice x1.A x1.n x1.c]), (44, .pointer (some ⟨g2, 0, none⟩)), (5, .pointer (some ⟨g2, 0, none⟩)), (2, .pointer (some ⟨g1, 0, none⟩)), (1, .slice z.A z.n z.c)]) rfl (fun v a V8 hF hb S => ?_)
      subst hF
      refine tl_val S (v := .bool true) (rn_bool (rn_eql _ (by decide) rfl (S.at 0 rfl) rfl) (show (decide (Int.sign ((q0).num) = 0)) = true from hs0)) rfl rfl (by decide) (ls' := [(46, .int .i64 (Int.sign ((q0).num))), (45, .agg #[.bool b1, .slice x1.A x1.n x1.c]), (44, .pointer (some ⟨g2, 0, none⟩)), (5, .pointer (some ⟨g2, 0, none⟩)), (2, .pointer (some ⟨g1, 0, none⟩)), (1, .slice z.A z.n z.c)]) rfl (fun a S => ?_)
      refine tl_val S (v := .bool true) (rn_move rfl (S.at 0 rfl)) rfl rfl (by decide) (ls' := [(47, .bool true), (46, .int .i64 (Int.sign ((q0).num))), (45, .agg #[.bool b1, .slice x1.A x1.n x1.c]), (44, .pointer (some ⟨g2, 0, none⟩)), (5, .pointer (some ⟨g2, 0, none⟩)), (2, .pointer (some ⟨g1, 0, none⟩)), (1, .slice z.A z.n z.c)]) rfl (fun a S => ?_)
      refine tl_valg S rfl rfl rfl (S.at 0 rfl) rfl (v := .pointer (some ⟨g2, 2, none⟩)) (rn_field rfl (S.at 5 rfl) (fa_Rat_1_0 _)) rfl (by decide) (ls' := [(48, .bool true), (47, .bool true), (46, .int .i64 (Int.sign ((q0).num))), (45, .agg #[.bool b1, .slice x1.A x1.n x1.c]), (44, .pointer (some ⟨g2, 0, none⟩)), (5, .pointer (some ⟨g2, 0, none⟩)), (2, .pointer (some ⟨g1, 0, none⟩)), (1, .slice z.A z.n z.c)]) rfl (fun a S => ?_)
      refine tl_valg S rfl rfl rfl (S.at 1 rfl) rfl (v := .slice y1.A y1.n y1.c) (rn_load1 rfl (S.at 0 rfl) (S.bx 1 rfl) (Tryz.isAgg23 _) rfl) rfl (by decide) (ls' := [(49, .pointer (some ⟨g2, 2, none⟩)), (48, .bool true), (47, .bool true), (46, .int .i64 (Int.sign ((q0).num))), (45, .agg #[.bool b1, .slice x1.A x1.n x1.c]), (44, .pointer (some ⟨g2, 0, none⟩)), (5, .pointer (some ⟨g2, 0, none⟩)), (2, .pointer (some ⟨g1, 0, none⟩)), (1, .slice z.A z.n z.c)]) rfl (fun a S => ?_)
      refine tl_laysg S rfl rfl rfl (S.at 2 rfl) rfl (F := NT 1 ((1 : Nat))) (ly_oneT (c := 1) rfl (by decide) (by decide)) rfl (by decide) (ls' := [(50, .slice y1.A y1.n y1.c), (49, .pointer (some ⟨g2, 2, none⟩)), (48, .bool true), (47, .bool true), (46, .int .i64 (Int.sign ((q0).num))), (45, .agg #[.bool b1, .slice x1.A x1.n x1.c]), (44, .pointer (some ⟨g2, 0, none⟩)), (5, .pointer (some ⟨g2, 0, none⟩)), (2, .pointer (some ⟨g1, 0, none⟩)), (1, .slice z.A z.n z.c)]) rfl (fun v a V9 hF hb S => ?_)
      obtain ⟨x2, rfl, hN1, hn1, hk3, ok3⟩ := hF
      have S := S.know ok3
      refine tl_callg S rfl rfl rfl (S.at 3 rfl) rfl (rn_call2 ⟨_, rfl⟩ (S.at 1 rfl) (S.at 0 rfl) (enters_of Tryz.func43 (by kernel_rfl) rfl)) (F := (fun v _ => v = .bool true)) (c1Same (show NT 40 ((q0).den) (.slice y1.A y1.n y1.c) _ from ⟨y1, rfl, hq1.2.2.2.1, (by rw [← hq1.2.2.2.1]; exact hq1.2.2.2.2), hk2, (S.num 1 rfl)⟩) (show NT 1 ((1 : Nat)) (.slice x2.A x2.n x2.c) _ from ⟨x2, rfl, hN1, hn1, hk3, (S.num 0 rfl)⟩) (den_one hs0)) rfl (by decide) (ls' := [(51, .slice x2.A x2.n x2.c), (50, .slice y1.A y1.n y1.c), (49, .pointer (some ⟨g2, 2, none⟩)), (48, .bool true), (47, .bool true), (46, .int .i64 (Int.sign ((q0).num))), (45, .agg #[.bool b1, .slice x1.A x1.n x1.c]), (44, .pointer (some ⟨g2, 0, none⟩)), (5, .pointer (some ⟨g2, 0, none⟩)), (2, .pointer (some ⟨g1, 0, none⟩)), (1, .slice z.A z.n z.c)]) rfl (fun v a V10 hF hb S => ?_)
      subst hF
      refine tl_valg S rfl rfl rfl (S.at 4 rfl) rfl (v := .bool false) (rn_not (b := true) rfl (S.at 0 rfl)) rfl (by decide) (ls' := [(52, .bool true), (51, .slice x2.A x2.n x2.c), (50, .slice y1.A y1.n y1.c), (49, .pointer (some ⟨g2, 2, none⟩)), (48, .bool true), (47, .bool true), (46, .int .i64 (Int.sign ((q0).num))), (45, .agg #[.bool b1, .slice x1.A x1.n x1.c]), (44, .pointer (some ⟨g2, 0, none⟩)), (5, .pointer (some ⟨g2, 0, none⟩)), (2, .pointer (some ⟨g1, 0, none⟩)), (1, .slice z.A z.n z.c)]) rfl (fun a S => ?_)
      refine tl_val S (v := .bool false) (rn_pick true rfl (S.at 5 rfl) (S.at 0 rfl)) rfl rfl (by decide) (ls' := [(53, .bool false), (52, .bool true), (51, .slice x2.A x2.n x2.c), (50, .slice y1.A y1.n y1.c), (49, .pointer (some ⟨g2, 2, none⟩)), (48, .bool true), (47, .bool true), (46, .int .i64 (Int.sign ((q0).num))), (45, .agg #[.bool b1, .slice x1.A x1.n x1.c]), (44, .pointer (some ⟨g2, 0, none⟩)), (5, .pointer (some ⟨g2, 0, none⟩)), (2, .pointer (some ⟨g1, 0, none⟩)), (1, .slice z.A z.n z.c)]) rfl (fun a S => ?_)
      refine hK8 _ _ ?_
      refine wp_cond_false (S.at 0 rfl) ?_
      refine wp_skip ?_
      refine hK7 _ _ ?_
      refine wp_seq_k fun K9 hK9 => ?_
      refine wp_seq_k fun K10 hK10 => ?_
      have S := S.keep [5, 2, 1] (ls' := [(5, .pointer (some ⟨g2, 0, none⟩)), (2, .pointer (some ⟨g1, 0, none⟩)), (1, .slice z.A z.n z.c)]) rfl
      refine frm_plain ?_
      refine tl_val S (v := .pointer (some ⟨g1, 2, none⟩)) (rn_field rfl (S.at 1 rfl) (fa_Rat_1_0 _)) rfl rfl (by decide) (ls' := [(5, .pointer (some ⟨g2, 0, none⟩)), (2, .pointer (some ⟨g1, 0, none⟩)), (1, .slice z.A z.n z.c)]) rfl (fun a S => ?_)
      refine tl_val S (v := .slice y0_.A y0_.n y0_.c) (rn_load1 rfl (S.at 0 rfl) (S.bx 0 rfl) (Tryz.isAgg23 _) rfl) rfl rfl (by decide) (ls' := [(55, .pointer (some ⟨g1, 2, none⟩)), (5, .pointer (some ⟨g2, 0, none⟩)), (2, .pointer (some ⟨g1, 0, none⟩)), (1, .slice z.A z.n z.c)]) rfl (fun a S => ?_)
      refine tl_call S (rn_call1 ⟨_, rfl⟩ (S.at 0 rfl) (enters_of Tryz.func40 (by kernel_rfl) rfl)) (F := NT 40 (y0_.N)) (c1Trim (show N1 40 (y0_.N) (.slice y0_.A y0_.n y0_.c) _ from ⟨y0_, rfl, rfl, hky0, (S.num 5 rfl)⟩)) rfl rfl (by decide) (ls' := [(56, .slice y0_.A y0_.n y0_.c), (55, .pointer (some ⟨g1, 2, none⟩)), (5, .pointer (some ⟨g2, 0, none⟩)), (2, .pointer (some ⟨g1, 0, none⟩)), (1, .slice z.A z.n z.c)]) rfl (fun v a V11 hF hb S => ?_)
      obtain ⟨x3, rfl, hN2, hn2, hk4, ok4⟩ := hF
      have S := S.know ok4
      refine tl_val S (v := .int .i64 (((x3.n : Nat) : Int))) (rn_len (by decide) rfl (S.at 0 rfl)) rfl rfl (by decide) (ls' := [(57, .slice x3.A x3.n x3.c), (56, .slice y0_.A y0_.n y0_.c), (55, .pointer (some ⟨g1, 2, none⟩)), (5, .pointer (some ⟨g2, 0, none⟩)), (2, .pointer (some ⟨g1, 0, none⟩)), (1, .slice z.A z.n z.c)]) rfl (fun a S => ?_)
      refine tl_val S (v := .bool (decide (((x3.n : Nat) : Int) = 0))) (rn_eql _ (by decide) rfl (S.at 0 rfl) rfl) rfl rfl (by decide) (ls' := [(58, .int .i64 (((x3.n : Nat) : Int))), (57, .slice x3.A x3.n x3.c), (56, .slice y0_.A y0_.n y0_.c), (55, .pointer (some ⟨g1, 2, none⟩)), (5, .pointer (some ⟨g2, 0, none⟩)), (2, .pointer (some ⟨g1, 0, none⟩)), (1, .slice z.A z.n z.c)]) rfl (fun a S => ?_)
      refine hK10 _ _ ?_
      rcases Bool.eq_false_or_eq_true (decide (((x3.n : Nat) : Int) = 0)) with hc59 | hc59
      · refine wp_cond_true ((S.at 0 rfl).trans (congrArg Value.bool hc59)) ?_
        have hy0 : y0_.N = 0 := lenL_eq_zero.1 (by have := of_decide_eq_true hc59; have := hn2; omega)
        refine wp_seq_k fun K11 hK11 => ?_
        have S := S.keep [5] (ls' := [(5, .pointer (some ⟨g2, 0, none⟩))]) rfl
        obtain ⟨W2, hW2⟩ : ∃ W, W = V11 := ⟨_, rfl⟩
        rw [← hW2] at S ⊢
        have S0 := S
        refine frm_region 6 [60, 61, 62, 63, 64, 65] (fun i v V => match i with
            | 0 => v = .agg #[.bool b1, .slice x1.A x1.n x1.c, .slice y1.A y1.n y1.c]
            | 1 => QT 1 ((0 : Rat)) v V
            | 2 => v = .bool true
            | 3 => v = .bool true
            | 4 => v = .bool true
            | _ => v = .bool true) S (by kernel_rfl) (by kernel_rfl) rfl (by decide) rfl rfl ?_ ?_ ?_
        · intro i v V V2 hf hb
          match i, hf with
          | 0, hf => exact hf
          | 1, hf => exact QT.keep hf hb
          | 2, hf => exact hf
          | 3, hf => exact hf
          | 4, hf => exact hf
          | _ + 5, hf => exact hf
        · intro i t ht a V S hB hd
          match i, ht with
          | 0, ht =>
            cases ht
            exact so_val rfl rfl (wanted_free rfl) (rn_load rfl (S.at 0 rfl) (S.bx 1 rfl) Tryz.underlying27 rfl (vs := [.bool b1, .slice x1.A x1.n x1.c, .slice y1.A y1.n y1.c]) sz_Rat rfl) rfl
          | 1, ht =>
            cases ht
            exact so_call rfl rfl (wanted_free rfl) (rn_callc ⟨_, rfl⟩  (enters_of Tryz.func21 (by kernel_rfl) rfl)) p7Of0
          | 2, ht =>
            cases ht
            exact so_call rfl rfl (wanted_free rfl) (rn_call2 ⟨_, rfl⟩ (show a.tmps.getD 60 undef = .agg #[.bool b1, .slice x1.A x1.n x1.c, .slice y1.A y1.n y1.c] from hd 0 60 rfl (by kernel_rfl)) rfl (enters_of Tryz.func14 (by kernel_rfl) rfl)) (l7same (show QT 40 (q0) (.agg #[.bool b1, .slice x1.A x1.n x1.c, .slice y1.A y1.n y1.c]) _ from ⟨b1, x1, y1, rfl, hq1, hk1, hk2, (S.num 3 rfl), (S.num 2 rfl)⟩) (show QT 1 ((0 : Rat)) (a.tmps.getD 61 undef) V from hd 1 61 rfl (by kernel_rfl)) (q_zero hy0 hqa0))
          | 3, ht =>
            cases ht
            exact so_val rfl rfl (wanted_free rfl) (rn_move rfl (show a.tmps.getD 62 undef = .bool true from hd 2 62 rfl (by kernel_rfl))) rfl
          | 4, ht =>
            cases ht
            exact so_call rfl rfl ((wanted_if rfl rfl rfl (show a.tmps.getD 63 undef = .bool true from hd 3 63 rfl (by kernel_rfl))).trans rfl) (rn_call0 ⟨_, rfl⟩  (enters_of Tryz.func9 (by kernel_rfl) rfl)) (l7wakes (T.keep S.below))
          | 5, ht =>
            cases ht
            exact so_val rfl rfl (wanted_free rfl) (rn_pick true rfl (show a.tmps.getD 63 undef = .bool true from hd 3 63 rfl (by kernel_rfl)) (show a.tmps.getD 64 undef = .bool true from hd 4 64 rfl (by kernel_rfl))) rfl
          | k + 6, ht => simp at ht
        · intro a2 V12 S hB hf
          have S := S.add (show a2.tmps.getD 65 undef = .bool true from hf 5 65 rfl)
          clear hf S0
          show wpList _ _ _ [_] _ _
          refine tl_val S (v := .bool true) (rn_assign rfl (S.at 0 rfl)) rfl rfl (by decide) (ls' := [(65, .bool true), (5, .pointer (some ⟨g2, 0, none⟩))]) rfl (fun a S => ?_)
          refine hK11 _ _ ?_
          refine wp_ret ?_
          exact frm_ret1 rfl S (S.at 0 rfl) ⟨_, rfl, rfl, S.below⟩
      · refine wp_cond_false ((S.at 0 rfl).trans (congrArg Value.bool hc59)) ?_
        have hy0 : y0_.N ≠ 0 := fun h => by have h1 := of_decide_eq_false hc59; have h2 := hn2; rw [h, lenL_zero] at h2; omega
        refine wp_skip ?_
        refine hK9 _ _ ?_
        refine wp_seq_k fun K12 hK12 => ?_
        have S := S.keep [5, 2, 1] (ls' := [(5, .pointer (some ⟨g2, 0, none⟩)), (2, .pointer (some ⟨g1, 0, none⟩)), (1, .slice z.A z.n z.c)]) rfl
        refine frm_plain ?_
        refine tl_val S (v := .pointer (some ⟨g2, 0, none⟩)) (rn_field rfl (S.at 0 rfl) (fa_Rat_0_0 _)) rfl rfl (by decide) (ls' := [(5, .pointer (some ⟨g2, 0, none⟩)), (2, .pointer (some ⟨g1, 0, none⟩)), (1, .slice z.A z.n z.c)]) rfl (fun a S => ?_)
        refine tl_val S (v := .pointer (some ⟨g2, 1, none⟩)) (rn_field rfl (S.at 0 rfl) (fa_Int_1_0 _)) rfl rfl (by decide) (ls' := [(66, .pointer (some ⟨g2, 0, none⟩)), (5, .pointer (some ⟨g2, 0, none⟩)), (2, .pointer (some ⟨g1, 0, none⟩)), (1, .slice z.A z.n z.c)]) rfl (fun a S => ?_)
        refine tl_val S (v := .slice x1.A x1.n x1.c) (rn_load1 rfl (S.at 0 rfl) (S.bx 1 rfl) (Tryz.isAgg23 _) rfl) rfl rfl (by decide) (ls' := [(67, .pointer (some ⟨g2, 1, none⟩)), (66, .pointer (some ⟨g2, 0, none⟩)), (5, .pointer (some ⟨g2, 0, none⟩)), (2, .pointer (some ⟨g1, 0, none⟩)), (1, .slice z.A z.n z.c)]) rfl (fun a S => ?_)
        refine tl_val S (v := .pointer (some ⟨g1, 2, none⟩)) (rn_field rfl (S.at 4 rfl) (fa_Rat_1_0 _)) rfl rfl (by decide) (ls' := [(68, .slice x1.A x1.n x1.c), (67, .pointer (some ⟨g2, 1, none⟩)), (66, .pointer (some ⟨g2, 0, none⟩)), (5, .pointer (some ⟨g2, 0, none⟩)), (2, .pointer (some ⟨g1, 0, none⟩)), (1, .slice z.A z.n z.c)]) rfl (fun a S => ?_)
        refine tl_val S (v := .slice y0_.A y0_.n y0_.c) (rn_load1 rfl (S.at 0 rfl) (S.bx 0 rfl) (Tryz.isAgg23 _) rfl) rfl rfl (by decide) (ls' := [(69, .pointer (some ⟨g1, 2, none⟩)), (68, .slice x1.A x1.n x1.c), (67, .pointer (some ⟨g2, 1, none⟩)), (66, .pointer (some ⟨g2, 0, none⟩)), (5, .pointer (some ⟨g2, 0, none⟩)), (2, .pointer (some ⟨g1, 0, none⟩)), (1, .slice z.A z.n z.c)]) rfl (fun a S => ?_)
        refine tl_call S (rn_call2 ⟨_, rfl⟩ (S.at 2 rfl) (S.at 0 rfl) (enters_of Tryz.func44 (by kernel_rfl) rfl)) (F := NT 80 (((q0).num.natAbs) * y0_.N)) (c2Mul (show NT 40 ((q0).num.natAbs) (.slice x1.A x1.n x1.c) _ from ⟨x1, rfl, hq1.2.1, (by rw [← hq1.2.1]; exact hq1.2.2.1), hk1, (S.num 3 rfl)⟩).any (show N1 40 (y0_.N) (.slice y0_.A y0_.n y0_.c) _ from ⟨y0_, rfl, rfl, hky0, (S.num 6 rfl)⟩) (by decide) (by decide)) rfl rfl (by decide) (ls' := [(70, .slice y0_.A y0_.n y0_.c), (69, .pointer (some ⟨g1, 2, none⟩)), (68, .slice x1.A x1.n x1.c), (67, .pointer (some ⟨g2, 1, none⟩)), (66, .pointer (some ⟨g2, 0, none⟩)), (5, .pointer (some ⟨g2, 0, none⟩)), (2, .pointer (some ⟨g1, 0, none⟩)), (1, .slice z.A z.n z.c)]) rfl (fun v a V13 hF hb S => ?_)
        obtain ⟨x4, rfl, hN3, hn3, hk5, ok5⟩ := hF
        have S := S.know ok5
        refine tl_val S (v := .slice x4.A x4.n x4.c) (rn_assign rfl (S.at 0 rfl)) rfl rfl (by decide) (ls' := [(71, .slice x4.A x4.n x4.c), (70, .slice y0_.A y0_.n y0_.c), (69, .pointer (some ⟨g1, 2, none⟩)), (68, .slice x1.A x1.n x1.c), (67, .pointer (some ⟨g2, 1, none⟩)), (66, .pointer (some ⟨g2, 0, none⟩)), (5, .pointer (some ⟨g2, 0, none⟩)), (2, .pointer (some ⟨g1, 0, none⟩)), (1, .slice z.A z.n z.c)]) rfl (fun a S => ?_)
        refine hK12 _ _ ?_
        refine wp_seq_k fun K13 hK13 => ?_
        have S := S.keep [6, 5, 2, 1] (ls' := [(6, .slice x4.A x4.n x4.c), (5, .pointer (some ⟨g2, 0, none⟩)), (2, .pointer (some ⟨g1, 0, none⟩)), (1, .slice z.A z.n z.c)]) rfl
        refine frm_plain ?_
        refine tl_val S (v := .pointer (some ⟨g1, 0, none⟩)) (rn_field rfl (S.at 2 rfl) (fa_Rat_0_0 _)) rfl rfl (by decide) (ls' := [(6, .slice x4.A x4.n x4.c), (5, .pointer (some ⟨g2, 0, none⟩)), (2, .pointer (some ⟨g1, 0, none⟩)), (1, .slice z.A z.n z.c)]) rfl (fun a S => ?_)
        refine tl_val S (v := .pointer (some ⟨g1, 1, none⟩)) (rn_field rfl (S.at 0 rfl) (fa_Int_1_0 _)) rfl rfl (by decide) (ls' := [(72, .pointer (some ⟨g1, 0, none⟩)), (6, .slice x4.A x4.n x4.c), (5, .pointer (some ⟨g2, 0, none⟩)), (2, .pointer (some ⟨g1, 0, none⟩)), (1, .slice z.A z.n z.c)]) rfl (fun a S => ?_)
        refine tl_val S (v := .slice x0_.A x0_.n x0_.c) (rn_load1 rfl (S.at 0 rfl) (S.bx 0 rfl) (Tryz.isAgg23 _) rfl) rfl rfl (by decide) (ls' := [(73, .pointer (some ⟨g1, 1, none⟩)), (72, .pointer (some ⟨g1, 0, none⟩)), (6, .slice x4.A x4.n x4.c), (5, .pointer (some ⟨g2, 0, none⟩)), (2, .pointer (some ⟨g1, 0, none⟩)), (1, .slice z.A z.n z.c)]) rfl (fun a S => ?_)
        refine tl_val S (v := .pointer (some ⟨g2, 2, none⟩)) (rn_field rfl (S.at 4 rfl) (fa_Rat_1_0 _)) rfl rfl (by decide) (ls' := [(74, .slice x0_.A x0_.n x0_.c), (73, .pointer (some ⟨g1, 1, none⟩)), (72, .pointer (some ⟨g1, 0, none⟩)), (6, .slice x4.A x4.n x4.c), (5, .pointer (some ⟨g2, 0, none⟩)), (2, .pointer (some ⟨g1, 0, none⟩)), (1, .slice z.A z.n z.c)]) rfl (fun a S => ?_)
        refine tl_val S (v := .slice y1.A y1.n y1.c) (rn_load1 rfl (S.at 0 rfl) (S.bx 1 rfl) (Tryz.isAgg23 _) rfl) rfl rfl (by decide) (ls' := [(75, .pointer (some ⟨g2, 2, none⟩)), (74, .slice x0_.A x0_.n x0_.c), (73, .pointer (some ⟨g1, 1, none⟩)), (72, .pointer (some ⟨g1, 0, none⟩)), (6, .slice x4.A x4.n x4.c), (5, .pointer (some ⟨g2, 0, none⟩)), (2, .pointer (some ⟨g1, 0, none⟩)), (1, .slice z.A z.n z.c)]) rfl (fun a S => ?_)
        refine tl_call S (rn_call2 ⟨_, rfl⟩ (S.at 2 rfl) (S.at 0 rfl) (enters_of Tryz.func44 (by kernel_rfl) rfl)) (F := NT 80 (x0_.N * ((q0).den))) (c2Mul (show N1 40 (x0_.N) (.slice x0_.A x0_.n x0_.c) _ from ⟨x0_, rfl, rfl, hkx0, (S.num 6 rfl)⟩) (show NT 40 ((q0).den) (.slice y1.A y1.n y1.c) _ from ⟨y1, rfl, hq1.2.2.2.1, (by rw [← hq1.2.2.2.1]; exact hq1.2.2.2.2), hk2, (S.num 3 rfl)⟩).any (by decide) (by decide)) rfl rfl (by decide) (ls' := [(76, .slice y1.A y1.n y1.c), (75, .pointer (some ⟨g2, 2, none⟩)), (74, .slice x0_.A x0_.n x0_.c), (73, .pointer (some ⟨g1, 1, none⟩)), (72, .pointer (some ⟨g1, 0, none⟩)), (6, .slice x4.A x4.n x4.c), (5, .pointer (some ⟨g2, 0, none⟩)), (2, .pointer (some ⟨g1, 0, none⟩)), (1, .slice z.A z.n z.c)]) rfl (fun v a V14 hF hb S => ?_)
        obtain ⟨x5, rfl, hN4, hn4, hk6, ok6⟩ := hF
        have S := S.know ok6
        refine tl_val S (v := .slice x5.A x5.n x5.c) (rn_assign rfl (S.at 0 rfl)) rfl rfl (by decide) (ls' := [(77, .slice x5.A x5.n x5.c), (76, .slice y1.A y1.n y1.c), (75, .pointer (some ⟨g2, 2, none⟩)), (74, .slice x0_.A x0_.n x0_.c), (73, .pointer (some ⟨g1, 1, none⟩)), (72, .pointer (some ⟨g1, 0, none⟩)), (6, .slice x4.A x4.n x4.c), (5, .pointer (some ⟨g2, 0, none⟩)), (2, .pointer (some ⟨g1, 0, none⟩)), (1, .slice z.A z.n z.c)]) rfl (fun a S => ?_)
        refine hK13 _ _ ?_
        refine wp_seq_k fun K14 hK14 => ?_
        refine wp_seq_k fun K15 hK15 => ?_
        have S := S.keep [7, 6, 5, 2, 1] (ls' := [(7, .slice x5.A x5.n x5.c), (6, .slice x4.A x4.n x4.c), (5, .pointer (some ⟨g2, 0, none⟩)), (2, .pointer (some ⟨g1, 0, none⟩)), (1, .slice z.A z.n z.c)]) rfl
        refine frm_plain ?_
        refine tl_val S (v := .slice x4.A x4.n x4.c) (rn_move rfl (S.at 1 rfl)) rfl rfl (by decide) (ls' := [(7, .slice x5.A x5.n x5.c), (6, .slice x4.A x4.n x4.c), (5, .pointer (some ⟨g2, 0, none⟩)), (2, .pointer (some ⟨g1, 0, none⟩)), (1, .slice z.A z.n z.c)]) rfl (fun a S => ?_)
        refine tl_val S (v := .slice x5.A x5.n x5.c) (rn_move rfl (S.at 1 rfl)) rfl rfl (by decide) (ls' := [(78, .slice x4.A x4.n x4.c), (7, .slice x5.A x5.n x5.c), (6, .slice x4.A x4.n x4.c), (5, .pointer (some ⟨g2, 0, none⟩)), (2, .pointer (some ⟨g1, 0, none⟩)), (1, .slice z.A z.n z.c)]) rfl (fun a S => ?_)
        refine tl_call S (rn_call2 ⟨_, rfl⟩ (S.at 1 rfl) (S.at 0 rfl) (enters_of Tryz.func45 (by kernel_rfl) rfl)) (F := (fun v _ => v = .int .i64 (cmpN (((q0).num.natAbs) * y0_.N) (x0_.N * ((q0).den))))) (c1Cmp (show NT 80 (((q0).num.natAbs) * y0_.N) (.slice x4.A x4.n x4.c) _ from ⟨x4, rfl, hN3, hn3, hk5, (S.num 1 rfl)⟩).any (show NT 80 (x0_.N * ((q0).den)) (.slice x5.A x5.n x5.c) _ from ⟨x5, rfl, hN4, hn4, hk6, (S.num 0 rfl)⟩).any) rfl rfl (by decide) (ls' := [(79, .slice x5.A x5.n x5.c), (78, .slice x4.A x4.n x4.c), (7, .slice x5.A x5.n x5.c), (6, .slice x4.A x4.n x4.c), (5, .pointer (some ⟨g2, 0, none⟩)), (2, .pointer (some ⟨g1, 0, none⟩)), (1, .slice z.A z.n z.c)]) rfl (fun v a V15 hF hb S => ?_)
        subst hF
        refine tl_val S (v := .bool false) (rn_bool (rn_neq _ (by decide) rfl (S.at 0 rfl) rfl) (show (!decide (cmpN (((q0).num.natAbs) * y0_.N) (x0_.N * ((q0).den)) = 0)) = false from (by rw [cmpN_zero.2 (cross_q hy0 hqa0)]; rfl))) rfl rfl (by decide) (ls' := [(80, .int .i64 (cmpN (((q0).num.natAbs) * y0_.N) (x0_.N * ((q0).den)))), (79, .slice x5.A x5.n x5.c), (78, .slice x4.A x4.n x4.c), (7, .slice x5.A x5.n x5.c), (6, .slice x4.A x4.n x4.c), (5, .pointer (some ⟨g2, 0, none⟩)), (2, .pointer (some ⟨g1, 0, none⟩)), (1, .slice z.A z.n z.c)]) rfl (fun a S => ?_)
        refine tl_val S (v := .bool false) (rn_move rfl (S.at 0 rfl)) rfl rfl (by decide) (ls' := [(81, .bool false), (80, .int .i64 (cmpN (((q0).num.natAbs) * y0_.N) (x0_.N * ((q0).den)))), (79, .slice x5.A x5.n x5.c), (78, .slice x4.A x4.n x4.c), (7, .slice x5.A x5.n x5.c), (6, .slice x4.A x4.n x4.c), (5, .pointer (some ⟨g2, 0, none⟩)), (2, .pointer (some ⟨g1, 0, none⟩)), (1, .slice z.A z.n z.c)]) rfl (fun a S => ?_)
        refine tl_valg S rfl rfl rfl (S.at 0 rfl) rfl (v := .pointer (some ⟨g2, 2, none⟩)) (rn_field rfl (S.at 7 rfl) (fa_Rat_1_0 _)) rfl (by decide) (ls' := [(82, .bool false), (81, .bool false), (80, .int .i64 (cmpN (((q0).num.natAbs) * y0_.N) (x0_.N * ((q0).den)))), (79, .slice x5.A x5.n x5.c), (78, .slice x4.A x4.n x4.c), (7, .slice x5.A x5.n x5.c), (6, .slice x4.A x4.n x4.c), (5, .pointer (some ⟨g2, 0, none⟩)), (2, .pointer (some ⟨g1, 0, none⟩)), (1, .slice z.A z.n z.c)]) rfl (fun a S => ?_)
        refine tl_valg S rfl rfl rfl (S.at 1 rfl) rfl (v := .slice y1.A y1.n y1.c) (rn_load1 rfl (S.at 0 rfl) (S.bx 1 rfl) (Tryz.isAgg23 _) rfl) rfl (by decide) (ls' := [(83, .pointer (some ⟨g2, 2, none⟩)), (82, .bool false), (81, .bool false), (80, .int .i64 (cmpN (((q0).num.natAbs) * y0_.N) (x0_.N * ((q0).den)))), (79, .slice x5.A x5.n x5.c), (78, .slice x4.A x4.n x4.c), (7, .slice x5.A x5.n x5.c), (6, .slice x4.A x4.n x4.c), (5, .pointer (some ⟨g2, 0, none⟩)), (2, .pointer (some ⟨g1, 0, none⟩)), (1, .slice z.A z.n z.c)]) rfl (fun a S => ?_)
        refine tl_valg S rfl rfl rfl (S.at 2 rfl) rfl (v := .pointer (some ⟨g1, 2, none⟩)) (rn_field rfl (S.at 10 rfl) (fa_Rat_1_0 _)) rfl (by decide) (ls' := [(84, .slice y1.A y1.n y1.c), (83, .pointer (some ⟨g2, 2, none⟩)), (82, .bool false), (81, .bool false), (80, .int .i64 (cmpN (((q0).num.natAbs) * y0_.N) (x0_.N * ((q0).den)))), (79, .slice x5.A x5.n x5.c), (78, .slice x4.A x4.n x4.c), (7, .slice x5.A x5.n x5.c), (6, .slice x4.A x4.n x4.c), (5, .pointer (some ⟨g2, 0, none⟩)), (2, .pointer (some ⟨g1, 0, none⟩)), (1, .slice z.A z.n z.c)]) rfl (fun a S => ?_)
        refine tl_valg S rfl rfl rfl (S.at 3 rfl) rfl (v := .slice y0_.A y0_.n y0_.c) (rn_load1 rfl (S.at 0 rfl) (S.bx 0 rfl) (Tryz.isAgg23 _) rfl) rfl (by decide) (ls' := [(85, .pointer (some ⟨g1, 2, none⟩)), (84, .slice y1.A y1.n y1.c), (83, .pointer (some ⟨g2, 2, none⟩)), (82, .bool false), (81, .bool false), (80, .int .i64 (cmpN (((q0).num.natAbs) * y0_.N) (x0_.N * ((q0).den)))), (79, .slice x5.A x5.n x5.c), (78, .slice x4.A x4.n x4.c), (7, .slice x5.A x5.n x5.c), (6, .slice x4.A x4.n x4.c), (5, .pointer (some ⟨g2, 0, none⟩)), (2, .pointer (some ⟨g1, 0, none⟩)), (1, .slice z.A z.n z.c)]) rfl (fun a S => ?_)
        refine tl_callg S rfl rfl rfl (S.at 4 rfl) rfl (rn_call2 ⟨_, rfl⟩ (S.at 2 rfl) (S.at 0 rfl) (enters_of Tryz.func45 (by kernel_rfl) rfl)) (F := (fun v _ => v = .int .i64 (cmpN ((q0).den) y0_.N))) (c1Cmp (show NT 40 ((q0).den) (.slice y1.A y1.n y1.c) _ from ⟨y1, rfl, hq1.2.2.2.1, (by rw [← hq1.2.2.2.1]; exact hq1.2.2.2.2), hk2, (S.num 4 rfl)⟩).any (show N1 40 (y0_.N) (.slice y0_.A y0_.n y0_.c) _ from ⟨y0_, rfl, rfl, hky0, (S.num 8 rfl)⟩)) rfl (by decide) (ls' := [(86, .slice y0_.A y0_.n y0_.c), (85, .pointer (some ⟨g1, 2, none⟩)), (84, .slice y1.A y1.n y1.c), (83, .pointer (some ⟨g2, 2, none⟩)), (82, .bool false), (81, .bool false), (80, .int .i64 (cmpN (((q0).num.natAbs) * y0_.N) (x0_.N * ((q0).den)))), (79, .slice x5.A x5.n x5.c), (78, .slice x4.A x4.n x4.c), (7, .slice x5.A x5.n x5.c), (6, .slice x4.A x4.n x4.c), (5, .pointer (some ⟨g2, 0, none⟩)), (2, .pointer (some ⟨g1, 0, none⟩)), (1, .slice z.A z.n z.c)]) rfl (fun v a V16 hF hb S => ?_)
        subst hF
        refine tl_valg S rfl rfl rfl (S.at 5 rfl) rfl (v := .bool false) (rn_bool (rn_gtr rfl (S.at 0 rfl) rfl) (show (decide (0 < cmpN ((q0).den) y0_.N)) = false from (decide_eq_false (by have := cmpN_le (den_le hy0 hqa0); omega)))) rfl (by decide) (ls' := [(87, .int .i64 (cmpN ((q0).den) y0_.N)), (86, .slice y0_.A y0_.n y0_.c), (85, .pointer (some ⟨g1, 2, none⟩)), (84, .slice y1.A y1.n y1.c), (83, .pointer (some ⟨g2, 2, none⟩)), (82, .bool false), (81, .bool false), (80, .int .i64 (cmpN (((q0).num.natAbs) * y0_.N) (x0_.N * ((q0).den)))), (79, .slice x5.A x5.n x5.c), (78, .slice x4.A x4.n x4.c), (7, .slice x5.A x5.n x5.c), (6, .slice x4.A x4.n x4.c), (5, .pointer (some ⟨g2, 0, none⟩)), (2, .pointer (some ⟨g1, 0, none⟩)), (1, .slice z.A z.n z.c)]) rfl (fun a S => ?_)
        refine tl_val S (v := .bool false) (rn_pick false rfl (S.at 6 rfl) (S.at 0 rfl)) rfl rfl (by decide) (ls' := [(88, .bool false), (87, .int .i64 (cmpN ((q0).den) y0_.N)), (86, .slice y0_.A y0_.n y0_.c), (85, .pointer (some ⟨g1, 2, none⟩)), (84, .slice y1.A y1.n y1.c), (83, .pointer (some ⟨g2, 2, none⟩)), (82, .bool false), (81, .bool false), (80, .int .i64 (cmpN (((q0).num.natAbs) * y0_.N) (x0_.N * ((q0).den)))), (79, .slice x5.A x5.n x5.c), (78, .slice x4.A x4.n x4.c), (7, .slice x5.A x5.n x5.c), (6, .slice x4.A x4.n x4.c), (5, .pointer (some ⟨g2, 0, none⟩)), (2, .pointer (some ⟨g1, 0, none⟩)), (1, .slice z.A z.n z.c)]) rfl (fun a S => ?_)
        refine hK15 _ _ ?_
        refine wp_cond_false (S.at 0 rfl) ?_
        refine wp_skip ?_
        refine hK14 _ _ ?_
        refine wp_seq_k fun K16 hK16 => ?_
        refine wp_seq_k fun K17 hK17 => ?_
        have S := S.keep [5, 2, 1] (ls' := [(5, .pointer (some ⟨g2, 0, none⟩)), (2, .pointer (some ⟨g1, 0, none⟩)), (1, .slice z.A z.n z.c)]) rfl
        refine frm_plain ?_
        refine tl_val S (v := .slice z.A z.n z.c) (rn_move rfl (S.at 2 rfl)) rfl rfl (by decide) (ls' := [(5, .pointer (some ⟨g2, 0, none⟩)), (2, .pointer (some ⟨g1, 0, none⟩)), (1, .slice z.A z.n z.c)]) rfl (fun a S => ?_)
        refine tl_call S (rn_call1 ⟨_, rfl⟩ (S.at 0 rfl) (enters_of Tryz.func40 (by kernel_rfl) rfl)) (F := NT 4 (z.N)) (c1Trim (show N1 4 (z.N) (.slice z.A z.n z.c) _ from ⟨z, rfl, rfl, hlz, (S.num 6 rfl)⟩)) rfl rfl (by decide) (ls' := [(90, .slice z.A z.n z.c), (5, .pointer (some ⟨g2, 0, none⟩)), (2, .pointer (some ⟨g1, 0, none⟩)), (1, .slice z.A z.n z.c)]) rfl (fun v a V17 hF hb S => ?_)
        obtain ⟨x6, rfl, hN5, hn5, hk7, ok7⟩ := hF
        have S := S.know ok7
        refine tl_val S (v := .int .i64 (((x6.n : Nat) : Int))) (rn_len (by decide) rfl (S.at 0 rfl)) rfl rfl (by decide) (ls' := [(91, .slice x6.A x6.n x6.c), (90, .slice z.A z.n z.c), (5, .pointer (some ⟨g2, 0, none⟩)), (2, .pointer (some ⟨g1, 0, none⟩)), (1, .slice z.A z.n z.c)]) rfl (fun a S => ?_)
        refine tl_val S (v := .bool (decide (((x6.n : Nat) : Int) = 0))) (rn_eql _ (by decide) rfl (S.at 0 rfl) rfl) rfl rfl (by decide) (ls' := [(92, .int .i64 (((x6.n : Nat) : Int))), (91, .slice x6.A x6.n x6.c), (90, .slice z.A z.n z.c), (5, .pointer (some ⟨g2, 0, none⟩)), (2, .pointer (some ⟨g1, 0, none⟩)), (1, .slice z.A z.n z.c)]) rfl (fun a S => ?_)
        refine hK17 _ _ ?_
        rcases Bool.eq_false_or_eq_true (decide (((x6.n : Nat) : Int) = 0)) with hc93 | hc93
        · refine wp_cond_true ((S.at 0 rfl).trans (congrArg Value.bool hc93)) ?_
          refine wp_seq_k fun K18 hK18 => ?_
          have S := S.keep [] (ls' := []) rfl
          refine frm_plain ?_
          refine tl_call S (rn_call0 ⟨_, rfl⟩  (enters_of Tryz.func9 (by kernel_rfl) rfl)) (F := (fun v _ => v = .bool true)) (l7wakes (T.keep S.below)) rfl rfl (by decide) (ls' := []) rfl (fun v a V18 hF hb S => ?_)
          subst hF
          refine tl_val S (v := .bool true) (rn_assign rfl (S.at 0 rfl)) rfl rfl (by decide) (ls' := [(94, .bool true)]) rfl (fun a S => ?_)
          refine hK18 _ _ ?_
          refine wp_ret ?_
          exact frm_ret1 rfl S (S.at 0 rfl) ⟨_, rfl, rfl, S.below⟩
        · refine wp_cond_false ((S.at 0 rfl).trans (congrArg Value.bool hc93)) ?_
          have hz0 : z.N ≠ 0 := fun h => by have h1 := of_decide_eq_false hc93; have h2 := hn5; rw [h, lenL_zero] at h2; omega
          refine wp_skip ?_
          refine hK16 _ _ ?_
          refine wp_seq_k fun K19 hK19 => ?_
          have S := S.keep [5, 2, 1] (ls' := [(5, .pointer (some ⟨g2, 0, none⟩)), (2, .pointer (some ⟨g1, 0, none⟩)), (1, .slice z.A z.n z.c)]) rfl
          obtain ⟨W3, hW3⟩ : ∃ W, W = V17 := ⟨_, rfl⟩
          rw [← hW3] at S ⊢
          have S0 := S
          refine frm_region 15 [95, 96, 97, 98, 99, 100, 101, 102, 103, 104, 105, 106, 107, 108, 8] (fun i v V => match i with
              | 0 => v = .pointer (some ⟨g1, 0, none⟩)
              | 1 => v = .pointer (some ⟨g1, 0, none⟩)
              | 2 => v = .bool b0_
              | 3 => v = .pointer (some ⟨g1, 0, none⟩)
              | 4 => v = .pointer (some ⟨g1, 1, none⟩)
              | 5 => v = .slice x0_.A x0_.n x0_.c
              | 6 => v = .slice z.A z.n z.c
              | 7 => NT 44 (x0_.N * z.N) v V
              | 8 => Z1 44 (zOf b0_ (x0_.N * z.N)) v V
              | 9 => v = .pointer (some ⟨g1, 2, none⟩)
              | 10 => v = .slice y0_.A y0_.n y0_.c
              | 11 => v = .slice z.A z.n z.c
              | 12 => NT 44 (y0_.N * z.N) v V
              | 13 => QA 44 (zOf b0_ (x0_.N * z.N)) (y0_.N * z.N) v V
              | _ => RBx (W3) (27) ([.bool false, .slice none 0 0, .slice none 0 0]) v V) S (by kernel_rfl) (by kernel_rfl) rfl (by decide) rfl rfl ?_ ?_ ?_
          · intro i v V V2 hf hb
            match i, hf with
            | 0, hf => exact hf
            | 1, hf => exact hf
            | 2, hf => exact hf
            | 3, hf => exact hf
            | 4, hf => exact hf
            | 5, hf => exact hf
            | 6, hf => exact hf
            | 7, hf => exact NT.keep hf hb
            | 8, hf => exact Z1.keep hf hb
            | 9, hf => exact hf
            | 10, hf => exact hf
            | 11, hf => exact hf
            | 12, hf => exact NT.keep hf hb
            | 13, hf => exact QA.keep hf hb
            | _ + 14, hf => exact RBx.keep hf hb
          · intro i t ht a V S hB hd
            match i, ht with
            | 0, ht =>
              cases ht
              exact so_val rfl rfl (wanted_free rfl) (rn_field rfl (S.at 1 rfl) (fa_Rat_0_0 _)) rfl
            | 1, ht =>
              cases ht
              exact so_val rfl rfl (wanted_free rfl) (rn_field rfl (show a.tmps.getD 95 undef = .pointer (some ⟨g1, 0, none⟩) from hd 0 95 rfl (by kernel_rfl)) (fa_Int_0_0 _)) rfl
            | 2, ht =>
              cases ht
              exact so_val rfl rfl (wanted_free rfl) (rn_load1 rfl (show a.tmps.getD 96 undef = .pointer (some ⟨g1, 0, none⟩) from hd 1 96 rfl (by kernel_rfl)) (S.bx 0 rfl) (Tryz.isAgg4 _) rfl) rfl
            | 3, ht =>
              cases ht
              exact so_val rfl rfl (wanted_free rfl) (rn_field rfl (S.at 1 rfl) (fa_Rat_0_0 _)) rfl
            | 4, ht =>
              cases ht
              exact so_val rfl rfl (wanted_free rfl) (rn_field rfl (show a.tmps.getD 98 undef = .pointer (some ⟨g1, 0, none⟩) from hd 3 98 rfl (by kernel_rfl)) (fa_Int_1_0 _)) rfl
            | 5, ht =>
              cases ht
              exact so_val rfl rfl (wanted_free rfl) (rn_load1 rfl (show a.tmps.getD 99 undef = .pointer (some ⟨g1, 1, none⟩) from hd 4 99 rfl (by kernel_rfl)) (S.bx 0 rfl) (Tryz.isAgg23 _) rfl) rfl
            | 6, ht =>
              cases ht
              exact so_val rfl rfl (wanted_free rfl) (rn_move rfl (S.at 2 rfl)) rfl
            | 7, ht =>
              cases ht
              exact so_call rfl rfl (wanted_free rfl) (rn_call2 ⟨_, rfl⟩ (show a.tmps.getD 100 undef = .slice x0_.A x0_.n x0_.c from hd 5 100 rfl (by kernel_rfl)) (show a.tmps.getD 101 undef = .slice z.A z.n z.c from hd 6 101 rfl (by kernel_rfl)) (enters_of Tryz.func44 (by kernel_rfl) rfl)) (c2Mul (show N1 40 (x0_.N) (.slice x0_.A x0_.n x0_.c) _ from ⟨x0_, rfl, rfl, hkx0, (S.num 8 rfl)⟩) (show N1 4 (z.N) (.slice z.A z.n z.c) _ from ⟨z, rfl, rfl, hlz, (S.num 7 rfl)⟩) (by decide) (by decide))
            | 8, ht =>
              cases ht
              obtain ⟨v, hv, hq⟩ := z1_mk (b := b0_) ((show NT 44 (x0_.N * z.N) (a.tmps.getD 102 undef) V from hd 7 102 rfl (by kernel_rfl))).any
              exact so_val rfl rfl (wanted_free rfl) (rn_build2 rfl (show a.tmps.getD 97 undef = .bool b0_ from hd 2 97 rfl (by kernel_rfl)) rfl hv) hq
            | 9, ht =>
              cases ht
              exact so_val rfl rfl (wanted_free rfl) (rn_field rfl (S.at 1 rfl) (fa_Rat_1_0 _)) rfl
            | 10, ht =>
              cases ht
              exact so_val rfl rfl (wanted_free rfl) (rn_load1 rfl (show a.tmps.getD 104 undef = .pointer (some ⟨g1, 2, none⟩) from hd 9 104 rfl (by kernel_rfl)) (S.bx 0 rfl) (Tryz.isAgg23 _) rfl) rfl
            | 11, ht =>
              cases ht
              exact so_val rfl rfl (wanted_free rfl) (rn_move rfl (S.at 2 rfl)) rfl
            | 12, ht =>
              cases ht
              exact so_call rfl rfl (wanted_free rfl) (rn_call2 ⟨_, rfl⟩ (show a.tmps.getD 105 undef = .slice y0_.A y0_.n y0_.c from hd 10 105 rfl (by kernel_rfl)) (show a.tmps.getD 106 undef = .slice z.A z.n z.c from hd 11 106 rfl (by kernel_rfl)) (enters_of Tryz.func44 (by kernel_rfl) rfl)) (c2Mul (show N1 40 (y0_.N) (.slice y0_.A y0_.n y0_.c) _ from ⟨y0_, rfl, rfl, hky0, (S.num 9 rfl)⟩) (show N1 4 (z.N) (.slice z.A z.n z.c) _ from ⟨z, rfl, rfl, hlz, (S.num 7 rfl)⟩) (by decide) (by decide))
            | 13, ht =>
              cases ht
              obtain ⟨v, hv, hq⟩ := qa_mk (T := 27) (K3 := 44) (by decide) (show Z1 44 (zOf b0_ (x0_.N * z.N)) (a.tmps.getD 103 undef) V from hd 8 103 rfl (by kernel_rfl)) ((show NT 44 (y0_.N * z.N) (a.tmps.getD 107 undef) V from hd 12 107 rfl (by kernel_rfl))).any (by omega) (by omega)
              exact so_val rfl rfl (wanted_free rfl) (rn_build2 rfl rfl rfl hv) hq
            | 14, ht =>
              cases ht
              exact so_lays rfl rfl (wanted_free rfl) (ly_box (cs := [.bool false, .slice none 0 0, .slice none 0 0]) (rn_alloc rfl (Tryz.zeroValue27 _) rfl) hB.size)
            | k + 15, ht => simp at ht
          · intro a3 V19 S hB hf
            obtain ⟨b2, x7, y2, hv1, hq2, hk8, hk9, ok8, ok9⟩ := (show QA 44 (zOf b0_ (x0_.N * z.N)) (y0_.N * z.N) (a3.tmps.getD 108 undef) V19 from hf 13 108 rfl)
            have S := S.add hv1
            have S := S.know ok8
            have S := S.know ok9
            obtain ⟨g3, hvg3, hgg3, hbg3⟩ := (show RBx (W3) (27) ([.bool false, .slice none 0 0, .slice none 0 0]) (a3.tmps.getD 8 undef) V19 from hf 14 8 rfl)
            have S := Frm.box (S.add hvg3) S0 hgg3 hbg3 rfl
            have S : Frm 127 [(8, .pointer (some ⟨g3, 0, none⟩)), (108, .agg #[.bool b2, .slice x7.A x7.n x7.c, .slice y2.A y2.n y2.c]), (5, .pointer (some ⟨g2, 0, none⟩)), (2, .pointer (some ⟨g1, 0, none⟩)), (1, .slice z.A z.n z.c)] [⟨g1, 27, [.bool b0_, .slice x0_.A x0_.n x0_.c, .slice y0_.A y0_.n y0_.c]⟩, ⟨g2, 27, [.bool b1, .slice x1.A x1.n x1.c, .slice y1.A y1.n y1.c]⟩, ⟨g3, 27, [.bool false, .slice none 0 0, .slice none 0 0]⟩] V _ _ _ := S
            clear hf S0
            show wpList _ _ _ [_] _ _
            refine tl_store S (i := 2) (vs := [.bool b2, .slice x7.A x7.n x7.c, .slice y2.A y2.n y2.c]) rfl (fun ht => rn_store rfl (S.at 0 rfl) (S.at 1 rfl) sz_Rat rfl (Nat.le_of_ble_eq_true rfl) ht) (Nat.le_of_ble_eq_true rfl) rfl rfl rfl (lb' := [⟨g1, 27, [.bool b0_, .slice x0_.A x0_.n x0_.c, .slice y0_.A y0_.n y0_.c]⟩, ⟨g2, 27, [.bool b1, .slice x1.A x1.n x1.c, .slice y1.A y1.n y1.c]⟩, ⟨g3, 27, [.bool b2, .slice x7.A x7.n x7.c, .slice y2.A y2.n y2.c]⟩]) rfl (fun V20 S => ?_)
            refine hK19 _ _ ?_
            refine wp_seq_k fun K20 hK20 => ?_
            have S := S.keep [8, 5, 2] (ls' := [(8, .pointer (some ⟨g3, 0, none⟩)), (5, .pointer (some ⟨g2, 0, none⟩)), (2, .pointer (some ⟨g1, 0, none⟩))]) rfl
            obtain ⟨W4, hW4⟩ : ∃ W, W = V20 := ⟨_, rfl⟩
            rw [← hW4] at S ⊢
            have S0 := S
            refine frm_region 18 [109, 110, 111, 112, 113, 114, 115, 116, 117, 118, 119, 120, 121, 122, 123, 124, 125, 126] (fun i v V => match i with
                | 0 => v = .agg #[.bool b2, .slice x7.A x7.n x7.c, .slice y2.A y2.n y2.c]
                | 1 => QT 44 (q0) v V
                | 2 => v = .agg #[.bool b1, .slice x1.A x1.n x1.c, .slice y1.A y1.n y1.c]
                | 3 => v = .bool true
                | 4 => v = .bool true
                | 5 => v = .agg #[.bool b1, .slice x1.A x1.n x1.c, .slice y1.A y1.n y1.c]
                | 6 => QT 40 (q0) v V
                | 7 => v = .agg #[.bool b1, .slice x1.A x1.n x1.c, .slice y1.A y1.n y1.c]
                | 8 => v = .bool true
                | 9 => v = .bool true
                | 10 => v = .bool true
                | 11 => v = .agg #[.bool b2, .slice x7.A x7.n x7.c, .slice y2.A y2.n y2.c]
                | 12 => v = .agg #[.bool b0_, .slice x0_.A x0_.n x0_.c, .slice y0_.A y0_.n y0_.c]
                | 13 => v = .bool true
                | 14 => v = .bool true
                | 15 => v = .bool true
                | 16 => v = .bool true
                | _ => v = .bool true) S (by kernel_rfl) (by kernel_rfl) rfl (by decide) rfl rfl ?_ ?_ ?_
            · intro i v V V2 hf hb
              match i, hf with
              | 0, hf => exact hf
              | 1, hf => exact QT.keep hf hb
              | 2, hf => exact hf
              | 3, hf => exact hf
              | 4, hf => exact hf
              | 5, hf => exact hf
              | 6, hf => exact QT.keep hf hb
              | 7, hf => exact hf
              | 8, hf => exact hf
              | 9, hf => exact hf
              | 10, hf => exact hf
              | 11, hf => exact hf
              | 12, hf => exact hf
              | 13, hf => exact hf
              | 14, hf => exact hf
              | 15, hf => exact hf
              | 16, hf => exact hf
              | _ + 17, hf => exact hf
            · intro i t ht a V S hB hd
              match i, ht with
              | 0, ht =>
                cases ht
                exact so_val rfl rfl (wanted_free rfl) (rn_load rfl (S.at 0 rfl) (S.bx 2 rfl) Tryz.underlying27 rfl (vs := [.bool b2, .slice x7.A x7.n x7.c, .slice y2.A y2.n y2.c]) sz_Rat rfl) rfl
              | 1, ht =>
                cases ht
                exact so_call rfl rfl (wanted_free rfl) (rn_call1 ⟨_, rfl⟩ (show a.tmps.getD 109 undef = .agg #[.bool b2, .slice x7.A x7.n x7.c, .slice y2.A y2.n y2.c] from hd 0 109 rfl (by kernel_rfl)) (enters_of Tryz.func23 (by kernel_rfl) rfl)) (p7Norm (T.keep S.below) (show Q1 44 (q0) (.agg #[.bool b2, .slice x7.A x7.n x7.c, .slice y2.A y2.n y2.c]) _ from ⟨b2, x7, y2, rfl, long_q hz0 hq2.1 hq2.2 hqa0, hk8, hk9, (S.num 1 rfl), (S.num 0 rfl)⟩) (by omega))
              | 2, ht =>
                cases ht
                exact so_val rfl rfl (wanted_free rfl) (rn_load rfl (S.at 1 rfl) (S.bx 1 rfl) Tryz.underlying27 rfl (vs := [.bool b1, .slice x1.A x1.n x1.c, .slice y1.A y1.n y1.c]) sz_Rat rfl) rfl
              | 3, ht =>
                cases ht
                exact so_call rfl rfl (wanted_free rfl) (rn_call2 ⟨_, rfl⟩ rfl (show a.tmps.getD 111 undef = .agg #[.bool b1, .slice x1.A x1.n x1.c, .slice y1.A y1.n y1.c] from hd 2 111 rfl (by kernel_rfl)) (enters_of Tryz.func14 (by kernel_rfl) rfl)) (l7same (show QT 44 (q0) (a.tmps.getD 110 undef) V from hd 1 110 rfl (by kernel_rfl)) (show QT 40 (q0) (.agg #[.bool b1, .slice x1.A x1.n x1.c, .slice y1.A y1.n y1.c]) _ from ⟨b1, x1, y1, rfl, hq1, hk1, hk2, (S.num 8 rfl), (S.num 7 rfl)⟩) rfl)
              | 4, ht =>
                cases ht
                exact so_val rfl rfl (wanted_free rfl) (rn_move rfl (show a.tmps.getD 112 undef = .bool true from hd 3 112 rfl (by kernel_rfl))) rfl
              | 5, ht =>
                cases ht
                exact so_val rfl rfl ((wanted_if rfl rfl rfl (show a.tmps.getD 113 undef = .bool true from hd 4 113 rfl (by kernel_rfl))).trans rfl) (rn_load rfl (S.at 1 rfl) (S.bx 1 rfl) Tryz.underlying27 rfl (vs := [.bool b1, .slice x1.A x1.n x1.c, .slice y1.A y1.n y1.c]) sz_Rat rfl) rfl
              | 6, ht =>
                cases ht
                exact so_call rfl rfl ((wanted_if rfl rfl rfl (show a.tmps.getD 113 undef = .bool true from hd 4 113 rfl (by kernel_rfl))).trans rfl) (rn_call1 ⟨_, rfl⟩ (show a.tmps.getD 114 undef = .agg #[.bool b1, .slice x1.A x1.n x1.c, .slice y1.A y1.n y1.c] from hd 5 114 rfl (by kernel_rfl)) (enters_of Tryz.func23 (by kernel_rfl) rfl)) (p7Norm (T.keep S.below) (show QT 40 (q0) (.agg #[.bool b1, .slice x1.A x1.n x1.c, .slice y1.A y1.n y1.c]) _ from ⟨b1, x1, y1, rfl, hq1, hk1, hk2, (S.num 8 rfl), (S.num 7 rfl)⟩).any (by omega))
              | 7, ht =>
                cases ht
                exact so_val rfl rfl ((wanted_if rfl rfl rfl (show a.tmps.getD 113 undef = .bool true from hd 4 113 rfl (by kernel_rfl))).trans rfl) (rn_load rfl (S.at 1 rfl) (S.bx 1 rfl) Tryz.underlying27 rfl (vs := [.bool b1, .slice x1.A x1.n x1.c, .slice y1.A y1.n y1.c]) sz_Rat rfl) rfl
              | 8, ht =>
                cases ht
                exact so_call rfl rfl ((wanted_if rfl rfl rfl (show a.tmps.getD 113 undef = .bool true from hd 4 113 rfl (by kernel_rfl))).trans rfl) (rn_call2 ⟨_, rfl⟩ rfl (show a.tmps.getD 116 undef = .agg #[.bool b1, .slice x1.A x1.n x1.c, .slice y1.A y1.n y1.c] from hd 7 116 rfl (by kernel_rfl)) (enters_of Tryz.func14 (by kernel_rfl) rfl)) (l7same (show QT 40 (q0) (a.tmps.getD 115 undef) V from hd 6 115 rfl (by kernel_rfl)) (show QT 40 (q0) (.agg #[.bool b1, .slice x1.A x1.n x1.c, .slice y1.A y1.n y1.c]) _ from ⟨b1, x1, y1, rfl, hq1, hk1, hk2, (S.num 8 rfl), (S.num 7 rfl)⟩) rfl)
              | 9, ht =>
                cases ht
                exact so_val rfl rfl (wanted_free rfl) (rn_pick true rfl (show a.tmps.getD 113 undef = .bool true from hd 4 113 rfl (by kernel_rfl)) (show a.tmps.getD 117 undef = .bool true from hd 8 117 rfl (by kernel_rfl))) rfl
              | 10, ht =>
                cases ht
                exact so_val rfl rfl (wanted_free rfl) (rn_move rfl (show a.tmps.getD 118 undef = .bool true from hd 9 118 rfl (by kernel_rfl))) rfl
              | 11, ht =>
                cases ht
                exact so_val rfl rfl ((wanted_if rfl rfl rfl (show a.tmps.getD 119 undef = .bool true from hd 10 119 rfl (by kernel_rfl))).trans rfl) (rn_load rfl (S.at 0 rfl) (S.bx 2 rfl) Tryz.underlying27 rfl (vs := [.bool b2, .slice x7.A x7.n x7.c, .slice y2.A y2.n y2.c]) sz_Rat rfl) rfl
              | 12, ht =>
                cases ht
                exact so_val rfl rfl ((wanted_if rfl rfl rfl (show a.tmps.getD 119 undef = .bool true from hd 10 119 rfl (by kernel_rfl))).trans rfl) (rn_load rfl (S.at 2 rfl) (S.bx 0 rfl) Tryz.underlying27 rfl (vs := [.bool b0_, .slice x0_.A x0_.n x0_.c, .slice y0_.A y0_.n y0_.c]) sz_Rat rfl) rfl
              | 13, ht =>
                cases ht
                exact so_call rfl rfl ((wanted_if rfl rfl rfl (show a.tmps.getD 119 undef = .bool true from hd 10 119 rfl (by kernel_rfl))).trans rfl) (rn_call2 ⟨_, rfl⟩ (show a.tmps.getD 120 undef = .agg #[.bool b2, .slice x7.A x7.n x7.c, .slice y2.A y2.n y2.c] from hd 11 120 rfl (by kernel_rfl)) (show a.tmps.getD 121 undef = .agg #[.bool b0_, .slice x0_.A x0_.n x0_.c, .slice y0_.A y0_.n y0_.c] from hd 12 121 rfl (by kernel_rfl)) (enters_of Tryz.func19 (by kernel_rfl) rfl)) (gmono (p7Same (T.keep S.below) (show Q1 44 (q0) (.agg #[.bool b2, .slice x7.A x7.n x7.c, .slice y2.A y2.n y2.c]) _ from ⟨b2, x7, y2, rfl, long_q hz0 hq2.1 hq2.2 hqa0, hk8, hk9, (S.num 1 rfl), (S.num 0 rfl)⟩) (show Q1 40 (q0) (.agg #[.bool b0_, .slice x0_.A x0_.n x0_.c, .slice y0_.A y0_.n y0_.c]) _ from ⟨b0_, x0_, y0_, rfl, hqa0, hkx0, hky0, (S.num 10 rfl), (S.num 11 rfl)⟩) (by omega) (by omega)) (fun _ _ h => h.trans (congrArg Value.bool (show (decide (cmpR q0 q0 = 0)) = true from (by rw [cmpR_eq]; rfl)))))
              | 14, ht =>
                cases ht
                exact so_val rfl rfl (wanted_free rfl) (rn_pick true rfl (show a.tmps.getD 119 undef = .bool true from hd 10 119 rfl (by kernel_rfl)) (show a.tmps.getD 122 undef = .bool true from hd 13 122 rfl (by kernel_rfl))) rfl
              | 15, ht =>
                cases ht
                exact so_val rfl rfl (wanted_free rfl) (rn_move rfl (show a.tmps.getD 123 undef = .bool true from hd 14 123 rfl (by kernel_rfl))) rfl
              | 16, ht =>
                cases ht
                exact so_call rfl rfl ((wanted_if rfl rfl rfl (show a.tmps.getD 124 undef = .bool true from hd 15 124 rfl (by kernel_rfl))).trans rfl) (rn_call0 ⟨_, rfl⟩  (enters_of Tryz.func9 (by kernel_rfl) rfl)) (l7wakes (T.keep S.below))
              | 17, ht =>
                cases ht
                exact so_val rfl rfl (wanted_free rfl) (rn_pick true rfl (show a.tmps.getD 124 undef = .bool true from hd 15 124 rfl (by kernel_rfl)) (show a.tmps.getD 125 undef = .bool true from hd 16 125 rfl (by kernel_rfl))) rfl
              | k + 18, ht => simp at ht
            · intro a4 V21 S hB hf
              have S := S.add (show a4.tmps.getD 126 undef = .bool true from hf 17 126 rfl)
              clear hf S0
              show wpList _ _ _ [_] _ _
              refine tl_val S (v := .bool true) (rn_assign rfl (S.at 0 rfl)) rfl rfl (by decide) (ls' := [(126, .bool true), (8, .pointer (some ⟨g3, 0, none⟩)), (5, .pointer (some ⟨g2, 0, none⟩)), (2, .pointer (some ⟨g1, 0, none⟩))]) rfl (fun a S => ?_)
              refine hK20 _ _ ?_
              refine wp_ret ?_
              exact frm_ret1 rfl S (S.at 0 rfl) ⟨_, rfl, rfl, S.below⟩
    · skip
      have S := S.keep [5, 2, 1] (ls' := [(5, .pointer (some ⟨g2, 0, none⟩)), (2, .pointer (some ⟨g1, 0, none⟩)), (1, .slice z.A z.n z.c)]) rfl
      refine frm_plain ?_
      refine tl_val S (v := .pointer (some ⟨g2, 0, none⟩)) (rn_field rfl (S.at 0 rfl) (fa_Rat_0_0 _)) rfl rfl (by decide) (ls' := [(5, .pointer (some ⟨g2, 0, none⟩)), (2, .pointer (some ⟨g1, 0, none⟩)), (1, .slice z.A z.n z.c)]) rfl (fun a S => ?_)
      refine tl_val S (v := .agg #[.bool b1, .slice x1.A x1.n x1.c]) (rn_load rfl (S.at 0 rfl) (S.bx 1 rfl) Tryz.underlying25 rfl (vs := [.bool b1, .slice x1.A x1.n x1.c]) sz_Int rfl) rfl rfl (by decide) (ls' := [(44, .pointer (some ⟨g2, 0, none⟩)), (5, .pointer (some ⟨g2, 0, none⟩)), (2, .pointer (some ⟨g1, 0, none⟩)), (1, .slice z.A z.n z.c)]) rfl (fun a S => ?_)
      refine tl_call S (rn_call1 ⟨_, rfl⟩ (S.at 0 rfl) (enters_of Tryz.func42 (by kernel_rfl) rfl)) (F := (fun v _ => v = .int .i64 (Int.sign ((q0).num)))) (c5Sign (show ZT 40 ((q0).num) (.agg #[.bool b1, .slice x1.A x1.n x1.c]) _ from ⟨b1, x1, rfl, (show b1 = decide ((q0).num < 0) ∧ x1.N = (q0).num.natAbs ∧ x1.n = lenL (q0).num.natAbs from ⟨hq1.1, hq1.2.1, by rw [← hq1.2.1]; exact hq1.2.2.1⟩), hk1, (S.num 1 rfl)⟩).any) rfl rfl (by decide) (ls' := [(45, .agg #[.bool b1, .slice x1.A x1.n x1.c]), (44, .pointer (some ⟨g2, 0, none⟩)), (5, .pointer (some ⟨g2, 0, none⟩)), (2, .pointer (some ⟨g1, 0, none⟩)), (1, .slice z.A z.n z.c)]) rfl (fun v a V22 hF hb S => ?_)
      subst hF
      refine tl_val S (v := .bool false) (rn_bool (rn_eql _ (by decide) rfl (S.at 0 rfl) rfl) (show (decide (Int.sign ((q0).num) = 0)) = false from hs0)) rfl rfl (by decide) (ls' := [(46, .int .i64 (Int.sign ((q0).num))), (45, .agg #[.bool b1, .slice x1.A x1.n x1.c]), (44, .pointer (some ⟨g2, 0, none⟩)), (5, .pointer (some ⟨g2, 0, none⟩)), (2, .pointer (some ⟨g1, 0, none⟩)), (1, .slice z.A z.n z.c)]) rfl (fun a S => ?_)
      refine tl_val S (v := .bool false) (rn_move rfl (S.at 0 rfl)) rfl rfl (by decide) (ls' := [(47, .bool false), (46, .int .i64 (Int.sign ((q0).num))), (45, .agg #[.bool b1, .slice x1.A x1.n x1.c]), (44, .pointer (some ⟨g2, 0, none⟩)), (5, .pointer (some ⟨g2, 0, none⟩)), (2, .pointer (some ⟨g1, 0, none⟩)), (1, .slice z.A z.n z.c)]) rfl (fun a S => ?_)
      refine tl_skip S rfl rfl rfl (S.at 0 rfl) rfl rfl (by decide) (ls' := [(48, .bool false), (47, .bool false), (46, .int .i64 (Int.sign ((q0).num))), (45, .agg #[.bool b1, .slice x1.A x1.n x1.c]), (44, .pointer (some ⟨g2, 0, none⟩)), (5, .pointer (some ⟨g2, 0, none⟩)), (2, .pointer (some ⟨g1, 0, none⟩)), (1, .slice z.A z.n z.c)]) rfl (fun a S => ?_)
      refine tl_skip S rfl rfl rfl (S.at 1 rfl) rfl rfl (by decide) (ls' := [(49, undef), (48, .bool false), (47, .bool false), (46, .int .i64 (Int.sign ((q0).num))), (45, .agg #[.bool b1, .slice x1.A x1.n x1.c]), (44, .pointer (some ⟨g2, 0, none⟩)), (5, .pointer (some ⟨g2, 0, none⟩)), (2, .pointer (some ⟨g1, 0, none⟩)), (1, .slice z.A z.n z.c)]) rfl (fun a S => ?_)
      refine tl_skip S rfl rfl rfl (S.at 2 rfl) rfl rfl (by decide) (ls' := [(50, undef), (49, undef), (48, .bool false), (47, .bool false), (46, .int .i64 (Int.sign ((q0).num))), (45, .agg #[.bool b1, .slice x1.A x1.n x1.c]), (44, .pointer (some ⟨g2, 0, none⟩)), (5, .pointer (some ⟨g2, 0, none⟩)), (2, .pointer (some ⟨g1, 0, none⟩)), (1, .slice z.A z.n z.c)]) rfl (fun a S => ?_)
      refine tl_skip S rfl rfl rfl (S.at 3 rfl) rfl rfl (by decide) (ls' := [(51, undef), (50, undef), (49, undef), (48, .bool false), (47, .bool false), (46, .int .i64 (Int.sign ((q0).num))), (45, .agg #[.bool b1, .slice x1.A x1.n x1.c]), (44, .pointer (some ⟨g2, 0, none⟩)), (5, .pointer (some ⟨g2, 0, none⟩)), (2, .pointer (some ⟨g1, 0, none⟩)), (1, .slice z.A z.n z.c)]) rfl (fun a S => ?_)
      refine tl_skip S rfl rfl rfl (S.at 4 rfl) rfl rfl (by decide) (ls' := [(52, undef), (51, undef), (50, undef), (49, undef), (48, .bool false), (47, .bool false), (46, .int .i64 (Int.sign ((q0).num))), (45, .agg #[.bool b1, .slice x1.A x1.n x1.c]), (44, .pointer (some ⟨g2, 0, none⟩)), (5, .pointer (some ⟨g2, 0, none⟩)), (2, .pointer (some ⟨g1, 0, none⟩)), (1, .slice z.A z.n z.c)]) rfl (fun a S => ?_)
      refine tl_val S (v := .bool false) (rn_pick false rfl (S.at 5 rfl) rfl) rfl rfl (by decide) (ls' := [(53, undef), (52, undef), (51, undef), (50, undef), (49, undef), (48, .bool false), (47, .bool false), (46, .int .i64 (Int.sign ((q0).num))), (45, .agg #[.bool b1, .slice x1.A x1.n x1.c]), (44, .pointer (some ⟨g2, 0, none⟩)), (5, .pointer (some ⟨g2, 0, none⟩)), (2, .pointer (some ⟨g1, 0, none⟩)), (1, .slice z.A z.n z.c)]) rfl (fun a S => ?_)
      refine hK8 _ _ ?_
      refine wp_cond_false (S.at 0 rfl) ?_
      refine wp_skip ?_
      refine hK7 _ _ ?_
      refine wp_seq_k fun K21 hK21 => ?_
      refine wp_seq_k fun K22 hK22 => ?_
      have S := S.keep [5, 2, 1] (ls' := [(5, .pointer (some ⟨g2, 0, none⟩)), (2, .pointer (some ⟨g1, 0, none⟩)), (1, .slice z.A z.n z.c)]) rfl
      refine frm_plain ?_
      refine tl_val S (v := .pointer (some ⟨g1, 2, none⟩)) (rn_field rfl (S.at 1 rfl) (fa_Rat_1_0 _)) rfl rfl (by decide) (ls' := [(5, .pointer (some ⟨g2, 0, none⟩)), (2, .pointer (some ⟨g1, 0, none⟩)), (1, .slice z.A z.n z.c)]) rfl (fun a S => ?_)
      refine tl_val S (v := .slice y0_.A y0_.n y0_.c) (rn_load1 rfl (S.at 0 rfl) (S.bx 0 rfl) (Tryz.isAgg23 _) rfl) rfl rfl (by decide) (ls' := [(55, .pointer (some ⟨g1, 2, none⟩)), (5, .pointer (some ⟨g2, 0, none⟩)), (2, .pointer (some ⟨g1, 0, none⟩)), (1, .slice z.A z.n z.c)]) rfl (fun a S => ?_)
      refine tl_call S (rn_call1 ⟨_, rfl⟩ (S.at 0 rfl) (enters_of Tryz.func40 (by kernel_rfl) rfl)) (F := NT 40 (y0_.N)) (c1Trim (show N1 40 (y0_.N) (.slice y0_.A y0_.n y0_.c) _ from ⟨y0_, rfl, rfl, hky0, (S.num 4 rfl)⟩)) rfl rfl (by decide) (ls' := [(56, .slice y0_.A y0_.n y0_.c), (55, .pointer (some ⟨g1, 2, none⟩)), (5, .pointer (some ⟨g2, 0, none⟩)), (2, .pointer (some ⟨g1, 0, none⟩)), (1, .slice z.A z.n z.c)]) rfl (fun v a V23 hF hb S => ?_)
      obtain ⟨x8, rfl, hN6, hn6, hk10, ok10⟩ := hF
      have S := S.know ok10
      refine tl_val S (v := .int .i64 (((x8.n : Nat) : Int))) (rn_len (by decide) rfl (S.at 0 rfl)) rfl rfl (by decide) (ls' := [(57, .slice x8.A x8.n x8.c), (56, .slice y0_.A y0_.n y0_.c), (55, .pointer (some ⟨g1, 2, none⟩)), (5, .pointer (some ⟨g2, 0, none⟩)), (2, .pointer (some ⟨g1, 0, none⟩)), (1, .slice z.A z.n z.c)]) rfl (fun a S => ?_)
      refine tl_val S (v := .bool (decide (((x8.n : Nat) : Int) = 0))) (rn_eql _ (by decide) rfl (S.at 0 rfl) rfl) rfl rfl (by decide) (ls' := [(58, .int .i64 (((x8.n : Nat) : Int))), (57, .slice x8.A x8.n x8.c), (56, .slice y0_.A y0_.n y0_.c), (55, .pointer (some ⟨g1, 2, none⟩)), (5, .pointer (some ⟨g2, 0, none⟩)), (2, .pointer (some ⟨g1, 0, none⟩)), (1, .slice z.A z.n z.c)]) rfl (fun a S => ?_)
      refine hK22 _ _ ?_
      rcases Bool.eq_false_or_eq_true (decide (((x8.n : Nat) : Int) = 0)) with hc59 | hc59
      · refine wp_cond_true ((S.at 0 rfl).trans (congrArg Value.bool hc59)) ?_
        have hy0 : y0_.N = 0 := lenL_eq_zero.1 (by have := of_decide_eq_true hc59; have := hn6; omega)
        refine wp_seq_k fun K23 hK23 => ?_
        have S := S.keep [5] (ls' := [(5, .pointer (some ⟨g2, 0, none⟩))]) rfl
        obtain ⟨W5, hW5⟩ : ∃ W, W = V23 := ⟨_, rfl⟩
        rw [← hW5] at S ⊢
        have S0 := S
        refine frm_region 6 [60, 61, 62, 63, 64, 65] (fun i v V => match i with
            | 0 => v = .agg #[.bool b1, .slice x1.A x1.n x1.c, .slice y1.A y1.n y1.c]
            | 1 => QT 1 ((0 : Rat)) v V
            | 2 => v = .bool true
            | 3 => v = .bool true
            | 4 => v = .bool true
            | _ => v = .bool true) S (by kernel_rfl) (by kernel_rfl) rfl (by decide) rfl rfl ?_ ?_ ?_
        · intro i v V V2 hf hb
          match i, hf with
          | 0, hf => exact hf
          | 1, hf => exact QT.keep hf hb
          | 2, hf => exact hf
          | 3, hf => exact hf
          | 4, hf => exact hf
          | _ + 5, hf => exact hf
        · intro i t ht a V S hB hd
          match i, ht with
          | 0, ht =>
            cases ht
            exact so_val rfl rfl (wanted_free rfl) (rn_load rfl (S.at 0 rfl) (S.bx 1 rfl) Tryz.underlying27 rfl (vs := [.bool b1, .slice x1.A x1.n x1.c, .slice y1.A y1.n y1.c]) sz_Rat rfl) rfl
          | 1, ht =>
            cases ht
            exact so_call rfl rfl (wanted_free rfl) (rn_callc ⟨_, rfl⟩  (enters_of Tryz.func21 (by kernel_rfl) rfl)) p7Of0
          | 2, ht =>
            cases ht
            exact so_call rfl rfl (wanted_free rfl) (rn_call2 ⟨_, rfl⟩ (show a.tmps.getD 60 undef = .agg #[.bool b1, .slice x1.A x1.n x1.c, .slice y1.A y1.n y1.c] from hd 0 60 rfl (by kernel_rfl)) rfl (enters_of Tryz.func14 (by kernel_rfl) rfl)) (l7same (show QT 40 (q0) (.agg #[.bool b1, .slice x1.A x1.n x1.c, .slice y1.A y1.n y1.c]) _ from ⟨b1, x1, y1, rfl, hq1, hk1, hk2, (S.num 2 rfl), (S.num 1 rfl)⟩) (show QT 1 ((0 : Rat)) (a.tmps.getD 61 undef) V from hd 1 61 rfl (by kernel_rfl)) (q_zero hy0 hqa0))
          | 3, ht =>
            cases ht
            exact so_val rfl rfl (wanted_free rfl) (rn_move rfl (show a.tmps.getD 62 undef = .bool true from hd 2 62 rfl (by kernel_rfl))) rfl
          | 4, ht =>
            cases ht
            exact so_call rfl rfl ((wanted_if rfl rfl rfl (show a.tmps.getD 63 undef = .bool true from hd 3 63 rfl (by kernel_rfl))).trans rfl) (rn_call0 ⟨_, rfl⟩  (enters_of Tryz.func9 (by kernel_rfl) rfl)) (l7wakes (T.keep S.below))
          | 5, ht =>
            cases ht
            exact so_val rfl rfl (wanted_free rfl) (rn_pick true rfl (show a.tmps.getD 63 undef = .bool true from hd 3 63 rfl (by kernel_rfl)) (show a.tmps.getD 64 undef = .bool true from hd 4 64 rfl (by kernel_rfl))) rfl
          | k + 6, ht => simp at ht
        · intro a5 V24 S hB hf
          have S := S.add (show a5.tmps.getD 65 undef = .bool true from hf 5 65 rfl)
          clear hf S0
          show wpList _ _ _ [_] _ _
          refine tl_val S (v := .bool true) (rn_assign rfl (S.at 0 rfl)) rfl rfl (by decide) (ls' := [(65, .bool true), (5, .pointer (some ⟨g2, 0, none⟩))]) rfl (fun a S => ?_)
          refine hK23 _ _ ?_
          refine wp_ret ?_
          exact frm_ret1 rfl S (S.at 0 rfl) ⟨_, rfl, rfl, S.below⟩
      · refine wp_cond_false ((S.at 0 rfl).trans (congrArg Value.bool hc59)) ?_
        have hy0 : y0_.N ≠ 0 := fun h => by have h1 := of_decide_eq_false hc59; have h2 := hn6; rw [h, lenL_zero] at h2; omega
        refine wp_skip ?_
        refine hK21 _ _ ?_
        refine wp_seq_k fun K24 hK24 => ?_
        have S := S.keep [5, 2, 1] (ls' := [(5, .pointer (some ⟨g2, 0, none⟩)), (2, .pointer (some ⟨g1, 0, none⟩)), (1, .slice z.A z.n z.c)]) rfl
        refine frm_plain ?_
        refine tl_val S (v := .pointer (some ⟨g2, 0, none⟩)) (rn_field rfl (S.at 0 rfl) (fa_Rat_0_0 _)) rfl rfl (by decide) (ls' := [(5, .pointer (some ⟨g2, 0, none⟩)), (2, .pointer (some ⟨g1, 0, none⟩)), (1, .slice z.A z.n z.c)]) rfl (fun a S => ?_)
        refine tl_val S (v := .pointer (some ⟨g2, 1, none⟩)) (rn_field rfl (S.at 0 rfl) (fa_Int_1_0 _)) rfl rfl (by decide) (ls' := [(66, .pointer (some ⟨g2, 0, none⟩)), (5, .pointer (some ⟨g2, 0, none⟩)), (2, .pointer (some ⟨g1, 0, none⟩)), (1, .slice z.A z.n z.c)]) rfl (fun a S => ?_)
        refine tl_val S (v := .slice x1.A x1.n x1.c) (rn_load1 rfl (S.at 0 rfl) (S.bx 1 rfl) (Tryz.isAgg23 _) rfl) rfl rfl (by decide) (ls' := [(67, .pointer (some ⟨g2, 1, none⟩)), (66, .pointer (some ⟨g2, 0, none⟩)), (5, .pointer (some ⟨g2, 0, none⟩)), (2, .pointer (some ⟨g1, 0, none⟩)), (1, .slice z.A z.n z.c)]) rfl (fun a S => ?_)
        refine tl_val S (v := .pointer (some ⟨g1, 2, none⟩)) (rn_field rfl (S.at 4 rfl) (fa_Rat_1_0 _)) rfl rfl (by decide) (ls' := [(68, .slice x1.A x1.n x1.c), (67, .pointer (some ⟨g2, 1, none⟩)), (66, .pointer (some ⟨g2, 0, none⟩)), (5, .pointer (some ⟨g2, 0, none⟩)), (2, .pointer (some ⟨g1, 0, none⟩)), (1, .slice z.A z.n z.c)]) rfl (fun a S => ?_)
        refine tl_val S (v := .slice y0_.A y0_.n y0_.c) (rn_load1 rfl (S.at 0 rfl) (S.bx 0 rfl) (Tryz.isAgg23 _) rfl) rfl rfl (by decide) (ls' := [(69, .pointer (some ⟨g1, 2, none⟩)), (68, .slice x1.A x1.n x1.c), (67, .pointer (some ⟨g2, 1, none⟩)), (66, .pointer (some ⟨g2, 0, none⟩)), (5, .pointer (some ⟨g2, 0, none⟩)), (2, .pointer (some ⟨g1, 0, none⟩)), (1, .slice z.A z.n z.c)]) rfl (fun a S => ?_)
        refine tl_call S (rn_call2 ⟨_, rfl⟩ (S.at 2 rfl) (S.at 0 rfl) (enters_of Tryz.func44 (by kernel_rfl) rfl)) (F := NT 80 (((q0).num.natAbs) * y0_.N)) (c2Mul (show NT 40 ((q0).num.natAbs) (.slice x1.A x1.n x1.c) _ from ⟨x1, rfl, hq1.2.1, (by rw [← hq1.2.1]; exact hq1.2.2.1), hk1, (S.num 2 rfl)⟩).any (show N1 40 (y0_.N) (.slice y0_.A y0_.n y0_.c) _ from ⟨y0_, rfl, rfl, hky0, (S.num 5 rfl)⟩) (by decide) (by decide)) rfl rfl (by decide) (ls' := [(70, .slice y0_.A y0_.n y0_.c), (69, .pointer (some ⟨g1, 2, none⟩)), (68, .slice x1.A x1.n x1.c), (67, .pointer (some ⟨g2, 1, none⟩)), (66, .pointer (some ⟨g2, 0, none⟩)), (5, .pointer (some ⟨g2, 0, none⟩)), (2, .pointer (some ⟨g1, 0, none⟩)), (1, .slice z.A z.n z.c)]) rfl (fun v a V25 hF hb S => ?_)
        obtain ⟨x9, rfl, hN7, hn7, hk11, ok11⟩ := hF
        have S := S.know ok11
        refine tl_val S (v := .slice x9.A x9.n x9.c) (rn_assign rfl (S.at 0 rfl)) rfl rfl (by decide) (ls' := [(71, .slice x9.A x9.n x9.c), (70, .slice y0_.A y0_.n y0_.c), (69, .pointer (some ⟨g1, 2, none⟩)), (68, .slice x1.A x1.n x1.c), (67, .pointer (some ⟨g2, 1, none⟩)), (66, .pointer (some ⟨g2, 0, none⟩)), (5, .pointer (some ⟨g2, 0, none⟩)), (2, .pointer (some ⟨g1, 0, none⟩)), (1, .slice z.A z.n z.c)]) rfl (fun a S => ?_)
        refine hK24 _ _ ?_
        refine wp_seq_k fun K25 hK25 => ?_
        have S := S.keep [6, 5, 2, 1] (ls' := [(6, .slice x9.A x9.n x9.c), (5, .pointer (some ⟨g2, 0, none⟩)), (2, .pointer (some ⟨g1, 0, none⟩)), (1, .slice z.A z.n z.c)]) rfl
        refine frm_plain ?_
        refine tl_val S (v := .pointer (some ⟨g1, 0, none⟩)) (rn_field rfl (S.at 2 rfl) (fa_Rat_0_0 _)) rfl rfl (by decide) (ls' := [(6, .slice x9.A x9.n x9.c), (5, .pointer (some ⟨g2, 0, none⟩)), (2, .pointer (some ⟨g1, 0, none⟩)), (1, .slice z.A z.n z.c)]) rfl (fun a S => ?_)
        refine tl_val S (v := .pointer (some ⟨g1, 1, none⟩)) (rn_field rfl (S.at 0 rfl) (fa_Int_1_0 _)) rfl rfl (by decide) (ls' := [(72, .pointer (some ⟨g1, 0, none⟩)), (6, .slice x9.A x9.n x9.c), (5, .pointer (some ⟨g2, 0, none⟩)), (2, .pointer (some ⟨g1, 0, none⟩)), (1, .slice z.A z.n z.c)]) rfl (fun a S => ?_)
        refine tl_val S (v := .slice x0_.A x0_.n x0_.c) (rn_load1 rfl (S.at 0 rfl) (S.bx 0 rfl) (Tryz.isAgg23 _) rfl) rfl rfl (by decide) (ls' := [(73, .pointer (some ⟨g1, 1, none⟩)), (72, .pointer (some ⟨g1, 0, none⟩)), (6, .slice x9.A x9.n x9.c), (5, .pointer (some ⟨g2, 0, none⟩)), (2, .pointer (some ⟨g1, 0, none⟩)), (1, .slice z.A z.n z.c)]) rfl (fun a S => ?_)
        refine tl_val S (v := .pointer (some ⟨g2, 2, none⟩)) (rn_field rfl (S.at 4 rfl) (fa_Rat_1_0 _)) rfl rfl (by decide) (ls' := [(74, .slice x0_.A x0_.n x0_.c), (73, .pointer (some ⟨g1, 1, none⟩)), (72, .pointer (some ⟨g1, 0, none⟩)), (6, .slice x9.A x9.n x9.c), (5, .pointer (some ⟨g2, 0, none⟩)), (2, .pointer (some ⟨g1, 0, none⟩)), (1, .slice z.A z.n z.c)]) rfl (fun a S => ?_)
        refine tl_val S (v := .slice y1.A y1.n y1.c) (rn_load1 rfl (S.at 0 rfl) (S.bx 1 rfl) (Tryz.isAgg23 _) rfl) rfl rfl (by decide) (ls' := [(75, .pointer (some ⟨g2, 2, none⟩)), (74, .slice x0_.A x0_.n x0_.c), (73, .pointer (some ⟨g1, 1, none⟩)), (72, .pointer (some ⟨g1, 0, none⟩)), (6, .slice x9.A x9.n x9.c), (5, .pointer (some ⟨g2, 0, none⟩)), (2, .pointer (some ⟨g1, 0, none⟩)), (1, .slice z.A z.n z.c)]) rfl (fun a S => ?_)
        refine tl_call S (rn_call2 ⟨_, rfl⟩ (S.at 2 rfl) (S.at 0 rfl) (enters_of Tryz.func44 (by kernel_rfl) rfl)) (F := NT 80 (x0_.N * ((q0).den))) (c2Mul (show N1 40 (x0_.N) (.slice x0_.A x0_.n x0_.c) _ from ⟨x0_, rfl, rfl, hkx0, (S.num 5 rfl)⟩) (show NT 40 ((q0).den) (.slice y1.A y1.n y1.c) _ from ⟨y1, rfl, hq1.2.2.2.1, (by rw [← hq1.2.2.2.1]; exact hq1.2.2.2.2), hk2, (S.num 2 rfl)⟩).any (by decide) (by decide)) rfl rfl (by decide) (ls' := [(76, .slice y1.A y1.n y1.c), (75, .pointer (some ⟨g2, 2, none⟩)), (74, .slice x0_.A x0_.n x0_.c), (73, .pointer (some ⟨g1, 1, none⟩)), (72, .pointer (some ⟨g1, 0, none⟩)), (6, .slice x9.A x9.n x9.c), (5, .pointer (some ⟨g2, 0, none⟩)), (2, .pointer (some ⟨g1, 0, none⟩)), (1, .slice z.A z.n z.c)]) rfl (fun v a V26 hF hb S => ?_)
        obtain ⟨x10, rfl, hN8, hn8, hk12, ok12⟩ := hF
        have S := S.know ok12
        refine tl_val S (v := .slice x10.A x10.n x10.c) (rn_assign rfl (S.at 0 rfl)) rfl rfl (by decide) (ls' := [(77, .slice x10.A x10.n x10.c), (76, .slice y1.A y1.n y1.c), (75, .pointer (some ⟨g2, 2, none⟩)), (74, .slice x0_.A x0_.n x0_.c), (73, .pointer (some ⟨g1, 1, none⟩)), (72, .pointer (some ⟨g1, 0, none⟩)), (6, .slice x9.A x9.n x9.c), (5, .pointer (some ⟨g2, 0, none⟩)), (2, .pointer (some ⟨g1, 0, none⟩)), (1, .slice z.A z.n z.c)]) rfl (fun a S => ?_)
        refine hK25 _ _ ?_
        refine wp_seq_k fun K26 hK26 => ?_
        refine wp_seq_k fun K27 hK27 => ?_
        have S := S.keep [7, 6, 5, 2, 1] (ls' := [(7, .slice x10.A x10.n x10.c), (6, .slice x9.A x9.n x9.c), (5, .pointer (some ⟨g2, 0, none⟩)), (2, .pointer (some ⟨g1, 0, none⟩)), (1, .slice z.A z.n z.c)]) rfl
        refine frm_plain ?_
        refine tl_val S (v := .slice x9.A x9.n x9.c) (rn_move rfl (S.at 1 rfl)) rfl rfl (by decide) (ls' := [(7, .slice x10.A x10.n x10.c), (6, .slice x9.A x9.n x9.c), (5, .pointer (some ⟨g2, 0, none⟩)), (2, .pointer (some ⟨g1, 0, none⟩)), (1, .slice z.A z.n z.c)]) rfl (fun a S => ?_)
        refine tl_val S (v := .slice x10.A x10.n x10.c) (rn_move rfl (S.at 1 rfl)) rfl rfl (by decide) (ls' := [(78, .slice x9.A x9.n x9.c), (7, .slice x10.A x10.n x10.c), (6, .slice x9.A x9.n x9.c), (5, .pointer (some ⟨g2, 0, none⟩)), (2, .pointer (some ⟨g1, 0, none⟩)), (1, .slice z.A z.n z.c)]) rfl (fun a S => ?_)
        refine tl_call S (rn_call2 ⟨_, rfl⟩ (S.at 1 rfl) (S.at 0 rfl) (enters_of Tryz.func45 (by kernel_rfl) rfl)) (F := (fun v _ => v = .int .i64 (cmpN (((q0).num.natAbs) * y0_.N) (x0_.N * ((q0).den))))) (c1Cmp (show NT 80 (((q0).num.natAbs) * y0_.N) (.slice x9.A x9.n x9.c) _ from ⟨x9, rfl, hN7, hn7, hk11, (S.num 1 rfl)⟩).any (show NT 80 (x0_.N * ((q0).den)) (.slice x10.A x10.n x10.c) _ from ⟨x10, rfl, hN8, hn8, hk12, (S.num 0 rfl)⟩).any) rfl rfl (by decide) (ls' := [(79, .slice x10.A x10.n x10.c), (78, .slice x9.A x9.n x9.c), (7, .slice x10.A x10.n x10.c), (6, .slice x9.A x9.n x9.c), (5, .pointer (some ⟨g2, 0, none⟩)), (2, .pointer (some ⟨g1, 0, none⟩)), (1, .slice z.A z.n z.c)]) rfl (fun v a V27 hF hb S => ?_)
        subst hF
        refine tl_val S (v := .bool false) (rn_bool (rn_neq _ (by decide) rfl (S.at 0 rfl) rfl) (show (!decide (cmpN (((q0).num.natAbs) * y0_.N) (x0_.N * ((q0).den)) = 0)) = false from (by rw [cmpN_zero.2 (cross_q hy0 hqa0)]; rfl))) rfl rfl (by decide) (ls' := [(80, .int .i64 (cmpN (((q0).num.natAbs) * y0_.N) (x0_.N * ((q0).den)))), (79, .slice x10.A x10.n x10.c), (78, .slice x9.A x9.n x9.c), (7, .slice x10.A x10.n x10.c), (6, .slice x9.A x9.n x9.c), (5, .pointer (some ⟨g2, 0, none⟩)), (2, .pointer (some ⟨g1, 0, none⟩)), (1, .slice z.A z.n z.c)]) rfl (fun a S => ?_)
        refine tl_val S (v := .bool false) (rn_move rfl (S.at 0 rfl)) rfl rfl (by decide) (ls' := [(81, .bool false), (80, .int .i64 (cmpN (((q0).num.natAbs) * y0_.N) (x0_.N * ((q0).den)))), (79, .slice x10.A x10.n x10.c), (78, .slice x9.A x9.n x9.c), (7, .slice x10.A x10.n x10.c), (6, .slice x9.A x9.n x9.c), (5, .pointer (some ⟨g2, 0, none⟩)), (2, .pointer (some ⟨g1, 0, none⟩)), (1, .slice z.A z.n z.c)]) rfl (fun a S => ?_)
        refine tl_valg S rfl rfl rfl (S.at 0 rfl) rfl (v := .pointer (some ⟨g2, 2, none⟩)) (rn_field rfl (S.at 7 rfl) (fa_Rat_1_0 _)) rfl (by decide) (ls' := [(82, .bool false), (81, .bool false), (80, .int .i64 (cmpN (((q0).num.natAbs) * y0_.N) (x0_.N * ((q0).den)))), (79, .slice x10.A x10.n x10.c), (78, .slice x9.A x9.n x9.c), (7, .slice x10.A x10.n x10.c), (6, .slice x9.A x9.n x9.c), (5, .pointer (some ⟨g2, 0, none⟩)), (2, .pointer (some ⟨g1, 0, none⟩)), (1, .slice z.A z.n z.c)]) rfl (fun a S => ?_)
        refine tl_valg S rfl rfl rfl (S.at 1 rfl) rfl (v := .slice y1.A y1.n y1.c) (rn_load1 rfl (S.at 0 rfl) (S.bx 1 rfl) (Tryz.isAgg23 _) rfl) rfl (by decide) (ls' := [(83, .pointer (some ⟨g2, 2, none⟩)), (82, .bool false), (81, .bool false), (80, .int .i64 (cmpN (((q0).num.natAbs) * y0_.N) (x0_.N * ((q0).den)))), (79, .slice x10.A x10.n x10.c), (78, .slice x9.A x9.n x9.c), (7, .slice x10.A x10.n x10.c), (6, .slice x9.A x9.n x9.c), (5, .pointer (some ⟨g2, 0, none⟩)), (2, .pointer (some ⟨g1, 0, none⟩)), (1, .slice z.A z.n z.c)]) rfl (fun a S => ?_)
        refine tl_valg S rfl rfl rfl (S.at 2 rfl) rfl (v := .pointer (some ⟨g1, 2, none⟩)) (rn_field rfl (S.at 10 rfl) (fa_Rat_1_0 _)) rfl (by decide) (ls' := [(84, .slice y1.A y1.n y1.c), (83, .pointer (some ⟨g2, 2, none⟩)), (82, .bool false), (81, .bool false), (80, .int .i64 (cmpN (((q0).num.natAbs) * y0_.N) (x0_.N * ((q0).den)))), (79, .slice x10.A x10.n x10.c), (78, .slice x9.A x9.n x9.c), (7, .slice x10.A x10.n x10.c), (6, .slice x9.A x9.n x9.c), (5, .pointer (some ⟨g2, 0, none⟩)), (2, .pointer (some ⟨g1, 0, none⟩)), (1, .slice z.A z.n z.c)]) rfl (fun a S => ?_)
        refine tl_valg S rfl rfl rfl (S.at 3 rfl) rfl (v := .slice y0_.A y0_.n y0_.c) (rn_load1 rfl (S.at 0 rfl) (S.bx 0 rfl) (Tryz.isAgg23 _) rfl) rfl (by decide) (ls' := [(85, .pointer (some ⟨g1, 2, none⟩)), (84, .slice y1.A y1.n y1.c), (83, .pointer (some ⟨g2, 2, none⟩)), (82, .bool false), (81, .bool false), (80, .int .i64 (cmpN (((q0).num.natAbs) * y0_.N) (x0_.N * ((q0).den)))), (79, .slice x10.A x10.n x10.c), (78, .slice x9.A x9.n x9.c), (7, .slice x10.A x10.n x10.c), (6, .slice x9.A x9.n x9.c), (5, .pointer (some ⟨g2, 0, none⟩)), (2, .pointer (some ⟨g1, 0, none⟩)), (1, .slice z.A z.n z.c)]) rfl (fun a S => ?_)
        refine tl_callg S rfl rfl rfl (S.at 4 rfl) rfl (rn_call2 ⟨_, rfl⟩ (S.at 2 rfl) (S.at 0 rfl) (enters_of Tryz.func45 (by kernel_rfl) rfl)) (F := (fun v _ => v = .int .i64 (cmpN ((q0).den) y0_.N))) (c1Cmp (show NT 40 ((q0).den) (.slice y1.A y1.n y1.c) _ from ⟨y1, rfl, hq1.2.2.2.1, (by rw [← hq1.2.2.2.1]; exact hq1.2.2.2.2), hk2, (S.num 3 rfl)⟩).any (show N1 40 (y0_.N) (.slice y0_.A y0_.n y0_.c) _ from ⟨y0_, rfl, rfl, hky0, (S.num 7 rfl)⟩)) rfl (by decide) (ls' := [(86, .slice y0_.A y0_.n y0_.c), (85, .pointer (some ⟨g1, 2, none⟩)), (84, .slice y1.A y1.n y1.c), (83, .pointer (some ⟨g2, 2, none⟩)), (82, .bool false), (81, .bool false), (80, .int .i64 (cmpN (((q0).num.natAbs) * y0_.N) (x0_.N * ((q0).den)))), (79, .slice x10.A x10.n x10.c), (78, .slice x9.A x9.n x9.c), (7, .slice x10.A x10.n x10.c), (6, .slice x9.A x9.n x9.c), (5, .pointer (some ⟨g2, 0, none⟩)), (2, .pointer (some ⟨g1, 0, none⟩)), (1, .slice z.A z.n z.c)]) rfl (fun v a V28 hF hb S => ?_)
        subst hF
        refine tl_valg S rfl rfl rfl (S.at 5 rfl) rfl (v := .bool false) (rn_bool (rn_gtr rfl (S.at 0 rfl) rfl) (show (decide (0 < cmpN ((q0).den) y0_.N)) = false from (decide_eq_false (by have := cmpN_le (den_le hy0 hqa0); omega)))) rfl (by decide) (ls' := [(87, .int .i64 (cmpN ((q0).den) y0_.N)), (86, .slice y0_.A y0_.n y0_.c), (85, .pointer (some ⟨g1, 2, none⟩)), (84, .slice y1.A y1.n y1.c), (83, .pointer (some ⟨g2, 2, none⟩)), (82, .bool false), (81, .bool false), (80, .int .i64 (cmpN (((q0).num.natAbs) * y0_.N) (x0_.N * ((q0).den)))), (79, .slice x10.A x10.n x10.c), (78, .slice x9.A x9.n x9.c), (7, .slice x10.A x10.n x10.c), (6, .slice x9.A x9.n x9.c), (5, .pointer (some ⟨g2, 0, none⟩)), (2, .pointer (some ⟨g1, 0, none⟩)), (1, .slice z.A z.n z.c)]) rfl (fun a S => ?_)
        refine tl_val S (v := .bool false) (rn_pick false rfl (S.at 6 rfl) (S.at 0 rfl)) rfl rfl (by decide) (ls' := [(88, .bool false), (87, .int .i64 (cmpN ((q0).den) y0_.N)), (86, .slice y0_.A y0_.n y0_.c), (85, .pointer (some ⟨g1, 2, none⟩)), (84, .slice y1.A y1.n y1.c), (83, .pointer (some ⟨g2, 2, none⟩)), (82, .bool false), (81, .bool false), (80, .int .i64 (cmpN (((q0).num.natAbs) * y0_.N) (x0_.N * ((q0).den)))), (79, .slice x10.A x10.n x10.c), (78, .slice x9.A x9.n x9.c), (7, .slice x10.A x10.n x10.c), (6, .slice x9.A x9.n x9.c), (5, .pointer (some ⟨g2, 0, none⟩)), (2, .pointer (some ⟨g1, 0, none⟩)), (1, .slice z.A z.n z.c)]) rfl (fun a S => ?_)
        refine hK27 _ _ ?_
        refine wp_cond_false (S.at 0 rfl) ?_
        refine wp_skip ?_
        refine hK26 _ _ ?_
        refine wp_seq_k fun K28 hK28 => ?_
        refine wp_seq_k fun K29 hK29 => ?_
        have S := S.keep [5, 2, 1] (ls' := [(5, .pointer (some ⟨g2, 0, none⟩)), (2, .pointer (some ⟨g1, 0, none⟩)), (1, .slice z.A z.n z.c)]) rfl
        refine frm_plain ?_
        refine tl_val S (v := .slice z.A z.n z.c) (rn_move rfl (S.at 2 rfl)) rfl rfl (by decide) (ls' := [(5, .pointer (some ⟨g2, 0, none⟩)), (2, .pointer (some ⟨g1, 0, none⟩)), (1, .slice z.A z.n z.c)]) rfl (fun a S => ?_)
        refine tl_call S (rn_call1 ⟨_, rfl⟩ (S.at 0 rfl) (enters_of Tryz.func40 (by kernel_rfl) rfl)) (F := NT 4 (z.N)) (c1Trim (show N1 4 (z.N) (.slice z.A z.n z.c) _ from ⟨z, rfl, rfl, hlz, (S.num 5 rfl)⟩)) rfl rfl (by decide) (ls' := [(90, .slice z.A z.n z.c), (5, .pointer (some ⟨g2, 0, none⟩)), (2, .pointer (some ⟨g1, 0, none⟩)), (1, .slice z.A z.n z.c)]) rfl (fun v a V29 hF hb S => ?_)
        obtain ⟨x11, rfl, hN9, hn9, hk13, ok13⟩ := hF
        have S := S.know ok13
        refine tl_val S (v := .int .i64 (((x11.n : Nat) : Int))) (rn_len (by decide) rfl (S.at 0 rfl)) rfl rfl (by decide) (ls' := [(91, .slice x11.A x11.n x11.c), (90, .slice z.A z.n z.c), (5, .pointer (some ⟨g2, 0, none⟩)), (2, .pointer (some ⟨g1, 0, none⟩)), (1, .slice z.A z.n z.c)]) rfl (fun a S => ?_)
        refine tl_val S (v := .bool (decide (((x11.n : Nat) : Int) = 0))) (rn_eql _ (by decide) rfl (S.at 0 rfl) rfl) rfl rfl (by decide) (ls' := [(92, .int .i64 (((x11.n : Nat) : Int))), (91, .slice x11.A x11.n x11.c), (90, .slice z.A z.n z.c), (5, .pointer (some ⟨g2, 0, none⟩)), (2, .pointer (some ⟨g1, 0, none⟩)), (1, .slice z.A z.n z.c)]) rfl (fun a S => ?_)
        refine hK29 _ _ ?_
        rcases Bool.eq_false_or_eq_true (decide (((x11.n : Nat) : Int) = 0)) with hc93 | hc93
        · refine wp_cond_true ((S.at 0 rfl).trans (congrArg Value.bool hc93)) ?_
          refine wp_seq_k fun K30 hK30 => ?_
          have S := S.keep [] (ls' := []) rfl
          refine frm_plain ?_
          refine tl_call S (rn_call0 ⟨_, rfl⟩  (enters_of Tryz.func9 (by kernel_rfl) rfl)) (F := (fun v _ => v = .bool true)) (l7wakes (T.keep S.below)) rfl rfl (by decide) (ls' := []) rfl (fun v a V30 hF hb S => ?_)
          subst hF
          refine tl_val S (v := .bool true) (rn_assign rfl (S.at 0 rfl)) rfl rfl (by decide) (ls' := [(94, .bool true)]) rfl (fun a S => ?_)
          refine hK30 _ _ ?_
          refine wp_ret ?_
          exact frm_ret1 rfl S (S.at 0 rfl) ⟨_, rfl, rfl, S.below⟩
        · refine wp_cond_false ((S.at 0 rfl).trans (congrArg Value.bool hc93)) ?_
          have hz0 : z.N ≠ 0 := fun h => by have h1 := of_decide_eq_false hc93; have h2 := hn9; rw [h, lenL_zero] at h2; omega
          refine wp_skip ?_
          refine hK28 _ _ ?_
          refine wp_seq_k fun K31 hK31 => ?_
          have S := S.keep [5, 2, 1] (ls' := [(5, .pointer (some ⟨g2, 0, none⟩)), (2, .pointer (some ⟨g1, 0, none⟩)), (1, .slice z.A z.n z.c)]) rfl
          obtain ⟨W6, hW6⟩ : ∃ W, W = V29 := ⟨_, rfl⟩
          rw [← hW6] at S ⊢
          have S0 := S
          refine frm_region 15 [95, 96, 97, 98, 99, 100, 101, 102, 103, 104, 105, 106, 107, 108, 8] (fun i v V => match i with
              | 0 => v = .pointer (some ⟨g1, 0, none⟩)
              | 1 => v = .pointer (some ⟨g1, 0, none⟩)
              | 2 => v = .bool b0_
              | 3 => v = .pointer (some ⟨g1, 0, none⟩)
              | 4 => v = .pointer (some ⟨g1, 1, none⟩)
              | 5 => v = .slice x0_.A x0_.n x0_.c
              | 6 => v = .slice z.A z.n z.c
              | 7 => NT 44 (x0_.N * z.N) v V
              | 8 => Z1 44 (zOf b0_ (x0_.N * z.N)) v V
              | 9 => v = .pointer (some ⟨g1, 2, none⟩)
              | 10 => v = .slice y0_.A y0_.n y0_.c
              | 11 => v = .slice z.A z.n z.c
              | 12 => NT 44 (y0_.N * z.N) v V
              | 13 => QA 44 (zOf b0_ (x0_.N * z.N)) (y0_.N * z.N) v V
              | _ => RBx (W6) (27) ([.bool false, .slice none 0 0, .slice none 0 0]) v V) S (by kernel_rfl) (by kernel_rfl) rfl (by decide) rfl rfl ?_ ?_ ?_
          · intro i v V V2 hf hb
            match i, hf with
            | 0, hf => exact hf
            | 1, hf => exact hf
            | 2, hf => exact hf
            | 3, hf => exact hf
            | 4, hf => exact hf
            | 5, hf => exact hf
            | 6, hf => exact hf
            | 7, hf => exact NT.keep hf hb
            | 8, hf => exact Z1.keep hf hb
            | 9, hf => exact hf
            | 10, hf => exact hf
            | 11, hf => exact hf
            | 12, hf => exact NT.keep hf hb
            | 13, hf => exact QA.keep hf hb
            | _ + 14, hf => exact RBx.keep hf hb
          · intro i t ht a V S hB hd
            match i, ht with
            | 0, ht =>
              cases ht
              exact so_val rfl rfl (wanted_free rfl) (rn_field rfl (S.at 1 rfl) (fa_Rat_0_0 _)) rfl
            | 1, ht =>
              cases ht
              exact so_val rfl rfl (wanted_free rfl) (rn_field rfl (show a.tmps.getD 95 undef = .pointer (some ⟨g1, 0, none⟩) from hd 0 95 rfl (by kernel_rfl)) (fa_Int_0_0 _)) rfl
            | 2, ht =>
              cases ht
              exact so_val rfl rfl (wanted_free rfl) (rn_load1 rfl (show a.tmps.getD 96 undef = .pointer (some ⟨g1, 0, none⟩) from hd 1 96 rfl (by kernel_rfl)) (S.bx 0 rfl) (Tryz.isAgg4 _) rfl) rfl
            | 3, ht =>
              cases ht
              exact so_val rfl rfl (wanted_free rfl) (rn_field rfl (S.at 1 rfl) (fa_Rat_0_0 _)) rfl
            | 4, ht =>
              cases ht
              exact so_val rfl rfl (wanted_free rfl) (rn_field rfl (show a.tmps.getD 98 undef = .pointer (some ⟨g1, 0, none⟩) from hd 3 98 rfl (by kernel_rfl)) (fa_Int_1_0 _)) rfl
            | 5, ht =>
              cases ht
              exact so_val rfl rfl (wanted_free rfl) (rn_load1 rfl (show a.tmps.getD 99 undef = .pointer (some ⟨g1, 1, none⟩) from hd 4 99 rfl (by kernel_rfl)) (S.bx 0 rfl) (Tryz.isAgg23 _) rfl) rfl
            | 6, ht =>
              cases ht
              exact so_val rfl rfl (wanted_free rfl) (rn_move rfl (S.at 2 rfl)) rfl
            | 7, ht =>
              cases ht
              exact so_call rfl rfl (wanted_free rfl) (rn_call2 ⟨_, rfl⟩ (show a.tmps.getD 100 undef = .slice x0_.A x0_.n x0_.c from hd 5 100 rfl (by kernel_rfl)) (show a.tmps.getD 101 undef = .slice z.A z.n z.c from hd 6 101 rfl (by kernel_rfl)) (enters_of Tryz.func44 (by kernel_rfl) rfl)) (c2Mul (show N1 40 (x0_.N) (.slice x0_.A x0_.n x0_.c) _ from ⟨x0_, rfl, rfl, hkx0, (S.num 7 rfl)⟩) (show N1 4 (z.N) (.slice z.A z.n z.c) _ from ⟨z, rfl, rfl, hlz, (S.num 6 rfl)⟩) (by decide) (by decide))
            | 8, ht =>
              cases ht
              obtain ⟨v, hv, hq⟩ := z1_mk (b := b0_) ((show NT 44 (x0_.N * z.N) (a.tmps.getD 102 undef) V from hd 7 102 rfl (by kernel_rfl))).any
              exact so_val rfl rfl (wanted_free rfl) (rn_build2 rfl (show a.tmps.getD 97 undef = .bool b0_ from hd 2 97 rfl (by kernel_rfl)) rfl hv) hq
            | 9, ht =>
              cases ht
              exact so_val rfl rfl (wanted_free rfl) (rn_field rfl (S.at 1 rfl) (fa_Rat_1_0 _)) rfl
            | 10, ht =>
              cases ht
              exact so_val rfl rfl (wanted_free rfl) (rn_load1 rfl (show a.tmps.getD 104 undef = .pointer (some ⟨g1, 2, none⟩) from hd 9 104 rfl (by kernel_rfl)) (S.bx 0 rfl) (Tryz.isAgg23 _) rfl) rfl
            | 11, ht =>
              cases ht
              exact so_val rfl rfl (wanted_free rfl) (rn_move rfl (S.at 2 rfl)) rfl
            | 12, ht =>
              cases ht
              exact so_call rfl rfl (wanted_free rfl) (rn_call2 ⟨_, rfl⟩ (show a.tmps.getD 105 undef = .slice y0_.A y0_.n y0_.c from hd 10 105 rfl (by kernel_rfl)) (show a.tmps.getD 106 undef = .slice z.A z.n z.c from hd 11 106 rfl (by kernel_rfl)) (enters_of Tryz.func44 (by kernel_rfl) rfl)) (c2Mul (show N1 40 (y0_.N) (.slice y0_.A y0_.n y0_.c) _ from ⟨y0_, rfl, rfl, hky0, (S.num 8 rfl)⟩) (show N1 4 (z.N) (.slice z.A z.n z.c) _ from ⟨z, rfl, rfl, hlz, (S.num 6 rfl)⟩) (by decide) (by decide))
            | 13, ht =>
              cases ht
              obtain ⟨v, hv, hq⟩ := qa_mk (T := 27) (K3 := 44) (by decide) (show Z1 44 (zOf b0_ (x0_.N * z.N)) (a.tmps.getD 103 undef) V from hd 8 103 rfl (by kernel_rfl)) ((show NT 44 (y0_.N * z.N) (a.tmps.getD 107 undef) V from hd 12 107 rfl (by kernel_rfl))).any (by omega) (by omega)
              exact so_val rfl rfl (wanted_free rfl) (rn_build2 rfl rfl rfl hv) hq
            | 14, ht =>
              cases ht
              exact so_lays rfl rfl (wanted_free rfl) (ly_box (cs := [.bool false, .slice none 0 0, .slice none 0 0]) (rn_alloc rfl (Tryz.zeroValue27 _) rfl) hB.size)
            | k + 15, ht => simp at ht
          · intro a6 V31 S hB hf
            obtain ⟨b3, x12, y3, hv2, hq3, hk14, hk15, ok14, ok15⟩ := (show QA 44 (zOf b0_ (x0_.N * z.N)) (y0_.N * z.N) (a6.tmps.getD 108 undef) V31 from hf 13 108 rfl)
            have S := S.add hv2
            have S := S.know ok14
            have S := S.know ok15
            obtain ⟨g4, hvg4, hgg4, hbg4⟩ := (show RBx (W6) (27) ([.bool false, .slice none 0 0, .slice none 0 0]) (a6.tmps.getD 8 undef) V31 from hf 14 8 rfl)
            have S := Frm.box (S.add hvg4) S0 hgg4 hbg4 rfl
            have S : Frm 127 [(8, .pointer (some ⟨g4, 0, none⟩)), (108, .agg #[.bool b3, .slice x12.A x12.n x12.c, .slice y3.A y3.n y3.c]), (5, .pointer (some ⟨g2, 0, none⟩)), (2, .pointer (some ⟨g1, 0, none⟩)), (1, .slice z.A z.n z.c)] [⟨g1, 27, [.bool b0_, .slice x0_.A x0_.n x0_.c, .slice y0_.A y0_.n y0_.c]⟩, ⟨g2, 27, [.bool b1, .slice x1.A x1.n x1.c, .slice y1.A y1.n y1.c]⟩, ⟨g4, 27, [.bool false, .slice none 0 0, .slice none 0 0]⟩] V _ _ _ := S
            clear hf S0
            show wpList _ _ _ [_] _ _
            refine tl_store S (i := 2) (vs := [.bool b3, .slice x12.A x12.n x12.c, .slice y3.A y3.n y3.c]) rfl (fun ht => rn_store rfl (S.at 0 rfl) (S.at 1 rfl) sz_Rat rfl (Nat.le_of_ble_eq_true rfl) ht) (Nat.le_of_ble_eq_true rfl) rfl rfl rfl (lb' := [⟨g1, 27, [.bool b0_, .slice x0_.A x0_.n x0_.c, .slice y0_.A y0_.n y0_.c]⟩, ⟨g2, 27, [.bool b1, .slice x1.A x1.n x1.c, .slice y1.A y1.n y1.c]⟩, ⟨g4, 27, [.bool b3, .slice x12.A x12.n x12.c, .slice y3.A y3.n y3.c]⟩]) rfl (fun V32 S => ?_)
            refine hK31 _ _ ?_
            refine wp_seq_k fun K32 hK32 => ?_
            have S := S.keep [8, 5, 2] (ls' := [(8, .pointer (some ⟨g4, 0, none⟩)), (5, .pointer (some ⟨g2, 0, none⟩)), (2, .pointer (some ⟨g1, 0, none⟩))]) rfl
            obtain ⟨W7, hW7⟩ : ∃ W, W = V32 := ⟨_, rfl⟩
            rw [← hW7] at S ⊢
            have S0 := S
            refine frm_region 18 [109, 110, 111, 112, 113, 114, 115, 116, 117, 118, 119, 120, 121, 122, 123, 124, 125, 126] (fun i v V => match i with
                | 0 => v = .agg #[.bool b3, .slice x12.A x12.n x12.c, .slice y3.A y3.n y3.c]
                | 1 => QT 44 (q0) v V
                | 2 => v = .agg #[.bool b1, .slice x1.A x1.n x1.c, .slice y1.A y1.n y1.c]
                | 3 => v = .bool true
                | 4 => v = .bool true
                | 5 => v = .agg #[.bool b1, .slice x1.A x1.n x1.c, .slice y1.A y1.n y1.c]
                | 6 => QT 40 (q0) v V
                | 7 => v = .agg #[.bool b1, .slice x1.A x1.n x1.c, .slice y1.A y1.n y1.c]
                | 8 => v = .bool true
                | 9 => v = .bool true
                | 10 => v = .bool true
                | 11 => v = .agg #[.bool b3, .slice x12.A x12.n x12.c, .slice y3.A y3.n y3.c]
                | 12 => v = .agg #[.bool b0_, .slice x0_.A x0_.n x0_.c, .slice y0_.A y0_.n y0_.c]
                | 13 => v = .bool true
                | 14 => v = .bool true
                | 15 => v = .bool true
                | 16 => v = .bool true
                | _ => v = .bool true) S (by kernel_rfl) (by kernel_rfl) rfl (by decide) rfl rfl ?_ ?_ ?_
            · intro i v V V2 hf hb
              match i, hf with
              | 0, hf => exact hf
              | 1, hf => exact QT.keep hf hb
              | 2, hf => exact hf
              | 3, hf => exact hf
              | 4, hf => exact hf
              | 5, hf => exact hf
              | 6, hf => exact QT.keep hf hb
              | 7, hf => exact hf
              | 8, hf => exact hf
              | 9, hf => exact hf
              | 10, hf => exact hf
              | 11, hf => exact hf
              | 12, hf => exact hf
              | 13, hf => exact hf
              | 14, hf => exact hf
              | 15, hf => exact hf
              | 16, hf => exact hf
              | _ + 17, hf => exact hf
            · intro i t ht a V S hB hd
              match i, ht with
              | 0, ht =>
                cases ht
                exact so_val rfl rfl (wanted_free rfl) (rn_load rfl (S.at 0 rfl) (S.bx 2 rfl) Tryz.underlying27 rfl (vs := [.bool b3, .slice x12.A x12.n x12.c, .slice y3.A y3.n y3.c]) sz_Rat rfl) rfl
              | 1, ht =>
                cases ht
                exact so_call rfl rfl (wanted_free rfl) (rn_call1 ⟨_, rfl⟩ (show a.tmps.getD 109 undef = .agg #[.bool b3, .slice x12.A x12.n x12.c, .slice y3.A y3.n y3.c] from hd 0 109 rfl (by kernel_rfl)) (enters_of Tryz.func23 (by kernel_rfl) rfl)) (p7Norm (T.keep S.below) (show Q1 44 (q0) (.agg #[.bool b3, .slice x12.A x12.n x12.c, .slice y3.A y3.n y3.c]) _ from ⟨b3, x12, y3, rfl, long_q hz0 hq3.1 hq3.2 hqa0, hk14, hk15, (S.num 1 rfl), (S.num 0 rfl)⟩) (by omega))
              | 2, ht =>
                cases ht
                exact so_val rfl rfl (wanted_free rfl) (rn_load rfl (S.at 1 rfl) (S.bx 1 rfl) Tryz.underlying27 rfl (vs := [.bool b1, .slice x1.A x1.n x1.c, .slice y1.A y1.n y1.c]) sz_Rat rfl) rfl
              | 3, ht =>
                cases ht
                exact so_call rfl rfl (wanted_free rfl) (rn_call2 ⟨_, rfl⟩ rfl (show a.tmps.getD 111 undef = .agg #[.bool b1, .slice x1.A x1.n x1.c, .slice y1.A y1.n y1.c] from hd 2 111 rfl (by kernel_rfl)) (enters_of Tryz.func14 (by kernel_rfl) rfl)) (l7same (show QT 44 (q0) (a.tmps.getD 110 undef) V from hd 1 110 rfl (by kernel_rfl)) (show QT 40 (q0) (.agg #[.bool b1, .slice x1.A x1.n x1.c, .slice y1.A y1.n y1.c]) _ from ⟨b1, x1, y1, rfl, hq1, hk1, hk2, (S.num 7 rfl), (S.num 6 rfl)⟩) rfl)
              | 4, ht =>
                cases ht
                exact so_val rfl rfl (wanted_free rfl) (rn_move rfl (show a.tmps.getD 112 undef = .bool true from hd 3 112 rfl (by kernel_rfl))) rfl
              | 5, ht =>
                cases ht
                exact so_val rfl rfl ((wanted_if rfl rfl rfl (show a.tmps.getD 113 undef = .bool true from hd 4 113 rfl (by kernel_rfl))).trans rfl) (rn_load rfl (S.at 1 rfl) (S.bx 1 rfl) Tryz.underlying27 rfl (vs := [.bool b1, .slice x1.A x1.n x1.c, .slice y1.A y1.n y1.c]) sz_Rat rfl) rfl
              | 6, ht =>
                cases ht
                exact so_call rfl rfl ((wanted_if rfl rfl rfl (show a.tmps.getD 113 undef = .bool true from hd 4 113 rfl (by kernel_rfl))).trans rfl) (rn_call1 ⟨_, rfl⟩ (show a.tmps.getD 114 undef = .agg #[.bool b1, .slice x1.A x1.n x1.c, .slice y1.A y1.n y1.c] from hd 5 114 rfl (by kernel_rfl)) (enters_of Tryz.func23 (by kernel_rfl) rfl)) (p7Norm (T.keep S.below) (show QT 40 (q0) (.agg #[.bool b1, .slice x1.A x1.n x1.c, .slice y1.A y1.n y1.c]) _ from ⟨b1, x1, y1, rfl, hq1, hk1, hk2, (S.num 7 rfl), (S.num 6 rfl)⟩).any (by omega))
              | 7, ht =>
                cases ht
                exact so_val rfl rfl ((wanted_if rfl rfl rfl (show a.tmps.getD 113 undef = .bool true from hd 4 113 rfl (by kernel_rfl))).trans rfl) (rn_load rfl (S.at 1 rfl) (S.bx 1 rfl) Tryz.underlying27 rfl (vs := [.bool b1, .slice x1.A x1.n x1.c, .slice y1.A y1.n y1.c]) sz_Rat rfl) rfl
              | 8, ht =>
                cases ht
                exact so_call rfl rfl ((wanted_if rfl rfl rfl (show a.tmps.getD 113 undef = .bool true from hd 4 113 rfl (by kernel_rfl))).trans rfl) (rn_call2 ⟨_, rfl⟩ rfl (show a.tmps.getD 116 undef = .agg #[.bool b1, .slice x1.A x1.n x1.c, .slice y1.A y1.n y1.c] from hd 7 116 rfl (by kernel_rfl)) (enters_of Tryz.func14 (by kernel_rfl) rfl)) (l7same (show QT 40 (q0) (a.tmps.getD 115 undef) V from hd 6 115 rfl (by kernel_rfl)) (show QT 40 (q0) (.agg #[.bool b1, .slice x1.A x1.n x1.c, .slice y1.A y1.n y1.c]) _ from ⟨b1, x1, y1, rfl, hq1, hk1, hk2, (S.num 7 rfl), (S.num 6 rfl)⟩) rfl)
              | 9, ht =>
                cases ht
                exact so_val rfl rfl (wanted_free rfl) (rn_pick true rfl (show a.tmps.getD 113 undef = .bool true from hd 4 113 rfl (by kernel_rfl)) (show a.tmps.getD 117 undef = .bool true from hd 8 117 rfl (by kernel_rfl))) rfl
              | 10, ht =>
                cases ht
                exact so_val rfl rfl (wanted_free rfl) (rn_move rfl (show a.tmps.getD 118 undef = .bool true from hd 9 118 rfl (by kernel_rfl))) rfl
              | 11, ht =>
                cases ht
                exact so_val rfl rfl ((wanted_if rfl rfl rfl (show a.tmps.getD 119 undef = .bool true from hd 10 119 rfl (by kernel_rfl))).trans rfl) (rn_load rfl (S.at 0 rfl) (S.bx 2 rfl) Tryz.underlying27 rfl (vs := [.bool b3, .slice x12.A x12.n x12.c, .slice y3.A y3.n y3.c]) sz_Rat rfl) rfl
              | 12, ht =>
                cases ht
                exact so_val rfl rfl ((wanted_if rfl rfl rfl (show a.tmps.getD 119 undef = .bool true from hd 10 119 rfl (by kernel_rfl))).trans rfl) (rn_load rfl (S.at 2 rfl) (S.bx 0 rfl) Tryz.underlying27 rfl (vs := [.bool b0_, .slice x0_.A x0_.n x0_.c, .slice y0_.A y0_.n y0_.c]) sz_Rat rfl) rfl
              | 13, ht =>
                cases ht
                exact so_call rfl rfl ((wanted_if rfl rfl rfl (show a.tmps.getD 119 undef = .bool true from hd 10 119 rfl (by kernel_rfl))).trans rfl) (rn_call2 ⟨_, rfl⟩ (show a.tmps.getD 120 undef = .agg #[.bool b3, .slice x12.A x12.n x12.c, .slice y3.A y3.n y3.c] from hd 11 120 rfl (by kernel_rfl)) (show a.tmps.getD 121 undef = .agg #[.bool b0_, .slice x0_.A x0_.n x0_.c, .slice y0_.A y0_.n y0_.c] from hd 12 121 rfl (by kernel_rfl)) (enters_of Tryz.func19 (by kernel_rfl) rfl)) (gmono (p7Same (T.keep S.below) (show Q1 44 (q0) (.agg #[.bool b3, .slice x12.A x12.n x12.c, .slice y3.A y3.n y3.c]) _ from ⟨b3, x12, y3, rfl, long_q hz0 hq3.1 hq3.2 hqa0, hk14, hk15, (S.num 1 rfl), (S.num 0 rfl)⟩) (show Q1 40 (q0) (.agg #[.bool b0_, .slice x0_.A x0_.n x0_.c, .slice y0_.A y0_.n y0_.c]) _ from ⟨b0_, x0_, y0_, rfl, hqa0, hkx0, hky0, (S.num 9 rfl), (S.num 10 rfl)⟩) (by omega) (by omega)) (fun _ _ h => h.trans (congrArg Value.bool (show (decide (cmpR q0 q0 = 0)) = true from (by rw [cmpR_eq]; rfl)))))
              | 14, ht =>
                cases ht
                exact so_val rfl rfl (wanted_free rfl) (rn_pick true rfl (show a.tmps.getD 119 undef = .bool true from hd 10 119 rfl (by kernel_rfl)) (show a.tmps.getD 122 undef = .bool true from hd 13 122 rfl (by kernel_rfl))) rfl
              | 15, ht =>
                cases ht
                exact so_val rfl rfl (wanted_free rfl) (rn_move rfl (show a.tmps.getD 123 undef = .bool true from hd 14 123 rfl (by kernel_rfl))) rfl
              | 16, ht =>
                cases ht
                exact so_call rfl rfl ((wanted_if rfl rfl rfl (show a.tmps.getD 124 undef = .bool true from hd 15 124 rfl (by kernel_rfl))).trans rfl) (rn_call0 ⟨_, rfl⟩  (enters_of Tryz.func9 (by kernel_rfl) rfl)) (l7wakes (T.keep S.below))
              | 17, ht =>
                cases ht
                exact so_val rfl rfl (wanted_free rfl) (rn_pick true rfl (show a.tmps.getD 124 undef = .bool true from hd 15 124 rfl (by kernel_rfl)) (show a.tmps.getD 125 undef = .bool true from hd 16 125 rfl (by kernel_rfl))) rfl
              | k + 18, ht => simp at ht
            · intro a7 V33 S hB hf
              have S := S.add (show a7.tmps.getD 126 undef = .bool true from hf 17 126 rfl)
              clear hf S0
              show wpList _ _ _ [_] _ _
              refine tl_val S (v := .bool true) (rn_assign rfl (S.at 0 rfl)) rfl rfl (by decide) (ls' := [(126, .bool true), (8, .pointer (some ⟨g4, 0, none⟩)), (5, .pointer (some ⟨g2, 0, none⟩)), (2, .pointer (some ⟨g1, 0, none⟩))]) rfl (fun a S => ?_)
              refine hK32 _ _ ?_
              refine wp_ret ?_
              exact frm_ret1 rfl S (S.at 0 rfl) ⟨_, rfl, rfl, S.below⟩
set_option maxRecDepth 100000 in
set_option maxHeartbeats 4000000 in
theorem rnorm_long (b0_ : Bool) (x0_ y0_ : Num) (z : Num) {V : World} (T : TT V) (ox0 : x0_.ok V V.heap.size) (oy0 : y0_.ok V V.heap.size) (oz : z.ok V V.heap.size) (hG : great7 [(b0_, x0_, y0_)] = false) (hlen : decide ((4 : Int) < ((z.n : Nat) : Int)) = true):
    Calls Tryz.prog 5 #[.agg #[.bool b0_, .slice x0_.A x0_.n x0_.c, .slice y0_.A y0_.n y0_.c], .slice z.A z.n z.c] V (Gives1 V (fun v _ => v = .bool true)) := by
  have hsz := sizeQ1_le hG
  have hkx0 : x0_.n ≤ 40 := by omega
  have hky0 : y0_.n ≤ 40 := by omega
  obtain ⟨q0, hqa0⟩ : ∃ q, qOf b0_ x0_.N y0_.N = q := ⟨_, rfl⟩
  refine frm_body (e := [z, x0_, y0_]) Tryz.func5 rfl Tryz.ntmps5 (Nat.le_of_ble_eq_true rfl) [(0, .agg #[.bool b0_, .slice x0_.A x0_.n x0_.c, .slice y0_.A y0_.n y0_.c]), (1, .slice z.A z.n z.c)] rfl (ok_cons oz (ok_cons ox0 (ok_cons oy0 ok_nil))) (fun a S => ?_)
  refine wp_seq_k fun K1 hK1 => ?_
  refine frm_plain ?_
  refine tl_box S (T := 27) (cs := [.bool b0_, .slice x0_.A x0_.n x0_.c, .slice y0_.A y0_.n y0_.c]) (rn_box rfl (S.at 0 rfl) rfl) rfl rfl rfl (by decide) (ls' := [(0, .agg #[.bool b0_, .slice x0_.A x0_.n x0_.c, .slice y0_.A y0_.n y0_.c]), (1, .slice z.A z.n z.c)]) rfl (lb' := fun g1 => [⟨g1, 27, [.bool b0_, .slice x0_.A x0_.n x0_.c, .slice y0_.A y0_.n y0_.c]⟩]) (fun _ => rfl) (fun g1 a V1 hgg1 S => ?_)
  refine tl_val S (v := .bool false) (rn_assignc rfl) rfl rfl (by decide) (ls' := [(2, .pointer (some ⟨g1, 0, none⟩)), (0, .agg #[.bool b0_, .slice x0_.A x0_.n x0_.c, .slice y0_.A y0_.n y0_.c]), (1, .slice z.A z.n z.c)]) rfl (fun a S => ?_)
  refine hK1 _ _ ?_
  refine wp_seq_k fun K2 hK2 => ?_
  refine wp_seq_k fun K3 hK3 => ?_
  have S := S.keep [2, 1] (ls' := [(2, .pointer (some ⟨g1, 0, none⟩)), (1, .slice z.A z.n z.c)]) rfl
  refine frm_plain ?_
  refine tl_val S (v := .agg #[.bool b0_, .slice x0_.A x0_.n x0_.c, .slice y0_.A y0_.n y0_.c]) (rn_load rfl (S.at 0 rfl) (S.bx 0 rfl) Tryz.underlying27 rfl (vs := [.bool b0_, .slice x0_.A x0_.n x0_.c, .slice y0_.A y0_.n y0_.c]) sz_Rat rfl) rfl rfl (by decide) (ls' := [(2, .pointer (some ⟨g1, 0, none⟩)), (1, .slice z.A z.n z.c)]) rfl (fun a S => ?_)
  refine tl_lays S (F := GL ([(b0_, x0_, y0_)])) (ly_grow1 rfl (S.at 0 rfl) (S.num 1 rfl) (S.num 2 rfl)) rfl rfl (by decide) (ls' := [(9, .agg #[.bool b0_, .slice x0_.A x0_.n x0_.c, .slice y0_.A y0_.n y0_.c]), (2, .pointer (some ⟨g1, 0, none⟩)), (1, .slice z.A z.n z.c)]) rfl (fun v a V2 hF hb S => ?_)
  obtain ⟨ov1, hov1⟩ : ∃ z, z = v := ⟨_, rfl⟩
  rw [← hov1] at hF S
  have rov1 := hF
  refine tl_call S (rn_call1 ⟨_, rfl⟩ (S.at 0 rfl) (enters_of Tryz.func8 (by kernel_rfl) rfl)) (F := (fun v _ => v = .bool false)) (l7Great rov1 hG) rfl rfl (by decide) (ls' := [(10, ov1), (9, .agg #[.bool b0_, .slice x0_.A x0_.n x0_.c, .slice y0_.A y0_.n y0_.c]), (2, .pointer (some ⟨g1, 0, none⟩)), (1, .slice z.A z.n z.c)]) rfl (fun v a V3 hF hb S => ?_)
  replace rov1 := rov1.keep hb
  subst hF
  refine tl_val S (v := .bool false) (rn_move rfl (S.at 0 rfl)) rfl rfl (by decide) (ls' := [(11, .bool false), (10, ov1), (9, .agg #[.bool b0_, .slice x0_.A x0_.n x0_.c, .slice y0_.A y0_.n y0_.c]), (2, .pointer (some ⟨g1, 0, none⟩)), (1, .slice z.A z.n z.c)]) rfl (fun a S => ?_)
  refine tl_valg S rfl rfl rfl (S.at 0 rfl) rfl (v := .slice z.A z.n z.c) (rn_move rfl (S.at 5 rfl)) rfl (by decide) (ls' := [(12, .bool false), (11, .bool false), (10, ov1), (9, .agg #[.bool b0_, .slice x0_.A x0_.n x0_.c, .slice y0_.A y0_.n y0_.c]), (2, .pointer (some ⟨g1, 0, none⟩)), (1, .slice z.A z.n z.c)]) rfl (fun a S => ?_)
  refine tl_valg S rfl rfl rfl (S.at 1 rfl) rfl (v := .int .i64 (((z.n : Nat) : Int))) (rn_len (by decide) rfl (S.at 0 rfl)) rfl (by decide) (ls' := [(13, .slice z.A z.n z.c), (12, .bool false), (11, .bool false), (10, ov1), (9, .agg #[.bool b0_, .slice x0_.A x0_.n x0_.c, .slice y0_.A y0_.n y0_.c]), (2, .pointer (some ⟨g1, 0, none⟩)), (1, .slice z.A z.n z.c)]) rfl (fun a S => ?_)
  refine tl_valg S rfl rfl rfl (S.at 2 rfl) rfl (v := .bool true) (rn_bool (rn_gtr rfl (S.at 0 rfl) rfl) (show (decide (4 < ((z.n : Nat) : Int))) = true from hlen)) rfl (by decide) (ls' := [(14, .int .i64 (((z.n : Nat) : Int))), (13, .slice z.A z.n z.c), (12, .bool false), (11, .bool false), (10, ov1), (9, .agg #[.bool b0_, .slice x0_.A x0_.n x0_.c, .slice y0_.A y0_.n y0_.c]), (2, .pointer (some ⟨g1, 0, none⟩)), (1, .slice z.A z.n z.c)]) rfl (fun a S => ?_)
  refine tl_val S (v := .bool true) (rn_pick false rfl (S.at 3 rfl) (S.at 0 rfl)) rfl rfl (by decide) (ls' := [(15, .bool true), (14, .int .i64 (((z.n : Nat) : Int))), (13, .slice z.A z.n z.c), (12, .bool false), (11, .bool false), (10, ov1), (9, .agg #[.bool b0_, .slice x0_.A x0_.n x0_.c, .slice y0_.A y0_.n y0_.c]), (2, .pointer (some ⟨g1, 0, none⟩)), (1, .slice z.A z.n z.c)]) rfl (fun a S => ?_)
  refine hK3 _ _ ?_
  refine wp_cond_true (S.at 0 rfl) ?_
  refine wp_seq_k fun K4 hK4 => ?_
  have S := S.keep [] (ls' := []) rfl
  refine frm_plain ?_
  refine tl_call S (rn_call0 ⟨_, rfl⟩  (enters_of Tryz.func9 (by kernel_rfl) rfl)) (F := (fun v _ => v = .bool true)) (l7wakes (T.keep S.below)) rfl rfl (by decide) (ls' := []) rfl (fun v a V4 hF hb S => ?_)
  subst hF
  refine tl_val S (v := .bool true) (rn_assign rfl (S.at 0 rfl)) rfl rfl (by decide) (ls' := [(17, .bool true)]) rfl (fun a S => ?_)
  refine hK4 _ _ ?_
  refine wp_ret ?_
  exact frm_ret1 rfl S (S.at 0 rfl) ⟨_, rfl, rfl, S.below⟩
set_option maxRecDepth 100000 in
set_option maxHeartbeats 4000000 in
theorem rnorm_great (b0_ : Bool) (x0_ y0_ : Num) (z : Num) {V : World} (T : TT V) (ox0 : x0_.ok V V.heap.size) (oy0 : y0_.ok V V.heap.size) (oz : z.ok V V.heap.size) (hG : great7 [(b0_, x0_, y0_)] = true) :
    Calls Tryz.prog 5 #[.agg #[.bool b0_, .slice x0_.A x0_.n x0_.c, .slice y0_.A y0_.n y0_.c], .slice z.A z.n z.c] V (Gives1 V (fun v _ => v = .bool true)) := by
  obtain ⟨q0, hqa0⟩ : ∃ q, qOf b0_ x0_.N y0_.N = q := ⟨_, rfl⟩
  refine frm_body (e := [z, x0_, y0_]) Tryz.func5 rfl Tryz.ntmps5 (Nat.le_of_ble_eq_true rfl) [(0, .agg #[.bool b0_, .slice x0_.A x0_.n x0_.c, .slice y0_.A y0_.n y0_.c]), (1, .slice z.A z.n z.c)] rfl (ok_cons oz (ok_cons ox0 (ok_cons oy0 ok_nil))) (fun a S => ?_)
  refine wp_seq_k fun K1 hK1 => ?_
  refine frm_plain ?_
  refine tl_box S (T := 27) (cs := [.bool b0_, .slice x0_.A x0_.n x0_.c, .slice y0_.A y0_.n y0_.c]) (rn_box rfl (S.at 0 rfl) rfl) rfl rfl rfl (by decide) (ls' := [(0, .agg #[.bool b0_, .slice x0_.A x0_.n x0_.c, .slice y0_.A y0_.n y0_.c]), (1, .slice z.A z.n z.c)]) rfl (lb' := fun g1 => [⟨g1, 27, [.bool b0_, .slice x0_.A x0_.n x0_.c, .slice y0_.A y0_.n y0_.c]⟩]) (fun _ => rfl) (fun g1 a V1 hgg1 S => ?_)
  refine tl_val S (v := .bool false) (rn_assignc rfl) rfl rfl (by decide) (ls' := [(2, .pointer (some ⟨g1, 0, none⟩)), (0, .agg #[.bool b0_, .slice x0_.A x0_.n x0_.c, .slice y0_.A y0_.n y0_.c]), (1, .slice z.A z.n z.c)]) rfl (fun a S => ?_)
  refine hK1 _ _ ?_
  refine wp_seq_k fun K2 hK2 => ?_
  refine wp_seq_k fun K3 hK3 => ?_
  have S := S.keep [2, 1] (ls' := [(2, .pointer (some ⟨g1, 0, none⟩)), (1, .slice z.A z.n z.c)]) rfl
  refine frm_plain ?_
  refine tl_val S (v := .agg #[.bool b0_, .slice x0_.A x0_.n x0_.c, .slice y0_.A y0_.n y0_.c]) (rn_load rfl (S.at 0 rfl) (S.bx 0 rfl) Tryz.underlying27 rfl (vs := [.bool b0_, .slice x0_.A x0_.n x0_.c, .slice y0_.A y0_.n y0_.c]) sz_Rat rfl) rfl rfl (by decide) (ls' := [(2, .pointer (some ⟨g1, 0, none⟩)), (1, .slice z.A z.n z.c)]) rfl (fun a S => ?_)
  refine tl_lays S (F := GL ([(b0_, x0_, y0_)])) (ly_grow1 rfl (S.at 0 rfl) (S.num 1 rfl) (S.num 2 rfl)) rfl rfl (by decide) (ls' := [(9, .agg #[.bool b0_, .slice x0_.A x0_.n x0_.c, .slice y0_.A y0_.n y0_.c]), (2, .pointer (some ⟨g1, 0, none⟩)), (1, .slice z.A z.n z.c)]) rfl (fun v a V2 hF hb S => ?_)
  obtain ⟨ov1, hov1⟩ : ∃ z, z = v := ⟨_, rfl⟩
  rw [← hov1] at hF S
  have rov1 := hF
  refine tl_call S (rn_call1 ⟨_, rfl⟩ (S.at 0 rfl) (enters_of Tryz.func8 (by kernel_rfl) rfl)) (F := (fun v _ => v = .bool true)) (l7Great rov1 hG) rfl rfl (by decide) (ls' := [(10, ov1), (9, .agg #[.bool b0_, .slice x0_.A x0_.n x0_.c, .slice y0_.A y0_.n y0_.c]), (2, .pointer (some ⟨g1, 0, none⟩)), (1, .slice z.A z.n z.c)]) rfl (fun v a V3 hF hb S => ?_)
  replace rov1 := rov1.keep hb
  subst hF
  refine tl_val S (v := .bool true) (rn_move rfl (S.at 0 rfl)) rfl rfl (by decide) (ls' := [(11, .bool true), (10, ov1), (9, .agg #[.bool b0_, .slice x0_.A x0_.n x0_.c, .slice y0_.A y0_.n y0_.c]), (2, .pointer (some ⟨g1, 0, none⟩)), (1, .slice z.A z.n z.c)]) rfl (fun a S => ?_)
  refine tl_skip S rfl rfl rfl (S.at 0 rfl) rfl rfl (by decide) (ls' := [(12, .bool true), (11, .bool true), (10, ov1), (9, .agg #[.bool b0_, .slice x0_.A x0_.n x0_.c, .slice y0_.A y0_.n y0_.c]), (2, .pointer (some ⟨g1, 0, none⟩)), (1, .slice z.A z.n z.c)]) rfl (fun a S => ?_)
  refine tl_skip S rfl rfl rfl (S.at 1 rfl) rfl rfl (by decide) (ls' := [(13, undef), (12, .bool true), (11, .bool true), (10, ov1), (9, .agg #[.bool b0_, .slice x0_.A x0_.n x0_.c, .slice y0_.A y0_.n y0_.c]), (2, .pointer (some ⟨g1, 0, none⟩)), (1, .slice z.A z.n z.c)]) rfl (fun a S => ?_)
  refine tl_skip S rfl rfl rfl (S.at 2 rfl) rfl rfl (by decide) (ls' := [(14, undef), (13, undef), (12, .bool true), (11, .bool true), (10, ov1), (9, .agg #[.bool b0_, .slice x0_.A x0_.n x0_.c, .slice y0_.A y0_.n y0_.c]), (2, .pointer (some ⟨g1, 0, none⟩)), (1, .slice z.A z.n z.c)]) rfl (fun a S => ?_)
  refine tl_val S (v := .bool true) (rn_pick true rfl (S.at 3 rfl) rfl) rfl rfl (by decide) (ls' := [(15, undef), (14, undef), (13, undef), (12, .bool true), (11, .bool true), (10, ov1), (9, .agg #[.bool b0_, .slice x0_.A x0_.n x0_.c, .slice y0_.A y0_.n y0_.c]), (2, .pointer (some ⟨g1, 0, none⟩)), (1, .slice z.A z.n z.c)]) rfl (fun a S => ?_)
  refine hK3 _ _ ?_
  refine wp_cond_true (S.at 0 rfl) ?_
  refine wp_seq_k fun K4 hK4 => ?_
  have S := S.keep [] (ls' := []) rfl
  refine frm_plain ?_
  refine tl_call S (rn_call0 ⟨_, rfl⟩  (enters_of Tryz.func9 (by kernel_rfl) rfl)) (F := (fun v _ => v = .bool true)) (l7wakes (T.keep S.below)) rfl rfl (by decide) (ls' := []) rfl (fun v a V4 hF hb S => ?_)
  subst hF
  refine tl_val S (v := .bool true) (rn_assign rfl (S.at 0 rfl)) rfl rfl (by decide) (ls' := [(17, .bool true)]) rfl (fun a S => ?_)
  refine hK4 _ _ ?_
  refine wp_ret ?_
  exact frm_ret1 rfl S (S.at 0 rfl) ⟨_, rfl, rfl, S.below⟩
end Go.Proofs.YtdajbmjknilmiaaGreatDoor
