/- Contracts of package rat's numbers: reckoned, told, compared, negated, upside down, products, sums. -/
import Derived.Test.YtdajbmjknilmiaaGreatDoorGRPro
namespace Go.Proofs.YtdajbmjknilmiaaGreatDoor
open Go Go.RowKit
variable {v v' v1 v2 : Value} {V V' : World} {K K' N M : Nat} {q q' q1 q2 : Rat} {Z Z' : Int}

theorem bits_nought (N : Nat) : decide (((bitsN N : Nat) : Int) = 0) = decide (N = 0) := by
  rw [decide_eq_decide]
  unfold bitsN
  by_cases h : N = 0
  · simp [h]
  · simp [h]; omega
theorem reckon_nought {b : Bool} {x y z : Num} (h0 : y.N = 0) (hq : qOf b x.N y.N = q) (hz : z.N = 1) : qOf false (⟨none, 0, 0, 0⟩ : Num).N z.N = q := by
  rw [← hq, h0, hz]; simp [qOf, zOf]
theorem zOf_times {b : Bool} {y : Num} (hz : zOf b y.N = Z) : zOf b (y.N * N) = Z * (N : Nat) := by
  rw [← hz]; cases b <;> simp [zOf, Int.neg_mul]
theorem isQ_red (b : Bool) {x y p r : Num} (h0 : y.N ≠ 0) (hq : qOf b x.N y.N = q) (h1 : p.N = x.N / Nat.gcd x.N y.N) (h2 : p.n = lenL (x.N / Nat.gcd x.N y.N)) (h3 : r.N = y.N / Nat.gcd x.N y.N) (h4 : r.n = lenL (y.N / Nat.gcd x.N y.N)) {u : Bool} (hu : u = (b && decide ((0 : Int) < ((p.n : Nat) : Int)))) : IsQ q u p r := by
  subst hq
  have hp := mkRat_parts (z := zOf b x.N) h0
  have ha := mkRat_abs (z := zOf b x.N) h0
  rw [zOf_abs] at hp ha
  have e1 : p.N = (mkRat (zOf b x.N) y.N).num.natAbs := by rw [ha.1]; exact h1
  refine ⟨?_, e1, by rw [h2, h1], by rw [h3]; exact hp.2.symm, by rw [h4, h3]⟩
  rw [hu]
  show _ = decide ((mkRat (zOf b x.N) y.N).num < 0)
  rw [ha.2]
  cases b
  · rw [zOf_false]; simp
  · rw [zOf_true, Bool.true_and, decide_eq_decide]
    have e2 : p.n = lenL p.N := by rw [h2, h1]
    have hg : 0 < Nat.gcd x.N y.N := Nat.gcd_pos_of_pos_right _ (by omega)
    have hd : Nat.gcd x.N y.N ∣ x.N := Nat.gcd_dvd_left _ _
    by_cases hx : x.N = 0
    · rw [hx, Nat.zero_div] at h1
      rw [e2, h1, lenL_zero, hx]; simp
    · have h5 : p.N ≠ 0 := by
        rw [h1]
        have := Nat.div_mul_cancel hd
        intro h6
        rw [h6] at this; omega
      have := lenL_pos h5
      omega
theorem cmpN_zero {a b : Nat} : cmpN a b = 0 ↔ a = b := by
  unfold cmpN; split
  · simp; omega
  · split
    · simp; omega
    · simp; omega
theorem cmp_mk {z1 z2 : Int} {d1 d2 : Nat} (h1 : d1 ≠ 0) (h2 : d2 ≠ 0) : cmpR (mkRat z1 d1) (mkRat z2 d2) = cmpZ (z1 * (d2 : Nat)) (z2 * (d1 : Nat)) := by
  have p1 : (0 : Rat) < (d1 : Nat) := Rat.natCast_pos.mpr (by omega)
  have p2 : (0 : Rat) < (d2 : Nat) := Rat.natCast_pos.mpr (by omega)
  have e1 : mkRat z1 d1 * (d1 : Nat) = (z1 : Int) := by rw [Rat.mkRat_eq_div]; grind
  have e2 : mkRat z2 d2 * (d2 : Nat) = (z2 : Int) := by rw [Rat.mkRat_eq_div]; grind
  have p3 : (0 : Rat) < (d1 : Nat) * (d2 : Nat) := Rat.mul_pos p1 p2
  have a1 : ((z1 * (d2 : Nat) : Int) : Rat) = mkRat z1 d1 * ((d1 : Nat) * (d2 : Nat)) := by rw [Rat.intCast_mul, ← e1, show (((d2 : Nat) : Int) : Rat) = (d2 : Nat) from rfl]; grind
  have a2 : ((z2 * (d1 : Nat) : Int) : Rat) = mkRat z2 d2 * ((d1 : Nat) * (d2 : Nat)) := by rw [Rat.intCast_mul, ← e2, show (((d1 : Nat) : Int) : Rat) = (d1 : Nat) from rfl]; grind
  have key : ∀ a b : Rat, ∀ m n : Int, (m : Rat) = a * ((d1 : Nat) * (d2 : Nat)) → (n : Rat) = b * ((d1 : Nat) * (d2 : Nat)) → (a < b ↔ m < n) := fun a b m n hm hn => by
    rw [← Rat.intCast_lt_intCast, hm, hn]; exact (Rat.mul_lt_mul_right p3).symm
  unfold cmpR cmpZ
  simp only [key _ _ _ _ a1 a2, key _ _ _ _ a2 a1]
theorem cmp_cross {b b' : Bool} {x y x' y' : Num} (h : y.N ≠ 0 ∧ qOf b x.N y.N = q1) (h' : y'.N ≠ 0 ∧ qOf b' x'.N y'.N = q2) : cmpZ (zOf b x.N * ((y'.N : Nat) : Int)) (zOf b' x'.N * ((y.N : Nat) : Int)) = cmpR q1 q2 := by
  rw [← h.2, ← h'.2]; exact (cmp_mk h.1 h'.1).symm
theorem cmpZ_mul (a b : Int) {d : Int} (h : 0 < d) : cmpZ (a * d) (b * d) = cmpZ a b := by
  unfold cmpZ
  simp only [Int.mul_lt_mul_right h]
theorem cmp_same {b b' : Bool} {x y x' y' : Num} (hc : decide (cmpN y.N y'.N = 0) = true) (h : y.N ≠ 0 ∧ qOf b x.N y.N = q1) (h' : y'.N ≠ 0 ∧ qOf b' x'.N y'.N = q2) : cmpZ (zOf b x.N) (zOf b' x'.N) = cmpR q1 q2 := by
  have e := cmpN_zero.1 (of_decide_eq_true hc)
  rw [← cmp_cross h h', ← e, cmpZ_mul _ _ (by have := h.1; omega)]
theorem neg_q {b : Bool} {x y : Num} (h : y.N ≠ 0 ∧ qOf b x.N y.N = q) : y.N ≠ 0 ∧ qOf (!b) x.N y.N = -q := by
  refine ⟨h.1, ?_⟩
  rw [← h.2]
  unfold qOf
  rw [Rat.neg_mkRat]
  cases b <;> simp [zOf]
theorem inv_q {b : Bool} {x y : Num} (h : y.N ≠ 0 ∧ qOf b x.N y.N = q) (hq : q ≠ 0) : x.N ≠ 0 ∧ qOf b y.N x.N = q⁻¹ := by
  have hx : x.N ≠ 0 := by
    intro h0
    apply hq
    rw [← h.2, h0]
    cases b <;> simp [qOf, zOf]
  refine ⟨hx, ?_⟩
  rw [← h.2]
  unfold qOf
  have p1 : ((x.N : Nat) : Rat) ≠ 0 := fun h => hx (by exact_mod_cast h)
  have p2 : ((y.N : Nat) : Rat) ≠ 0 := fun h2 => h.1 (by exact_mod_cast h2)
  rw [Rat.mkRat_eq_div, Rat.mkRat_eq_div]
  cases b
  · rw [zOf_false, zOf_false]
    show ((y.N : Nat) : Rat) / (x.N : Nat) = (((x.N : Nat) : Rat) / (y.N : Nat))⁻¹
    grind
  · rw [zOf_true, zOf_true, Rat.intCast_neg, Rat.intCast_neg]
    show -((y.N : Nat) : Rat) / (x.N : Nat) = (-((x.N : Nat) : Rat) / (y.N : Nat))⁻¹
    grind
theorem mul_q {b b' u : Bool} {x y x' y' p r : Num} (h : y.N ≠ 0 ∧ qOf b x.N y.N = q1) (h' : y'.N ≠ 0 ∧ qOf b' x'.N y'.N = q2) (h1 : zOf u p.N = zOf (b != b') (x.N * x'.N)) (h2 : r.N = y.N * y'.N) : r.N ≠ 0 ∧ qOf u p.N r.N = q1 * q2 := by
  refine ⟨by rw [h2]; exact Nat.mul_ne_zero h.1 h'.1, ?_⟩
  rw [← h.2, ← h'.2]
  unfold qOf
  rw [Rat.mkRat_mul_mkRat, h1, h2]
  congr 1
  cases b <;> cases b' <;> simp [zOf, Int.neg_mul, Int.mul_neg]
theorem zt_z {b : Bool} {x : Num} {Z : Int} (h : b = decide (Z < 0) ∧ x.N = Z.natAbs ∧ x.n = lenL Z.natAbs) : zOf b x.N = Z := by rw [h.1, h.2.1]; exact zOf_told Z
theorem add_cross {b b' u : Bool} {x y x' y' p r : Num} (h : y.N ≠ 0 ∧ qOf b x.N y.N = q1) (h' : y'.N ≠ 0 ∧ qOf b' x'.N y'.N = q2) (hz : zOf u p.N = zOf b x.N * ((y'.N : Nat) : Int) + zOf b' x'.N * ((y.N : Nat) : Int)) (h2 : r.N = y.N * y'.N) : r.N ≠ 0 ∧ qOf u p.N r.N = q1 + q2 := by
  refine ⟨by rw [h2]; exact Nat.mul_ne_zero h.1 h'.1, ?_⟩
  rw [← h.2, ← h'.2]
  unfold qOf
  rw [Rat.mkRat_add_mkRat _ _ h.1 h'.1, hz, h2]
theorem add_red {b b' u : Bool} {x y x' y' p r : Num} (h : y.N ≠ 0 ∧ qOf b x.N y.N = q1) (h' : y'.N ≠ 0 ∧ qOf b' x'.N y'.N = q2) (hz : zOf u p.N = zOf b x.N * ((y'.N / Nat.gcd y.N y'.N : Nat) : Int) + zOf b' x'.N * ((y.N / Nat.gcd y.N y'.N : Nat) : Int)) (h2 : r.N = y.N * (y'.N / Nat.gcd y.N y'.N)) : r.N ≠ 0 ∧ qOf u p.N r.N = q1 + q2 := by
  have hg : 0 < Nat.gcd y.N y'.N := Nat.gcd_pos_of_pos_left _ (by have := h.1; omega)
  obtain ⟨c, hc⟩ := Nat.gcd_dvd_left y.N y'.N
  obtain ⟨d, hd⟩ := Nat.gcd_dvd_right y.N y'.N
  have e1 : y.N / Nat.gcd y.N y'.N = c := by conv => lhs; lhs; rw [hc]
                                             exact Nat.mul_div_cancel_left _ hg
  have e2 : y'.N / Nat.gcd y.N y'.N = d := by conv => lhs; lhs; rw [hd]
                                              exact Nat.mul_div_cancel_left _ hg
  rw [e1, e2] at hz
  rw [e2] at h2
  generalize Nat.gcd y.N y'.N = g at hg hc hd
  have hd0 : d ≠ 0 := by intro h0; rw [h0, Nat.mul_zero] at hd; exact h'.1 hd
  refine ⟨by rw [h2]; exact Nat.mul_ne_zero h.1 hd0, ?_⟩
  rw [← h.2, ← h'.2]
  unfold qOf
  rw [Rat.mkRat_add_mkRat _ _ h.1 h'.1, hz, h2]
  have hyd : y.N * d ≠ 0 := Nat.mul_ne_zero h.1 hd0
  rw [Rat.mkRat_eq_iff hyd (Nat.mul_ne_zero h.1 h'.1)]
  rw [hc, hd]
  simp only [Int.natCast_mul]
  grind
theorem add_same {b b' u : Bool} {x y x' y' p : Num} (hc : decide (cmpN y.N y'.N = 0) = true) (h : y.N ≠ 0 ∧ qOf b x.N y.N = q1) (h' : y'.N ≠ 0 ∧ qOf b' x'.N y'.N = q2) (hz : zOf u p.N = zOf b x.N + zOf b' x'.N) : y.N ≠ 0 ∧ qOf u p.N y.N = q1 + q2 := by
  have e := cmpN_zero.1 (of_decide_eq_true hc)
  refine ⟨h.1, ?_⟩
  rw [← h.2, ← h'.2, ← e]
  unfold qOf
  rw [Rat.mkRat_add_mkRat _ _ h.1 h.1, hz, Rat.mkRat_eq_iff h.1 (Nat.mul_ne_zero h.1 h.1)]
  simp only [Int.natCast_mul]
  grind
theorem bits_le {x : Num} (hk : x.n ≤ K) (ho : x.ok V V.heap.size) : bitsN x.N ≤ 32 * K := by
  have h := lt_pow_of ho.1.1 hk
  rw [Bw_pow2] at h
  unfold bitsN
  split
  · omega
  · rename_i h0
    have := (Nat.log2_lt h0).2 h
    omega
set_option maxRecDepth 100000 in
set_option maxHeartbeats 4000000 in
theorem p7isNought {K N : Nat} {v1 : Value} {V : World}  (h1 : N1 K (N) v1 V) :
    Calls Tryz.prog 51 #[v1] V (Gives1 V (fun v _ => v = .bool (decide (N = 0)))) := by
  obtain ⟨x1, rfl, hN1, hk1, ok1⟩ := h1
  refine frm_body (e := [x1]) Tryz.func51 rfl Tryz.ntmps51 (Nat.le_of_ble_eq_true rfl) [(0, aS x1)] rfl (ok_cons ok1 ok_nil) (fun a S => ?_)
  refine wp_seq_k fun K1 hK1 => ?_
  refine frm_plain ?_
  refine tl_val S (v := .bool false) (rn_assignc rfl) rfl rfl (by decide) (ls' := [(0, aS x1)]) rfl (fun a S => ?_)
  refine hK1 _ _ ?_
  refine wp_seq_k fun K2 hK2 => ?_
  refine frm_plain ?_
  refine tl_val S (v := aS x1) (rn_move rfl (S.at 1 rfl)) rfl rfl (by decide) (ls' := [(2, .bool false), (0, aS x1)]) rfl (fun a S => ?_)
  refine tl_call S (rn_call1 ⟨_, rfl⟩ (S.at 0 rfl) (enters_of Tryz.func81 (by kernel_rfl) rfl)) (F := (fun v _ => v = .int .i64 (((bitsN N : Nat) : Int)))) (pBits (show N1 K (N) (aS x1) _ from ⟨x1, rfl, hN1, hk1, (S.num 0 rfl)⟩)) rfl rfl (by decide) (ls' := [(3, aS x1), (2, .bool false), (0, aS x1)]) rfl (fun v a V1 hF hb S => ?_)
  subst hF
  refine tl_val S (v := .bool (decide (((bitsN N : Nat) : Int) = 0))) (rn_eql _ (by decide) rfl (S.at 0 rfl) rfl) rfl rfl (by decide) (ls' := [(4, .int .i64 (((bitsN N : Nat) : Int))), (3, aS x1), (2, .bool false), (0, aS x1)]) rfl (fun a S => ?_)
  refine tl_val S (v := .bool (decide (((bitsN N : Nat) : Int) = 0))) (rn_assign rfl (S.at 0 rfl)) rfl rfl (by decide) (ls' := [(5, .bool (decide (((bitsN N : Nat) : Int) = 0))), (4, .int .i64 (((bitsN N : Nat) : Int))), (3, aS x1), (0, aS x1)]) rfl (fun a S => ?_)
  refine hK2 _ _ ?_
  refine wp_ret ?_
  exact frm_ret1 rfl S (S.at 0 rfl) ⟨_, rfl, congrArg Value.bool (bits_nought N), S.below⟩
set_option maxRecDepth 100000 in
set_option maxHeartbeats 4000000 in
theorem p7reckon {K : Nat} {q : Rat} {v1 : Value} {V : World}  (h1 : Q1 K (q) v1 V) (hK0 : K ≤ 1000000):
    Calls Tryz.prog 58 #[v1] V (Gives1 V (QM (max K 1) q)) := by
  obtain ⟨b1, x1, y1, rfl, hq1, hk1, hk2, ok1, ok2⟩ := h1
  refine frm_body (e := [x1, y1]) Tryz.func58 rfl Tryz.ntmps58 (Nat.le_of_ble_eq_true rfl) [(0, (aG b1 x1 y1))] rfl (ok_cons ok1 (ok_cons ok2 ok_nil)) (fun a S => ?_)
  refine wp_seq_k fun K1 hK1 => ?_
  refine frm_plain ?_
  refine tl_box S (T := 27) (cs := (aL b1 x1 y1)) (rn_box rfl (S.at 0 rfl) rfl) rfl rfl rfl (by decide) (ls' := [(0, (aG b1 x1 y1))]) rfl (lb' := fun g1 => [⟨g1, 27, (aL b1 x1 y1)⟩]) (fun _ => rfl) (fun g1 a V1 hgg1 S => ?_)
  refine tl_box S (T := 64) (cs := [.bool false, .slice none 0 0, .slice none 0 0]) (rn_alloc rfl (Tryz.zeroValue64 _) rfl) rfl rfl rfl (by decide) (ls' := [(1, pT g1 0), (0, (aG b1 x1 y1))]) rfl (lb' := fun g2 => [⟨g1, 27, (aL b1 x1 y1)⟩, ⟨g2, 64, [.bool false, .slice none 0 0, .slice none 0 0]⟩]) (fun _ => rfl) (fun g2 a V2 hgg2 S => ?_)
  refine hK1 _ _ ?_
  refine wp_seq_k fun K2 hK2 => ?_
  refine wp_seq_k fun K3 hK3 => ?_
  have S := S.keep [2, 1] (ls' := [(2, pT g2 0), (1, pT g1 0)]) rfl
  refine frm_plain ?_
  refine tl_val S (v := pT g1 2) (rn_field rfl (S.at 1 rfl) (fa_Rat_1_0 _)) rfl rfl (by decide) (ls' := [(2, pT g2 0), (1, pT g1 0)]) rfl (fun a S => ?_)
  refine tl_val S (v := aS y1) (rn_load1 rfl (S.at 0 rfl) (S.bx 0 rfl) (Tryz.isAgg23 _) rfl) rfl rfl (by decide) (ls' := [(3, pT g1 2), (2, pT g2 0), (1, pT g1 0)]) rfl (fun a S => ?_)
  refine tl_call S (rn_call1 ⟨_, rfl⟩ (S.at 0 rfl) (enters_of Tryz.func51 (by kernel_rfl) rfl)) (F := (fun v _ => v = .bool (decide (y1.N = 0)))) (p7isNought (show N1 K (y1.N) (aS y1) _ from ⟨y1, rfl, rfl, hk2, (S.num 1 rfl)⟩)) rfl rfl (by decide) (ls' := [(4, aS y1), (3, pT g1 2), (2, pT g2 0), (1, pT g1 0)]) rfl (fun v a V3 hF hb S => ?_)
  subst hF
  refine hK3 _ _ ?_
  rcases Bool.eq_false_or_eq_true (decide (y1.N = 0)) with hc5 | hc5
  · refine wp_cond_true ((S.at 0 rfl).trans (congrArg Value.bool hc5)) ?_
    refine wp_seq_k fun K4 hK4 => ?_
    have S := S.keep [2] (ls' := [(2, pT g2 0)]) rfl
    refine frm_plain ?_
    refine tl_call S (rn_callc ⟨_, rfl⟩  (enters_of Tryz.func67 (by kernel_rfl) rfl)) (F := NT 1 (1)) pOf1 rfl rfl (by decide) (ls' := [(2, pT g2 0)]) rfl (fun v a V4 hF hb S => ?_)
    obtain ⟨x2, rfl, hN1, hn1, hk3, ok3⟩ := hF
    have S := S.know ok3
    refine tl_val S (v := .agg #[.bool false, .slice none 0 0, aS x2]) (rn_build1 rfl (S.at 0 rfl) (bd_number1 _ _ _)) rfl rfl (by decide) (ls' := [(6, aS x2), (2, pT g2 0)]) rfl (fun a S => ?_)
    refine tl_store S (i := 1) (vs := [.bool false, .slice none 0 0, aS x2]) rfl (fun ht => rn_store rfl (S.at 2 rfl) (S.at 0 rfl) sz_number rfl (Nat.le_of_ble_eq_true rfl) ht) (Nat.le_of_ble_eq_true rfl) rfl rfl rfl (lb' := [⟨g1, 27, (aL b1 x1 y1)⟩, ⟨g2, 64, [.bool false, .slice none 0 0, aS x2]⟩]) rfl (fun V5 S => ?_)
    refine hK4 _ _ ?_
    refine wp_ret ?_
    exact frm_retc rfl S (S.at 2 rfl) (i := 1) rfl Tryz.underlying64 rfl sz_number ⟨_, rfl, ⟨false, ⟨none, 0, 0, 0⟩, x2, rfl, ⟨by rw [hN1]; decide, (reckon_nought (of_decide_eq_true hc5) hq1 hN1)⟩, Nat.zero_le _, Nat.le_trans hk3 (by omega), (S.env.nought).2 _ (List.mem_cons_self ..), (S.num 0 rfl)⟩, S.below⟩
  · refine wp_cond_false ((S.at 0 rfl).trans (congrArg Value.bool hc5)) ?_
    refine wp_skip ?_
    refine hK2 _ _ ?_
    refine wp_seq_k fun K5 hK5 => ?_
    have S := S.keep [2, 1] (ls' := [(2, pT g2 0), (1, pT g1 0)]) rfl
    refine frm_plain ?_
    refine tl_val S (v := pT g1 0) (rn_field rfl (S.at 1 rfl) (fa_Rat_0_0 _)) rfl rfl (by decide) (ls' := [(2, pT g2 0), (1, pT g1 0)]) rfl (fun a S => ?_)
    refine tl_val S (v := (aZ b1 x1)) (rn_load rfl (S.at 0 rfl) (S.bx 0 rfl) Tryz.underlying25 rfl (vs := [.bool b1, aS x1]) sz_Int rfl) rfl rfl (by decide) (ls' := [(8, pT g1 0), (2, pT g2 0), (1, pT g1 0)]) rfl (fun a S => ?_)
    refine tl_val S (v := (aZ b1 x1)) (rn_build1 rfl (S.at 0 rfl) (bd_numerator _ _ _ _)) rfl rfl (by decide) (ls' := [(9, (aZ b1 x1)), (8, pT g1 0), (2, pT g2 0), (1, pT g1 0)]) rfl (fun a S => ?_)
    refine tl_val S (v := pT g1 2) (rn_field rfl (S.at 4 rfl) (fa_Rat_1_0 _)) rfl rfl (by decide) (ls' := [(10, (aZ b1 x1)), (9, (aZ b1 x1)), (8, pT g1 0), (2, pT g2 0), (1, pT g1 0)]) rfl (fun a S => ?_)
    refine tl_val S (v := aS y1) (rn_load1 rfl (S.at 0 rfl) (S.bx 0 rfl) (Tryz.isAgg23 _) rfl) rfl rfl (by decide) (ls' := [(11, pT g1 2), (10, (aZ b1 x1)), (9, (aZ b1 x1)), (8, pT g1 0), (2, pT g2 0), (1, pT g1 0)]) rfl (fun a S => ?_)
    refine tl_val S (v := (aG b1 x1 y1)) (rn_build2 rfl (S.at 2 rfl) (S.at 0 rfl) (bd_number _ _ _ _ _ _ _)) rfl rfl (by decide) (ls' := [(12, aS y1), (11, pT g1 2), (10, (aZ b1 x1)), (9, (aZ b1 x1)), (8, pT g1 0), (2, pT g2 0), (1, pT g1 0)]) rfl (fun a S => ?_)
    refine tl_store S (i := 1) (vs := (aL b1 x1 y1)) rfl (fun ht => rn_store rfl (S.at 6 rfl) (S.at 0 rfl) sz_number rfl (Nat.le_of_ble_eq_true rfl) ht) (Nat.le_of_ble_eq_true rfl) rfl rfl rfl (lb' := [⟨g1, 27, (aL b1 x1 y1)⟩, ⟨g2, 64, (aL b1 x1 y1)⟩]) rfl (fun V6 S => ?_)
    refine hK5 _ _ ?_
    refine wp_ret ?_
    exact frm_retc rfl S (S.at 6 rfl) (i := 1) rfl Tryz.underlying64 rfl sz_number ⟨_, rfl, ⟨b1, x1, y1, rfl, ⟨of_decide_eq_false hc5, hq1⟩, Nat.le_trans hk1 (by omega), Nat.le_trans hk2 (by omega), (S.num 0 rfl), (S.num 1 rfl)⟩, S.below⟩
set_option maxRecDepth 100000 in
set_option maxHeartbeats 4000000 in
theorem p7sign {K : Nat} {Z : Int} {v1 : Value} {V : World} (T : TT V) (h1 : Z1 K (Z) v1 V) (hK0 : K ≤ 10000):
    Calls Tryz.prog 59 #[v1] V (Gives1 V (fun v _ => v = .int .i64 Z.sign)) := by
  obtain ⟨b1, x1, rfl, hz1, hk1, ok1⟩ := h1
  refine frm_body (e := [x1]) Tryz.func59 rfl Tryz.ntmps59 (Nat.le_of_ble_eq_true rfl) [(0, (aZ b1 x1))] rfl (ok_cons ok1 ok_nil) (fun a S => ?_)
  refine wp_seq_k fun K1 hK1 => ?_
  refine frm_plain ?_
  refine tl_box S (T := 62) (cs := [.bool b1, aS x1]) (rn_box rfl (S.at 0 rfl) rfl) rfl rfl rfl (by decide) (ls' := [(0, (aZ b1 x1))]) rfl (lb' := fun g1 => [⟨g1, 62, [.bool b1, aS x1]⟩]) (fun _ => rfl) (fun g1 a V1 hgg1 S => ?_)
  refine tl_val S (v := .int .i64 0) (rn_assignc rfl) rfl rfl (by decide) (ls' := [(1, pT g1 0), (0, (aZ b1 x1))]) rfl (fun a S => ?_)
  refine hK1 _ _ ?_
  refine wp_seq_k fun K2 hK2 => ?_
  have S := S.keep [2, 1] (ls' := [(2, .int .i64 0), (1, pT g1 0)]) rfl
  refine frm_plain ?_
  refine tl_val S (v := pT g1 0) (rn_field rfl (S.at 1 rfl) (fa_numerator_0_0 _)) rfl rfl (by decide) (ls' := [(2, .int .i64 0), (1, pT g1 0)]) rfl (fun a S => ?_)
  refine tl_val S (v := (aZ b1 x1)) (rn_load rfl (S.at 0 rfl) (S.bx 0 rfl) Tryz.underlying25 rfl (vs := [.bool b1, aS x1]) sz_Int rfl) rfl rfl (by decide) (ls' := [(3, pT g1 0), (2, .int .i64 0), (1, pT g1 0)]) rfl (fun a S => ?_)
  refine tl_call S (rn_call1 ⟨_, rfl⟩ (S.at 0 rfl) (enters_of Tryz.func87 (by kernel_rfl) rfl)) (F := (fun v _ => v = .int .i64 (Int.sign Z))) (psSign (T.keep S.below) (show Z1 K (Z) ((aZ b1 x1)) _ from ⟨b1, x1, rfl, hz1, hk1, (S.num 0 rfl)⟩) (by omega)) rfl rfl (by decide) (ls' := [(4, (aZ b1 x1)), (3, pT g1 0), (2, .int .i64 0), (1, pT g1 0)]) rfl (fun v a V2 hF hb S => ?_)
  subst hF
  refine tl_val S (v := .int .i64 (Int.sign Z)) (rn_assign rfl (S.at 0 rfl)) rfl rfl (by decide) (ls' := [(5, .int .i64 (Int.sign Z)), (4, (aZ b1 x1)), (3, pT g1 0), (1, pT g1 0)]) rfl (fun a S => ?_)
  refine hK2 _ _ ?_
  refine wp_ret ?_
  exact frm_ret1 rfl S (S.at 0 rfl) ⟨_, rfl, rfl, S.below⟩
set_option maxRecDepth 100000 in
set_option maxHeartbeats 4000000 in
theorem p7times {K K' N : Nat} {Z : Int} {v1 v2 : Value} {V : World}  (h1 : Z1 K (Z) v1 V) (h2 : N1 K' (N) v2 V) (hK0 : K ≤ 100000) (hK1 : K' ≤ 100000):
    Calls Tryz.prog 91 #[v1, v2] V (Gives1 V (Z1 (K + K') (Z * (N : Nat)))) := by
  obtain ⟨b1, x1, rfl, hz1, hk1, ok1⟩ := h1
  obtain ⟨x2, rfl, hN1, hk2, ok2⟩ := h2
  refine frm_body (e := [x2, x1]) Tryz.func91 rfl Tryz.ntmps91 (Nat.le_of_ble_eq_true rfl) [(0, (aZ b1 x1)), (1, aS x2)] rfl (ok_cons ok2 (ok_cons ok1 ok_nil)) (fun a S => ?_)
  refine wp_seq_k fun K1 hK1 => ?_
  refine frm_plain ?_
  refine tl_box S (T := 62) (cs := [.bool b1, aS x1]) (rn_box rfl (S.at 0 rfl) rfl) rfl rfl rfl (by decide) (ls' := [(0, (aZ b1 x1)), (1, aS x2)]) rfl (lb' := fun g1 => [⟨g1, 62, [.bool b1, aS x1]⟩]) (fun _ => rfl) (fun g1 a V1 hgg1 S => ?_)
  refine tl_box S (T := 25) (cs := [.bool false, .slice none 0 0]) (rn_alloc rfl (Tryz.zeroValue25 _) rfl) rfl rfl rfl (by decide) (ls' := [(2, pT g1 0), (0, (aZ b1 x1)), (1, aS x2)]) rfl (lb' := fun g2 => [⟨g1, 62, [.bool b1, aS x1]⟩, ⟨g2, 25, [.bool false, .slice none 0 0]⟩]) (fun _ => rfl) (fun g2 a V2 hgg2 S => ?_)
  refine hK1 _ _ ?_
  refine wp_seq_k fun K2 hK2 => ?_
  have S := S.keep [4, 2, 1] (ls' := [(4, pT g2 0), (2, pT g1 0), (1, aS x2)]) rfl
  obtain ⟨W1, hW1⟩ : ∃ W, W = V2 := ⟨_, rfl⟩
  rw [← hW1] at S ⊢
  have S0 := S
  refine frm_region 9 [5, 6, 7, 8, 9, 10, 11, 12, 13] (fun i v V => match i with
      | 0 => v = pT g1 0
      | 1 => v = pT g1 0
      | 2 => v = .bool b1
      | 3 => v = pT g1 0
      | 4 => v = pT g1 1
      | 5 => v = aS x1
      | 6 => v = aS x2
      | 7 => NT (K + K') (x1.N * N) v V
      | _ => Z1 (K + K') (zOf b1 (x1.N * N)) v V) S (by kernel_rfl) (by kernel_rfl) rfl (by decide) rfl rfl ?_ ?_ ?_
  · intro i v V V2 hf hb
    match i, hf with
    | 0, hf => exact hf
    | 1, hf => exact hf
    | 2, hf => exact hf
    | 3, hf => exact hf
    | 4, hf => exact hf
    | 5, hf => exact hf
    | 6, hf => exact hf
    | 7, hf => exact NT.keep hf hb
    | _ + 8, hf => exact Z1.keep hf hb
  · intro i t ht a V S hB hd
    match i, ht with
    | 0, ht =>
      cases ht
      exact so_val rfl rfl (wanted_free rfl) (rn_field rfl (S.at 1 rfl) (fa_numerator_0_0 _)) rfl
    | 1, ht =>
      cases ht
      exact so_val rfl rfl (wanted_free rfl) (rn_field rfl (show tG a 5 <| pT g1 0 from hd 0 5 rfl (by kernel_rfl)) (fa_Int_0_0 _)) rfl
    | 2, ht =>
      cases ht
      exact so_val rfl rfl (wanted_free rfl) (rn_load1 rfl (show tG a 6 <| pT g1 0 from hd 1 6 rfl (by kernel_rfl)) (S.bx 0 rfl) (Tryz.isAgg4 _) rfl) rfl
    | 3, ht =>
      cases ht
      exact so_val rfl rfl (wanted_free rfl) (rn_field rfl (S.at 1 rfl) (fa_numerator_0_0 _)) rfl
    | 4, ht =>
      cases ht
      exact so_val rfl rfl (wanted_free rfl) (rn_field rfl (show tG a 8 <| pT g1 0 from hd 3 8 rfl (by kernel_rfl)) (fa_Int_1_0 _)) rfl
    | 5, ht =>
      cases ht
      exact so_val rfl rfl (wanted_free rfl) (rn_load1 rfl (show tG a 9 <| pT g1 1 from hd 4 9 rfl (by kernel_rfl)) (S.bx 0 rfl) (Tryz.isAgg23 _) rfl) rfl
    | 6, ht =>
      cases ht
      exact so_val rfl rfl (wanted_free rfl) (rn_move rfl (S.at 2 rfl)) rfl
    | 7, ht =>
      cases ht
      exact so_call rfl rfl (wanted_free rfl) (rn_call2 ⟨_, rfl⟩ (show tG a 10 <| aS x1 from hd 5 10 rfl (by kernel_rfl)) (show tG a 11 <| aS x2 from hd 6 11 rfl (by kernel_rfl)) (enters_of Tryz.func88 (by kernel_rfl) rfl)) (pMul (show N1 K (x1.N) (aS x1) _ from ⟨x1, rfl, rfl, hk1, (S.num 1 rfl)⟩) (show N1 K' (N) (aS x2) _ from ⟨x2, rfl, hN1, hk2, (S.num 0 rfl)⟩) (by omega) (by omega))
    | 8, ht =>
      cases ht
      obtain ⟨v, hv, hq⟩ := z1_mk (b := b1) ((show NT (K + K') (x1.N * N) (a.tmps.getD 12 undef) V from hd 7 12 rfl (by kernel_rfl))).any
      exact so_val rfl rfl (wanted_free rfl) (rn_build2 rfl (show tG a 7 <| .bool b1 from hd 2 7 rfl (by kernel_rfl)) rfl hv) hq
    | k + 9, ht => simp at ht
  · intro a1 V3 S hB hf
    obtain ⟨b2, x3, hv1, hz2, hk3, ok3⟩ := (show Z1 (K + K') (zOf b1 (x1.N * N)) (a1.tmps.getD 13 undef) V3 from hf 8 13 rfl)
    have S := S.add hv1
    have S := S.know ok3
    clear hf S0
    show wpList _ _ _ [_] _ _
    refine tl_store S (i := 1) (vs := [.bool b2, aS x3]) rfl (fun ht => rn_store rfl (S.at 1 rfl) (S.at 0 rfl) sz_Int rfl (Nat.le_of_ble_eq_true rfl) ht) (Nat.le_of_ble_eq_true rfl) rfl rfl rfl (lb' := [⟨g1, 62, [.bool b1, aS x1]⟩, ⟨g2, 25, [.bool b2, aS x3]⟩]) rfl (fun V4 S => ?_)
    refine hK2 _ _ ?_
    refine wp_ret ?_
    exact frm_retc rfl S (S.at 1 rfl) (i := 1) rfl Tryz.underlying25 rfl sz_Int ⟨_, rfl, ⟨b2, x3, rfl, (hz2).trans (zOf_times hz1), hk3, (S.num 0 rfl)⟩, S.below⟩
set_option maxRecDepth 100000 in
set_option maxHeartbeats 4000000 in
theorem p7told {K : Nat} {q : Rat} {v1 : Value} {V : World} (T : TT V) (h1 : QM K (q) v1 V) (hK0 : K ≤ 10000):
    Calls Tryz.prog 52 #[v1] V (Gives1 V (QT K q)) := by
  obtain ⟨b1, x1, y1, rfl, hq1, hk1, hk2, ok1, ok2⟩ := h1
  refine frm_body (e := [x1, y1]) Tryz.func52 rfl Tryz.ntmps52 (Nat.le_of_ble_eq_true rfl) [(0, (aG b1 x1 y1))] rfl (ok_cons ok1 (ok_cons ok2 ok_nil)) (fun a S => ?_)
  rcases b1 with _ | _
  · skip
    refine wp_seq_k fun K1 hK1 => ?_
    refine frm_plain ?_
    refine tl_box S (T := 64) (cs := (aL false x1 y1)) (rn_box rfl (S.at 0 rfl) rfl) rfl rfl rfl (by decide) (ls' := [(0, (aG false x1 y1))]) rfl (lb' := fun g1 => [⟨g1, 64, (aL false x1 y1)⟩]) (fun _ => rfl) (fun g1 a V1 hgg1 S => ?_)
    refine tl_box S (T := 27) (cs := [.bool false, .slice none 0 0, .slice none 0 0]) (rn_alloc rfl (Tryz.zeroValue27 _) rfl) rfl rfl rfl (by decide) (ls' := [(1, pT g1 0), (0, (aG false x1 y1))]) rfl (lb' := fun g2 => [⟨g1, 64, (aL false x1 y1)⟩, ⟨g2, 27, [.bool false, .slice none 0 0, .slice none 0 0]⟩]) (fun _ => rfl) (fun g2 a V2 hgg2 S => ?_)
    refine hK1 _ _ ?_
    refine wp_seq_k fun K2 hK2 => ?_
    have S := S.keep [2, 1] (ls' := [(2, pT g2 0), (1, pT g1 0)]) rfl
    refine frm_plain ?_
    refine tl_val S (v := pT g1 0) (rn_field rfl (S.at 1 rfl) (fa_number_0_0 _)) rfl rfl (by decide) (ls' := [(2, pT g2 0), (1, pT g1 0)]) rfl (fun a S => ?_)
    refine tl_val S (v := pT g1 0) (rn_field rfl (S.at 0 rfl) (fa_numerator_0_0 _)) rfl rfl (by decide) (ls' := [(6, pT g1 0), (2, pT g2 0), (1, pT g1 0)]) rfl (fun a S => ?_)
    refine tl_val S (v := pT g1 1) (rn_field rfl (S.at 0 rfl) (fa_Int_1_0 _)) rfl rfl (by decide) (ls' := [(7, pT g1 0), (6, pT g1 0), (2, pT g2 0), (1, pT g1 0)]) rfl (fun a S => ?_)
    refine tl_val S (v := aS x1) (rn_load1 rfl (S.at 0 rfl) (S.bx 0 rfl) (Tryz.isAgg23 _) rfl) rfl rfl (by decide) (ls' := [(8, pT g1 1), (7, pT g1 0), (6, pT g1 0), (2, pT g2 0), (1, pT g1 0)]) rfl (fun a S => ?_)
    refine tl_val S (v := pT g1 2) (rn_field rfl (S.at 5 rfl) (fa_number_1_0 _)) rfl rfl (by decide) (ls' := [(9, aS x1), (8, pT g1 1), (7, pT g1 0), (6, pT g1 0), (2, pT g2 0), (1, pT g1 0)]) rfl (fun a S => ?_)
    refine tl_val S (v := aS y1) (rn_load1 rfl (S.at 0 rfl) (S.bx 0 rfl) (Tryz.isAgg23 _) rfl) rfl rfl (by decide) (ls' := [(10, pT g1 2), (9, aS x1), (8, pT g1 1), (7, pT g1 0), (6, pT g1 0), (2, pT g2 0), (1, pT g1 0)]) rfl (fun a S => ?_)
    refine tl_call S (rn_call2 ⟨_, rfl⟩ (S.at 2 rfl) (S.at 0 rfl) (enters_of Tryz.func82 (by kernel_rfl) rfl)) (F := N2 (K) (K) (x1.N / Nat.gcd x1.N y1.N) (y1.N / Nat.gcd x1.N y1.N)) (pReduce (T.keep S.below) (show N1 K (x1.N) (aS x1) _ from ⟨x1, rfl, rfl, hk1, (S.num 0 rfl)⟩) (show N1 K (y1.N) (aS y1) _ from ⟨y1, rfl, rfl, hk2, (S.num 1 rfl)⟩) (by omega) (by omega)) rfl rfl (by decide) (ls' := [(11, aS y1), (10, pT g1 2), (9, aS x1), (8, pT g1 1), (7, pT g1 0), (6, pT g1 0), (2, pT g2 0), (1, pT g1 0)]) rfl (fun v a V3 hF hb S => ?_)
    obtain ⟨tv1, tv2, rfl, tf1, tf2⟩ := hF
    obtain ⟨x2, rfl, hN1, hn1, hk3, ok3⟩ := tf1
    obtain ⟨x3, rfl, hN2, hn2, hk4, ok4⟩ := tf2
    have S := S.know ok4
    have S := S.know ok3
    refine tl_val S (v := .tuple #[aS x2, aS x3]) (rn_move rfl (S.at 0 rfl)) rfl rfl (by decide) (ls' := [(12, .tuple #[aS x2, aS x3]), (11, aS y1), (10, pT g1 2), (9, aS x1), (8, pT g1 1), (7, pT g1 0), (6, pT g1 0), (2, pT g2 0), (1, pT g1 0)]) rfl (fun a S => ?_)
    refine tl_val S (v := aS x2) (rn_extract rfl (S.at 0 rfl) rfl) rfl rfl (by decide) (ls' := [(5, .tuple #[aS x2, aS x3]), (12, .tuple #[aS x2, aS x3]), (11, aS y1), (10, pT g1 2), (9, aS x1), (8, pT g1 1), (7, pT g1 0), (6, pT g1 0), (2, pT g2 0), (1, pT g1 0)]) rfl (fun a S => ?_)
    refine tl_val S (v := aS x3) (rn_extract rfl (S.at 1 rfl) rfl) rfl rfl (by decide) (ls' := [(13, aS x2), (5, .tuple #[aS x2, aS x3]), (12, .tuple #[aS x2, aS x3]), (11, aS y1), (10, pT g1 2), (9, aS x1), (8, pT g1 1), (7, pT g1 0), (6, pT g1 0), (2, pT g2 0), (1, pT g1 0)]) rfl (fun a S => ?_)
    refine tl_val S (v := aS x2) (rn_assign rfl (S.at 1 rfl)) rfl rfl (by decide) (ls' := [(14, aS x3), (13, aS x2), (5, .tuple #[aS x2, aS x3]), (12, .tuple #[aS x2, aS x3]), (11, aS y1), (10, pT g1 2), (9, aS x1), (8, pT g1 1), (7, pT g1 0), (6, pT g1 0), (2, pT g2 0), (1, pT g1 0)]) rfl (fun a S => ?_)
    refine tl_val S (v := aS x3) (rn_assign rfl (S.at 1 rfl)) rfl rfl (by decide) (ls' := [(3, aS x2), (14, aS x3), (13, aS x2), (5, .tuple #[aS x2, aS x3]), (12, .tuple #[aS x2, aS x3]), (11, aS y1), (10, pT g1 2), (9, aS x1), (8, pT g1 1), (7, pT g1 0), (6, pT g1 0), (2, pT g2 0), (1, pT g1 0)]) rfl (fun a S => ?_)
    refine hK2 _ _ ?_
    refine wp_seq_k fun K3 hK3 => ?_
    have S := S.keep [4, 3, 2, 1] (ls' := [(4, aS x3), (3, aS x2), (2, pT g2 0), (1, pT g1 0)]) rfl
    refine frm_plain ?_
    refine tl_val S (v := pT g1 0) (rn_field rfl (S.at 3 rfl) (fa_number_0_0 _)) rfl rfl (by decide) (ls' := [(4, aS x3), (3, aS x2), (2, pT g2 0), (1, pT g1 0)]) rfl (fun a S => ?_)
    refine tl_val S (v := pT g1 0) (rn_field rfl (S.at 0 rfl) (fa_numerator_0_0 _)) rfl rfl (by decide) (ls' := [(15, pT g1 0), (4, aS x3), (3, aS x2), (2, pT g2 0), (1, pT g1 0)]) rfl (fun a S => ?_)
    refine tl_val S (v := pT g1 0) (rn_field rfl (S.at 0 rfl) (fa_Int_0_0 _)) rfl rfl (by decide) (ls' := [(16, pT g1 0), (15, pT g1 0), (4, aS x3), (3, aS x2), (2, pT g2 0), (1, pT g1 0)]) rfl (fun a S => ?_)
    refine tl_val S (v := .bool false) (rn_load1 rfl (S.at 0 rfl) (S.bx 0 rfl) (Tryz.isAgg4 _) rfl) rfl rfl (by decide) (ls' := [(17, pT g1 0), (16, pT g1 0), (15, pT g1 0), (4, aS x3), (3, aS x2), (2, pT g2 0), (1, pT g1 0)]) rfl (fun a S => ?_)
    refine tl_val S (v := .bool false) (rn_move rfl (S.at 0 rfl)) rfl rfl (by decide) (ls' := [(18, .bool false), (17, pT g1 0), (16, pT g1 0), (15, pT g1 0), (4, aS x3), (3, aS x2), (2, pT g2 0), (1, pT g1 0)]) rfl (fun a S => ?_)
    refine tl_skip S rfl rfl rfl (S.at 0 rfl) rfl rfl (by decide) (ls' := [(19, .bool false), (18, .bool false), (17, pT g1 0), (16, pT g1 0), (15, pT g1 0), (4, aS x3), (3, aS x2), (2, pT g2 0), (1, pT g1 0)]) rfl (fun a S => ?_)
    refine tl_skip S rfl rfl rfl (S.at 1 rfl) rfl rfl (by decide) (ls' := [(20, undef), (19, .bool false), (18, .bool false), (17, pT g1 0), (16, pT g1 0), (15, pT g1 0), (4, aS x3), (3, aS x2), (2, pT g2 0), (1, pT g1 0)]) rfl (fun a S => ?_)
    refine tl_skip S rfl rfl rfl (S.at 2 rfl) rfl rfl (by decide) (ls' := [(21, undef), (20, undef), (19, .bool false), (18, .bool false), (17, pT g1 0), (16, pT g1 0), (15, pT g1 0), (4, aS x3), (3, aS x2), (2, pT g2 0), (1, pT g1 0)]) rfl (fun a S => ?_)
    refine tl_val S (v := .bool false) (rn_pick false rfl (S.at 3 rfl) rfl) rfl rfl (by decide) (ls' := [(22, undef), (21, undef), (20, undef), (19, .bool false), (18, .bool false), (17, pT g1 0), (16, pT g1 0), (15, pT g1 0), (4, aS x3), (3, aS x2), (2, pT g2 0), (1, pT g1 0)]) rfl (fun a S => ?_)
    refine tl_val S (v := aS x2) (rn_move rfl (S.at 10 rfl)) rfl rfl (by decide) (ls' := [(23, .bool false), (22, undef), (21, undef), (20, undef), (19, .bool false), (18, .bool false), (17, pT g1 0), (16, pT g1 0), (15, pT g1 0), (4, aS x3), (3, aS x2), (2, pT g2 0), (1, pT g1 0)]) rfl (fun a S => ?_)
    refine tl_val S (v := (aZ false x2)) (rn_build2 rfl (S.at 1 rfl) (S.at 0 rfl) (bd_Int _ _ _ _)) rfl rfl (by decide) (ls' := [(24, aS x2), (23, .bool false), (22, undef), (21, undef), (20, undef), (19, .bool false), (18, .bool false), (17, pT g1 0), (16, pT g1 0), (15, pT g1 0), (4, aS x3), (3, aS x2), (2, pT g2 0), (1, pT g1 0)]) rfl (fun a S => ?_)
    refine tl_val S (v := aS x3) (rn_move rfl (S.at 11 rfl)) rfl rfl (by decide) (ls' := [(25, (aZ false x2)), (24, aS x2), (23, .bool false), (22, undef), (21, undef), (20, undef), (19, .bool false), (18, .bool false), (17, pT g1 0), (16, pT g1 0), (15, pT g1 0), (4, aS x3), (3, aS x2), (2, pT g2 0), (1, pT g1 0)]) rfl (fun a S => ?_)
    refine tl_val S (v := (aG false x2 x3)) (rn_build2 rfl (S.at 1 rfl) (S.at 0 rfl) (bd_Rat _ _ _ _ _ _ _)) rfl rfl (by decide) (ls' := [(26, aS x3), (25, (aZ false x2)), (24, aS x2), (23, .bool false), (22, undef), (21, undef), (20, undef), (19, .bool false), (18, .bool false), (17, pT g1 0), (16, pT g1 0), (15, pT g1 0), (4, aS x3), (3, aS x2), (2, pT g2 0), (1, pT g1 0)]) rfl (fun a S => ?_)
    refine tl_store S (i := 1) (vs := (aL false x2 x3)) rfl (fun ht => rn_store rfl (S.at 15 rfl) (S.at 0 rfl) sz_Rat rfl (Nat.le_of_ble_eq_true rfl) ht) (Nat.le_of_ble_eq_true rfl) rfl rfl rfl (lb' := [⟨g1, 64, (aL false x1 y1)⟩, ⟨g2, 27, (aL false x2 x3)⟩]) rfl (fun V4 S => ?_)
    refine hK3 _ _ ?_
    refine wp_ret ?_
    exact frm_retc rfl S (S.at 15 rfl) (i := 1) rfl Tryz.underlying27 rfl sz_Rat ⟨_, rfl, ⟨_, x2, x3, rfl, isQ_red false hq1.1 hq1.2 hN1 hn1 hN2 hn2 (by simp), hk3, hk4, (S.num 0 rfl), (S.num 1 rfl)⟩, S.below⟩
  · skip
    refine wp_seq_k fun K4 hK4 => ?_
    refine frm_plain ?_
    refine tl_box S (T := 64) (cs := (aL true x1 y1)) (rn_box rfl (S.at 0 rfl) rfl) rfl rfl rfl (by decide) (ls' := [(0, (aG true x1 y1))]) rfl (lb' := fun g3 => [⟨g3, 64, (aL true x1 y1)⟩]) (fun _ => rfl) (fun g3 a V5 hgg3 S => ?_)
    refine tl_box S (T := 27) (cs := [.bool false, .slice none 0 0, .slice none 0 0]) (rn_alloc rfl (Tryz.zeroValue27 _) rfl) rfl rfl rfl (by decide) (ls' := [(1, pT g3 0), (0, (aG true x1 y1))]) rfl (lb' := fun g4 => [⟨g3, 64, (aL true x1 y1)⟩, ⟨g4, 27, [.bool false, .slice none 0 0, .slice none 0 0]⟩]) (fun _ => rfl) (fun g4 a V6 hgg4 S => ?_)
    refine hK4 _ _ ?_
    refine wp_seq_k fun K5 hK5 => ?_
    have S := S.keep [2, 1] (ls' := [(2, pT g4 0), (1, pT g3 0)]) rfl
    refine frm_plain ?_
    refine tl_val S (v := pT g3 0) (rn_field rfl (S.at 1 rfl) (fa_number_0_0 _)) rfl rfl (by decide) (ls' := [(2, pT g4 0), (1, pT g3 0)]) rfl (fun a S => ?_)
    refine tl_val S (v := pT g3 0) (rn_field rfl (S.at 0 rfl) (fa_numerator_0_0 _)) rfl rfl (by decide) (ls' := [(6, pT g3 0), (2, pT g4 0), (1, pT g3 0)]) rfl (fun a S => ?_)
    refine tl_val S (v := pT g3 1) (rn_field rfl (S.at 0 rfl) (fa_Int_1_0 _)) rfl rfl (by decide) (ls' := [(7, pT g3 0), (6, pT g3 0), (2, pT g4 0), (1, pT g3 0)]) rfl (fun a S => ?_)
    refine tl_val S (v := aS x1) (rn_load1 rfl (S.at 0 rfl) (S.bx 0 rfl) (Tryz.isAgg23 _) rfl) rfl rfl (by decide) (ls' := [(8, pT g3 1), (7, pT g3 0), (6, pT g3 0), (2, pT g4 0), (1, pT g3 0)]) rfl (fun a S => ?_)
    refine tl_val S (v := pT g3 2) (rn_field rfl (S.at 5 rfl) (fa_number_1_0 _)) rfl rfl (by decide) (ls' := [(9, aS x1), (8, pT g3 1), (7, pT g3 0), (6, pT g3 0), (2, pT g4 0), (1, pT g3 0)]) rfl (fun a S => ?_)
    refine tl_val S (v := aS y1) (rn_load1 rfl (S.at 0 rfl) (S.bx 0 rfl) (Tryz.isAgg23 _) rfl) rfl rfl (by decide) (ls' := [(10, pT g3 2), (9, aS x1), (8, pT g3 1), (7, pT g3 0), (6, pT g3 0), (2, pT g4 0), (1, pT g3 0)]) rfl (fun a S => ?_)
    refine tl_call S (rn_call2 ⟨_, rfl⟩ (S.at 2 rfl) (S.at 0 rfl) (enters_of Tryz.func82 (by kernel_rfl) rfl)) (F := N2 (K) (K) (x1.N / Nat.gcd x1.N y1.N) (y1.N / Nat.gcd x1.N y1.N)) (pReduce (T.keep S.below) (show N1 K (x1.N) (aS x1) _ from ⟨x1, rfl, rfl, hk1, (S.num 0 rfl)⟩) (show N1 K (y1.N) (aS y1) _ from ⟨y1, rfl, rfl, hk2, (S.num 1 rfl)⟩) (by omega) (by omega)) rfl rfl (by decide) (ls' := [(11, aS y1), (10, pT g3 2), (9, aS x1), (8, pT g3 1), (7, pT g3 0), (6, pT g3 0), (2, pT g4 0), (1, pT g3 0)]) rfl (fun v a V7 hF hb S => ?_)
    obtain ⟨tv3, tv4, rfl, tf3, tf4⟩ := hF
    obtain ⟨x4, rfl, hN3, hn3, hk5, ok5⟩ := tf3
    obtain ⟨x5, rfl, hN4, hn4, hk6, ok6⟩ := tf4
    have S := S.know ok6
    have S := S.know ok5
    refine tl_val S (v := .tuple #[aS x4, aS x5]) (rn_move rfl (S.at 0 rfl)) rfl rfl (by decide) (ls' := [(12, .tuple #[aS x4, aS x5]), (11, aS y1), (10, pT g3 2), (9, aS x1), (8, pT g3 1), (7, pT g3 0), (6, pT g3 0), (2, pT g4 0), (1, pT g3 0)]) rfl (fun a S => ?_)
    refine tl_val S (v := aS x4) (rn_extract rfl (S.at 0 rfl) rfl) rfl rfl (by decide) (ls' := [(5, .tuple #[aS x4, aS x5]), (12, .tuple #[aS x4, aS x5]), (11, aS y1), (10, pT g3 2), (9, aS x1), (8, pT g3 1), (7, pT g3 0), (6, pT g3 0), (2, pT g4 0), (1, pT g3 0)]) rfl (fun a S => ?_)
    refine tl_val S (v := aS x5) (rn_extract rfl (S.at 1 rfl) rfl) rfl rfl (by decide) (ls' := [(13, aS x4), (5, .tuple #[aS x4, aS x5]), (12, .tuple #[aS x4, aS x5]), (11, aS y1), (10, pT g3 2), (9, aS x1), (8, pT g3 1), (7, pT g3 0), (6, pT g3 0), (2, pT g4 0), (1, pT g3 0)]) rfl (fun a S => ?_)
    refine tl_val S (v := aS x4) (rn_assign rfl (S.at 1 rfl)) rfl rfl (by decide) (ls' := [(14, aS x5), (13, aS x4), (5, .tuple #[aS x4, aS x5]), (12, .tuple #[aS x4, aS x5]), (11, aS y1), (10, pT g3 2), (9, aS x1), (8, pT g3 1), (7, pT g3 0), (6, pT g3 0), (2, pT g4 0), (1, pT g3 0)]) rfl (fun a S => ?_)
    refine tl_val S (v := aS x5) (rn_assign rfl (S.at 1 rfl)) rfl rfl (by decide) (ls' := [(3, aS x4), (14, aS x5), (13, aS x4), (5, .tuple #[aS x4, aS x5]), (12, .tuple #[aS x4, aS x5]), (11, aS y1), (10, pT g3 2), (9, aS x1), (8, pT g3 1), (7, pT g3 0), (6, pT g3 0), (2, pT g4 0), (1, pT g3 0)]) rfl (fun a S => ?_)
    refine hK5 _ _ ?_
    refine wp_seq_k fun K6 hK6 => ?_
    have S := S.keep [4, 3, 2, 1] (ls' := [(4, aS x5), (3, aS x4), (2, pT g4 0), (1, pT g3 0)]) rfl
    refine frm_plain ?_
    refine tl_val S (v := pT g3 0) (rn_field rfl (S.at 3 rfl) (fa_number_0_0 _)) rfl rfl (by decide) (ls' := [(4, aS x5), (3, aS x4), (2, pT g4 0), (1, pT g3 0)]) rfl (fun a S => ?_)
    refine tl_val S (v := pT g3 0) (rn_field rfl (S.at 0 rfl) (fa_numerator_0_0 _)) rfl rfl (by decide) (ls' := [(15, pT g3 0), (4, aS x5), (3, aS x4), (2, pT g4 0), (1, pT g3 0)]) rfl (fun a S => ?_)
    refine tl_val S (v := pT g3 0) (rn_field rfl (S.at 0 rfl) (fa_Int_0_0 _)) rfl rfl (by decide) (ls' := [(16, pT g3 0), (15, pT g3 0), (4, aS x5), (3, aS x4), (2, pT g4 0), (1, pT g3 0)]) rfl (fun a S => ?_)
    refine tl_val S (v := .bool true) (rn_load1 rfl (S.at 0 rfl) (S.bx 0 rfl) (Tryz.isAgg4 _) rfl) rfl rfl (by decide) (ls' := [(17, pT g3 0), (16, pT g3 0), (15, pT g3 0), (4, aS x5), (3, aS x4), (2, pT g4 0), (1, pT g3 0)]) rfl (fun a S => ?_)
    refine tl_val S (v := .bool true) (rn_move rfl (S.at 0 rfl)) rfl rfl (by decide) (ls' := [(18, .bool true), (17, pT g3 0), (16, pT g3 0), (15, pT g3 0), (4, aS x5), (3, aS x4), (2, pT g4 0), (1, pT g3 0)]) rfl (fun a S => ?_)
    refine tl_valg S rfl rfl rfl (S.at 0 rfl) rfl (v := aS x4) (rn_move rfl (S.at 6 rfl)) rfl (by decide) (ls' := [(19, .bool true), (18, .bool true), (17, pT g3 0), (16, pT g3 0), (15, pT g3 0), (4, aS x5), (3, aS x4), (2, pT g4 0), (1, pT g3 0)]) rfl (fun a S => ?_)
    refine tl_valg S rfl rfl rfl (S.at 1 rfl) rfl (v := .int .i64 (((x4.n : Nat) : Int))) (rn_len (by decide) rfl (S.at 0 rfl)) rfl (by decide) (ls' := [(20, aS x4), (19, .bool true), (18, .bool true), (17, pT g3 0), (16, pT g3 0), (15, pT g3 0), (4, aS x5), (3, aS x4), (2, pT g4 0), (1, pT g3 0)]) rfl (fun a S => ?_)
    refine tl_valg S rfl rfl rfl (S.at 2 rfl) rfl (v := .bool (decide (0 < ((x4.n : Nat) : Int)))) (rn_gtr rfl (S.at 0 rfl) rfl) rfl (by decide) (ls' := [(21, .int .i64 (((x4.n : Nat) : Int))), (20, aS x4), (19, .bool true), (18, .bool true), (17, pT g3 0), (16, pT g3 0), (15, pT g3 0), (4, aS x5), (3, aS x4), (2, pT g4 0), (1, pT g3 0)]) rfl (fun a S => ?_)
    refine tl_val S (v := .bool (decide (0 < ((x4.n : Nat) : Int)))) (rn_pick true rfl (S.at 3 rfl) (S.at 0 rfl)) rfl rfl (by decide) (ls' := [(22, .bool (decide (0 < ((x4.n : Nat) : Int)))), (21, .int .i64 (((x4.n : Nat) : Int))), (20, aS x4), (19, .bool true), (18, .bool true), (17, pT g3 0), (16, pT g3 0), (15, pT g3 0), (4, aS x5), (3, aS x4), (2, pT g4 0), (1, pT g3 0)]) rfl (fun a S => ?_)
    refine tl_val S (v := aS x4) (rn_move rfl (S.at 10 rfl)) rfl rfl (by decide) (ls' := [(23, .bool (decide (0 < ((x4.n : Nat) : Int)))), (22, .bool (decide (0 < ((x4.n : Nat) : Int)))), (21, .int .i64 (((x4.n : Nat) : Int))), (20, aS x4), (19, .bool true), (18, .bool true), (17, pT g3 0), (16, pT g3 0), (15, pT g3 0), (4, aS x5), (3, aS x4), (2, pT g4 0), (1, pT g3 0)]) rfl (fun a S => ?_)
    refine tl_val S (v := .agg #[.bool (decide (0 < ((x4.n : Nat) : Int))), aS x4]) (rn_build2 rfl (S.at 1 rfl) (S.at 0 rfl) (bd_Int _ _ _ _)) rfl rfl (by decide) (ls' := [(24, aS x4), (23, .bool (decide (0 < ((x4.n : Nat) : Int)))), (22, .bool (decide (0 < ((x4.n : Nat) : Int)))), (21, .int .i64 (((x4.n : Nat) : Int))), (20, aS x4), (19, .bool true), (18, .bool true), (17, pT g3 0), (16, pT g3 0), (15, pT g3 0), (4, aS x5), (3, aS x4), (2, pT g4 0), (1, pT g3 0)]) rfl (fun a S => ?_)
    refine tl_val S (v := aS x5) (rn_move rfl (S.at 11 rfl)) rfl rfl (by decide) (ls' := [(25, .agg #[.bool (decide (0 < ((x4.n : Nat) : Int))), aS x4]), (24, aS x4), (23, .bool (decide (0 < ((x4.n : Nat) : Int)))), (22, .bool (decide (0 < ((x4.n : Nat) : Int)))), (21, .int .i64 (((x4.n : Nat) : Int))), (20, aS x4), (19, .bool true), (18, .bool true), (17, pT g3 0), (16, pT g3 0), (15, pT g3 0), (4, aS x5), (3, aS x4), (2, pT g4 0), (1, pT g3 0)]) rfl (fun a S => ?_)
    refine tl_val S (v := .agg #[.bool (decide (0 < ((x4.n : Nat) : Int))), aS x4, aS x5]) (rn_build2 rfl (S.at 1 rfl) (S.at 0 rfl) (bd_Rat _ _ _ _ _ _ _)) rfl rfl (by decide) (ls' := [(26, aS x5), (25, .agg #[.bool (decide (0 < ((x4.n : Nat) : Int))), aS x4]), (24, aS x4), (23, .bool (decide (0 < ((x4.n : Nat) : Int)))), (22, .bool (decide (0 < ((x4.n : Nat) : Int)))), (21, .int .i64 (((x4.n : Nat) : Int))), (20, aS x4), (19, .bool true), (18, .bool true), (17, pT g3 0), (16, pT g3 0), (15, pT g3 0), (4, aS x5), (3, aS x4), (2, pT g4 0), (1, pT g3 0)]) rfl (fun a S => ?_)
    refine tl_store S (i := 1) (vs := [.bool (decide (0 < ((x4.n : Nat) : Int))), aS x4, aS x5]) rfl (fun ht => rn_store rfl (S.at 15 rfl) (S.at 0 rfl) sz_Rat rfl (Nat.le_of_ble_eq_true rfl) ht) (Nat.le_of_ble_eq_true rfl) rfl rfl rfl (lb' := [⟨g3, 64, (aL true x1 y1)⟩, ⟨g4, 27, [.bool (decide (0 < ((x4.n : Nat) : Int))), aS x4, aS x5]⟩]) rfl (fun V8 S => ?_)
    refine hK6 _ _ ?_
    refine wp_ret ?_
    exact frm_retc rfl S (S.at 15 rfl) (i := 1) rfl Tryz.underlying27 rfl sz_Rat ⟨_, rfl, ⟨_, x4, x5, rfl, isQ_red true hq1.1 hq1.2 hN3 hn3 hN4 hn4 (by simp), hk5, hk6, (S.num 0 rfl), (S.num 1 rfl)⟩, S.below⟩
set_option maxRecDepth 100000 in
set_option maxHeartbeats 4000000 in
theorem p7compare {K K' : Nat} {q1 q2 : Rat} {v1 v2 : Value} {V : World} (T : TT V) (h1 : QM K (q1) v1 V) (h2 : QM K' (q2) v2 V) (hK0 : K ≤ 5000) (hK1 : K' ≤ 5000):
    Calls Tryz.prog 63 #[v1, v2] V (Gives1 V (fun v _ => v = .int .i64 (cmpR q1 q2))) := by
  obtain ⟨b1, x1, y1, rfl, hq1, hk1, hk2, ok1, ok2⟩ := h1
  obtain ⟨b2, x2, y2, rfl, hq2, hk3, hk4, ok3, ok4⟩ := h2
  refine frm_body (e := [x2, y2, x1, y1]) Tryz.func63 rfl Tryz.ntmps63 (Nat.le_of_ble_eq_true rfl) [(0, (aG b1 x1 y1)), (1, (aG b2 x2 y2))] rfl (ok_cons ok3 (ok_cons ok4 (ok_cons ok1 (ok_cons ok2 ok_nil)))) (fun a S => ?_)
  refine wp_seq_k fun K1 hK1 => ?_
  refine frm_plain ?_
  refine tl_box S (T := 64) (cs := (aL b1 x1 y1)) (rn_box rfl (S.at 0 rfl) rfl) rfl rfl rfl (by decide) (ls' := [(0, (aG b1 x1 y1)), (1, (aG b2 x2 y2))]) rfl (lb' := fun g1 => [⟨g1, 64, (aL b1 x1 y1)⟩]) (fun _ => rfl) (fun g1 a V1 hgg1 S => ?_)
  refine tl_box S (T := 64) (cs := (aL b2 x2 y2)) (rn_box rfl (S.at 2 rfl) rfl) rfl rfl rfl (by decide) (ls' := [(2, pT g1 0), (0, (aG b1 x1 y1)), (1, (aG b2 x2 y2))]) rfl (lb' := fun g2 => [⟨g1, 64, (aL b1 x1 y1)⟩, ⟨g2, 64, (aL b2 x2 y2)⟩]) (fun _ => rfl) (fun g2 a V2 hgg2 S => ?_)
  refine tl_val S (v := .int .i64 0) (rn_assignc rfl) rfl rfl (by decide) (ls' := [(3, pT g2 0), (2, pT g1 0), (0, (aG b1 x1 y1)), (1, (aG b2 x2 y2))]) rfl (fun a S => ?_)
  refine hK1 _ _ ?_
  refine wp_seq_k fun K2 hK2 => ?_
  refine wp_seq_k fun K3 hK3 => ?_
  have S := S.keep [3, 2] (ls' := [(3, pT g2 0), (2, pT g1 0)]) rfl
  refine frm_plain ?_
  refine tl_val S (v := pT g1 2) (rn_field rfl (S.at 1 rfl) (fa_number_1_0 _)) rfl rfl (by decide) (ls' := [(3, pT g2 0), (2, pT g1 0)]) rfl (fun a S => ?_)
  refine tl_val S (v := aS y1) (rn_load1 rfl (S.at 0 rfl) (S.bx 0 rfl) (Tryz.isAgg23 _) rfl) rfl rfl (by decide) (ls' := [(5, pT g1 2), (3, pT g2 0), (2, pT g1 0)]) rfl (fun a S => ?_)
  refine tl_val S (v := pT g2 2) (rn_field rfl (S.at 2 rfl) (fa_number_1_0 _)) rfl rfl (by decide) (ls' := [(6, aS y1), (5, pT g1 2), (3, pT g2 0), (2, pT g1 0)]) rfl (fun a S => ?_)
  refine tl_val S (v := aS y2) (rn_load1 rfl (S.at 0 rfl) (S.bx 1 rfl) (Tryz.isAgg23 _) rfl) rfl rfl (by decide) (ls' := [(7, pT g2 2), (6, aS y1), (5, pT g1 2), (3, pT g2 0), (2, pT g1 0)]) rfl (fun a S => ?_)
  refine tl_call S (rn_call2 ⟨_, rfl⟩ (S.at 2 rfl) (S.at 0 rfl) (enters_of Tryz.func89 (by kernel_rfl) rfl)) (F := (fun v _ => v = .int .i64 (cmpN y1.N y2.N))) (pCmp (show N1 K (y1.N) (aS y1) _ from ⟨y1, rfl, rfl, hk2, (S.num 3 rfl)⟩) (show N1 K' (y2.N) (aS y2) _ from ⟨y2, rfl, rfl, hk4, (S.num 1 rfl)⟩)) rfl rfl (by decide) (ls' := [(8, aS y2), (7, pT g2 2), (6, aS y1), (5, pT g1 2), (3, pT g2 0), (2, pT g1 0)]) rfl (fun v a V3 hF hb S => ?_)
  subst hF
  refine tl_val S (v := .bool (decide (cmpN y1.N y2.N = 0))) (rn_eql _ (by decide) rfl (S.at 0 rfl) rfl) rfl rfl (by decide) (ls' := [(9, .int .i64 (cmpN y1.N y2.N)), (8, aS y2), (7, pT g2 2), (6, aS y1), (5, pT g1 2), (3, pT g2 0), (2, pT g1 0)]) rfl (fun a S => ?_)
  refine hK3 _ _ ?_
  rcases Bool.eq_false_or_eq_true (decide (cmpN y1.N y2.N = 0)) with hc10 | hc10
  · refine wp_cond_true ((S.at 0 rfl).trans (congrArg Value.bool hc10)) ?_
    refine wp_seq_k fun K4 hK4 => ?_
    have S := S.keep [3, 2] (ls' := [(3, pT g2 0), (2, pT g1 0)]) rfl
    refine frm_plain ?_
    refine tl_val S (v := pT g1 0) (rn_field rfl (S.at 1 rfl) (fa_number_0_0 _)) rfl rfl (by decide) (ls' := [(3, pT g2 0), (2, pT g1 0)]) rfl (fun a S => ?_)
    refine tl_val S (v := pT g1 0) (rn_field rfl (S.at 0 rfl) (fa_numerator_0_0 _)) rfl rfl (by decide) (ls' := [(11, pT g1 0), (3, pT g2 0), (2, pT g1 0)]) rfl (fun a S => ?_)
    refine tl_val S (v := (aZ b1 x1)) (rn_load rfl (S.at 0 rfl) (S.bx 0 rfl) Tryz.underlying25 rfl (vs := [.bool b1, aS x1]) sz_Int rfl) rfl rfl (by decide) (ls' := [(12, pT g1 0), (11, pT g1 0), (3, pT g2 0), (2, pT g1 0)]) rfl (fun a S => ?_)
    refine tl_val S (v := pT g2 0) (rn_field rfl (S.at 3 rfl) (fa_number_0_0 _)) rfl rfl (by decide) (ls' := [(13, (aZ b1 x1)), (12, pT g1 0), (11, pT g1 0), (3, pT g2 0), (2, pT g1 0)]) rfl (fun a S => ?_)
    refine tl_val S (v := pT g2 0) (rn_field rfl (S.at 0 rfl) (fa_numerator_0_0 _)) rfl rfl (by decide) (ls' := [(14, pT g2 0), (13, (aZ b1 x1)), (12, pT g1 0), (11, pT g1 0), (3, pT g2 0), (2, pT g1 0)]) rfl (fun a S => ?_)
    refine tl_val S (v := (aZ b2 x2)) (rn_load rfl (S.at 0 rfl) (S.bx 1 rfl) Tryz.underlying25 rfl (vs := [.bool b2, aS x2]) sz_Int rfl) rfl rfl (by decide) (ls' := [(15, pT g2 0), (14, pT g2 0), (13, (aZ b1 x1)), (12, pT g1 0), (11, pT g1 0), (3, pT g2 0), (2, pT g1 0)]) rfl (fun a S => ?_)
    refine tl_call S (rn_call2 ⟨_, rfl⟩ (S.at 3 rfl) (S.at 0 rfl) (enters_of Tryz.func90 (by kernel_rfl) rfl)) (F := (fun v _ => v = .int .i64 (cmpZ (zOf b1 x1.N) (zOf b2 x2.N)))) (psCmp (T.keep S.below) (show Z1 K (zOf b1 x1.N) ((aZ b1 x1)) _ from ⟨b1, x1, rfl, rfl, hk1, (S.num 2 rfl)⟩) (show Z1 K' (zOf b2 x2.N) ((aZ b2 x2)) _ from ⟨b2, x2, rfl, rfl, hk3, (S.num 0 rfl)⟩) (by omega) (by omega)) rfl rfl (by decide) (ls' := [(16, (aZ b2 x2)), (15, pT g2 0), (14, pT g2 0), (13, (aZ b1 x1)), (12, pT g1 0), (11, pT g1 0), (3, pT g2 0), (2, pT g1 0)]) rfl (fun v a V4 hF hb S => ?_)
    subst hF
    refine tl_val S (v := .int .i64 (cmpZ (zOf b1 x1.N) (zOf b2 x2.N))) (rn_assign rfl (S.at 0 rfl)) rfl rfl (by decide) (ls' := [(17, .int .i64 (cmpZ (zOf b1 x1.N) (zOf b2 x2.N))), (16, (aZ b2 x2)), (15, pT g2 0), (14, pT g2 0), (13, (aZ b1 x1)), (12, pT g1 0), (11, pT g1 0), (3, pT g2 0), (2, pT g1 0)]) rfl (fun a S => ?_)
    refine hK4 _ _ ?_
    refine wp_ret ?_
    exact frm_ret1 rfl S (S.at 0 rfl) ⟨_, rfl, congrArg (Value.int .i64) (cmp_same hc10 hq1 hq2), S.below⟩
  · refine wp_cond_false ((S.at 0 rfl).trans (congrArg Value.bool hc10)) ?_
    refine wp_skip ?_
    refine hK2 _ _ ?_
    refine wp_seq_k fun K5 hK5 => ?_
    have S := S.keep [3, 2] (ls' := [(3, pT g2 0), (2, pT g1 0)]) rfl
    obtain ⟨W1, hW1⟩ : ∃ W, W = V3 := ⟨_, rfl⟩
    rw [← hW1] at S ⊢
    have S0 := S
    refine frm_region 11 [18, 19, 20, 21, 22, 23, 24, 25, 26, 27, 28] (fun i v V => match i with
        | 0 => v = pT g1 0
        | 1 => v = (aZ b1 x1)
        | 2 => v = pT g2 2
        | 3 => v = aS y2
        | 4 => Z1 (K + K') ((zOf b1 x1.N) * (y2.N : Nat)) v V
        | 5 => v = pT g2 0
        | 6 => v = (aZ b2 x2)
        | 7 => v = pT g1 2
        | 8 => v = aS y1
        | 9 => Z1 (K' + K) ((zOf b2 x2.N) * (y1.N : Nat)) v V
        | _ => v = .int .i64 (cmpZ ((zOf b1 x1.N) * (y2.N : Nat)) ((zOf b2 x2.N) * (y1.N : Nat)))) S (by kernel_rfl) (by kernel_rfl) rfl (by decide) rfl rfl ?_ ?_ ?_
    · intro i v V V2 hf hb
      match i, hf with
      | 0, hf => exact hf
      | 1, hf => exact hf
      | 2, hf => exact hf
      | 3, hf => exact hf
      | 4, hf => exact Z1.keep hf hb
      | 5, hf => exact hf
      | 6, hf => exact hf
      | 7, hf => exact hf
      | 8, hf => exact hf
      | 9, hf => exact Z1.keep hf hb
      | _ + 10, hf => exact hf
    · intro i t ht a V S hB hd
      match i, ht with
      | 0, ht =>
        cases ht
        exact so_val rfl rfl (wanted_free rfl) (rn_field rfl (S.at 1 rfl) (fa_number_0_0 _)) rfl
      | 1, ht =>
        cases ht
        exact so_val rfl rfl (wanted_free rfl) (rn_load rfl (show tG a 18 <| pT g1 0 from hd 0 18 rfl (by kernel_rfl)) (S.bx 0 rfl) Tryz.underlying62 rfl (vs := [.bool b1, aS x1]) sz_numerator rfl) rfl
      | 2, ht =>
        cases ht
        exact so_val rfl rfl (wanted_free rfl) (rn_field rfl (S.at 0 rfl) (fa_number_1_0 _)) rfl
      | 3, ht =>
        cases ht
        exact so_val rfl rfl (wanted_free rfl) (rn_load1 rfl (show tG a 20 <| pT g2 2 from hd 2 20 rfl (by kernel_rfl)) (S.bx 1 rfl) (Tryz.isAgg23 _) rfl) rfl
      | 4, ht =>
        cases ht
        exact so_call rfl rfl (wanted_free rfl) (rn_call2 ⟨_, rfl⟩ (show tG a 19 <| (aZ b1 x1) from hd 1 19 rfl (by kernel_rfl)) (show tG a 21 <| aS y2 from hd 3 21 rfl (by kernel_rfl)) (enters_of Tryz.func91 (by kernel_rfl) rfl)) (p7times (show Z1 K (zOf b1 x1.N) ((aZ b1 x1)) _ from ⟨b1, x1, rfl, rfl, hk1, (S.num 2 rfl)⟩) (show N1 K' (y2.N) (aS y2) _ from ⟨y2, rfl, rfl, hk4, (S.num 1 rfl)⟩) (by omega) (by omega))
      | 5, ht =>
        cases ht
        exact so_val rfl rfl (wanted_free rfl) (rn_field rfl (S.at 0 rfl) (fa_number_0_0 _)) rfl
      | 6, ht =>
        cases ht
        exact so_val rfl rfl (wanted_free rfl) (rn_load rfl (show tG a 23 <| pT g2 0 from hd 5 23 rfl (by kernel_rfl)) (S.bx 1 rfl) Tryz.underlying62 rfl (vs := [.bool b2, aS x2]) sz_numerator rfl) rfl
      | 7, ht =>
        cases ht
        exact so_val rfl rfl (wanted_free rfl) (rn_field rfl (S.at 1 rfl) (fa_number_1_0 _)) rfl
      | 8, ht =>
        cases ht
        exact so_val rfl rfl (wanted_free rfl) (rn_load1 rfl (show tG a 25 <| pT g1 2 from hd 7 25 rfl (by kernel_rfl)) (S.bx 0 rfl) (Tryz.isAgg23 _) rfl) rfl
      | 9, ht =>
        cases ht
        exact so_call rfl rfl (wanted_free rfl) (rn_call2 ⟨_, rfl⟩ (show tG a 24 <| (aZ b2 x2) from hd 6 24 rfl (by kernel_rfl)) (show tG a 26 <| aS y1 from hd 8 26 rfl (by kernel_rfl)) (enters_of Tryz.func91 (by kernel_rfl) rfl)) (p7times (show Z1 K' (zOf b2 x2.N) ((aZ b2 x2)) _ from ⟨b2, x2, rfl, rfl, hk3, (S.num 0 rfl)⟩) (show N1 K (y1.N) (aS y1) _ from ⟨y1, rfl, rfl, hk2, (S.num 3 rfl)⟩) (by omega) (by omega))
      | 10, ht =>
        cases ht
        exact so_call rfl rfl (wanted_free rfl) (rn_call2 ⟨_, rfl⟩ rfl rfl (enters_of Tryz.func90 (by kernel_rfl) rfl)) (psCmp (T.keep S.below) (show Z1 (K + K') ((zOf b1 x1.N) * (y2.N : Nat)) (a.tmps.getD 22 undef) V from hd 4 22 rfl (by kernel_rfl)) (show Z1 (K' + K) ((zOf b2 x2.N) * (y1.N : Nat)) (a.tmps.getD 27 undef) V from hd 9 27 rfl (by kernel_rfl)) (by omega) (by omega))
      | k + 11, ht => simp at ht
    · intro a1 V5 S hB hf
      have S := S.add (show a1.tmps.getD 28 undef = .int .i64 (cmpZ ((zOf b1 x1.N) * (y2.N : Nat)) ((zOf b2 x2.N) * (y1.N : Nat))) from hf 10 28 rfl)
      clear hf S0
      show wpList _ _ _ [_] _ _
      refine tl_val S (v := .int .i64 (cmpZ ((zOf b1 x1.N) * (y2.N : Nat)) ((zOf b2 x2.N) * (y1.N : Nat)))) (rn_assign rfl (S.at 0 rfl)) rfl rfl (by decide) (ls' := [(28, .int .i64 (cmpZ ((zOf b1 x1.N) * (y2.N : Nat)) ((zOf b2 x2.N) * (y1.N : Nat)))), (3, pT g2 0), (2, pT g1 0)]) rfl (fun a S => ?_)
      refine hK5 _ _ ?_
      refine wp_ret ?_
      exact frm_ret1 rfl S (S.at 0 rfl) ⟨_, rfl, congrArg (Value.int .i64) (cmp_cross hq1 hq2), S.below⟩
set_option maxRecDepth 100000 in
set_option maxHeartbeats 4000000 in
theorem p7negated {K : Nat} {q : Rat} {v1 : Value} {V : World}  (h1 : QM K (q) v1 V) :
    Calls Tryz.prog 68 #[v1] V (Gives1 V (QM K (-q))) := by
  obtain ⟨b1, x1, y1, rfl, hq1, hk1, hk2, ok1, ok2⟩ := h1
  refine frm_body (e := [x1, y1]) Tryz.func68 rfl Tryz.ntmps68 (Nat.le_of_ble_eq_true rfl) [(0, (aG b1 x1 y1))] rfl (ok_cons ok1 (ok_cons ok2 ok_nil)) (fun a S => ?_)
  refine wp_seq_k fun K1 hK1 => ?_
  refine frm_plain ?_
  refine tl_box S (T := 64) (cs := (aL b1 x1 y1)) (rn_box rfl (S.at 0 rfl) rfl) rfl rfl rfl (by decide) (ls' := [(0, (aG b1 x1 y1))]) rfl (lb' := fun g1 => [⟨g1, 64, (aL b1 x1 y1)⟩]) (fun _ => rfl) (fun g1 a V1 hgg1 S => ?_)
  refine tl_box S (T := 64) (cs := [.bool false, .slice none 0 0, .slice none 0 0]) (rn_alloc rfl (Tryz.zeroValue64 _) rfl) rfl rfl rfl (by decide) (ls' := [(1, pT g1 0), (0, (aG b1 x1 y1))]) rfl (lb' := fun g2 => [⟨g1, 64, (aL b1 x1 y1)⟩, ⟨g2, 64, [.bool false, .slice none 0 0, .slice none 0 0]⟩]) (fun _ => rfl) (fun g2 a V2 hgg2 S => ?_)
  refine hK1 _ _ ?_
  refine wp_seq_k fun K2 hK2 => ?_
  have S := S.keep [2, 1] (ls' := [(2, pT g2 0), (1, pT g1 0)]) rfl
  refine frm_plain ?_
  refine tl_val S (v := pT g1 0) (rn_field rfl (S.at 1 rfl) (fa_number_0_0 _)) rfl rfl (by decide) (ls' := [(2, pT g2 0), (1, pT g1 0)]) rfl (fun a S => ?_)
  refine tl_val S (v := pT g1 0) (rn_field rfl (S.at 0 rfl) (fa_numerator_0_0 _)) rfl rfl (by decide) (ls' := [(3, pT g1 0), (2, pT g2 0), (1, pT g1 0)]) rfl (fun a S => ?_)
  refine tl_val S (v := pT g1 0) (rn_field rfl (S.at 0 rfl) (fa_Int_0_0 _)) rfl rfl (by decide) (ls' := [(4, pT g1 0), (3, pT g1 0), (2, pT g2 0), (1, pT g1 0)]) rfl (fun a S => ?_)
  refine tl_val S (v := .bool b1) (rn_load1 rfl (S.at 0 rfl) (S.bx 0 rfl) (Tryz.isAgg4 _) rfl) rfl rfl (by decide) (ls' := [(5, pT g1 0), (4, pT g1 0), (3, pT g1 0), (2, pT g2 0), (1, pT g1 0)]) rfl (fun a S => ?_)
  refine tl_val S (v := .bool (!b1)) (rn_not rfl (S.at 0 rfl)) rfl rfl (by decide) (ls' := [(6, .bool b1), (5, pT g1 0), (4, pT g1 0), (3, pT g1 0), (2, pT g2 0), (1, pT g1 0)]) rfl (fun a S => ?_)
  refine tl_val S (v := pT g1 0) (rn_field rfl (S.at 6 rfl) (fa_number_0_0 _)) rfl rfl (by decide) (ls' := [(7, .bool (!b1)), (6, .bool b1), (5, pT g1 0), (4, pT g1 0), (3, pT g1 0), (2, pT g2 0), (1, pT g1 0)]) rfl (fun a S => ?_)
  refine tl_val S (v := pT g1 0) (rn_field rfl (S.at 0 rfl) (fa_numerator_0_0 _)) rfl rfl (by decide) (ls' := [(8, pT g1 0), (7, .bool (!b1)), (6, .bool b1), (5, pT g1 0), (4, pT g1 0), (3, pT g1 0), (2, pT g2 0), (1, pT g1 0)]) rfl (fun a S => ?_)
  refine tl_val S (v := pT g1 0) (rn_field rfl (S.at 0 rfl) (fa_Int_0_0 _)) rfl rfl (by decide) (ls' := [(9, pT g1 0), (8, pT g1 0), (7, .bool (!b1)), (6, .bool b1), (5, pT g1 0), (4, pT g1 0), (3, pT g1 0), (2, pT g2 0), (1, pT g1 0)]) rfl (fun a S => ?_)
  refine tl_store S (i := 0) (vs := [.bool (!b1)]) rfl (fun ht => rn_store1 rfl (S.at 0 rfl) (S.at 3 rfl) (Tryz.sizeOf4 _) rfl rfl (Nat.le_of_ble_eq_true rfl) ht) (Nat.le_of_ble_eq_true rfl) rfl rfl rfl (lb' := [⟨g1, 64, [.bool (!b1), aS x1, aS y1]⟩, ⟨g2, 64, [.bool false, .slice none 0 0, .slice none 0 0]⟩]) rfl (fun V3 S => ?_)
  refine hK2 _ _ ?_
  refine wp_seq_k fun K3 hK3 => ?_
  have S := S.keep [2, 1] (ls' := [(2, pT g2 0), (1, pT g1 0)]) rfl
  refine frm_plain ?_
  refine tl_val S (v := .agg #[.bool (!b1), aS x1, aS y1]) (rn_load rfl (S.at 1 rfl) (S.bx 0 rfl) Tryz.underlying64 rfl (vs := [.bool (!b1), aS x1, aS y1]) sz_number rfl) rfl rfl (by decide) (ls' := [(2, pT g2 0), (1, pT g1 0)]) rfl (fun a S => ?_)
  refine tl_store S (i := 1) (vs := [.bool (!b1), aS x1, aS y1]) rfl (fun ht => rn_store rfl (S.at 1 rfl) (S.at 0 rfl) sz_number rfl (Nat.le_of_ble_eq_true rfl) ht) (Nat.le_of_ble_eq_true rfl) rfl rfl rfl (lb' := [⟨g1, 64, [.bool (!b1), aS x1, aS y1]⟩, ⟨g2, 64, [.bool (!b1), aS x1, aS y1]⟩]) rfl (fun V4 S => ?_)
  refine hK3 _ _ ?_
  refine wp_ret ?_
  exact frm_retc rfl S (S.at 1 rfl) (i := 1) rfl Tryz.underlying64 rfl sz_number ⟨_, rfl, ⟨!b1, x1, y1, rfl, neg_q hq1, hk1, hk2, (S.num 0 rfl), (S.num 1 rfl)⟩, S.below⟩
set_option maxRecDepth 100000 in
set_option maxHeartbeats 4000000 in
theorem p7upsideDown {K : Nat} {q : Rat} {v1 : Value} {V : World}  (h1 : QM K (q) v1 V) (hq0 : q ≠ 0):
    Calls Tryz.prog 61 #[v1] V (Gives1 V (QM K q⁻¹)) := by
  obtain ⟨b1, x1, y1, rfl, hq1, hk1, hk2, ok1, ok2⟩ := h1
  refine frm_body (e := [x1, y1]) Tryz.func61 rfl Tryz.ntmps61 (Nat.le_of_ble_eq_true rfl) [(0, (aG b1 x1 y1))] rfl (ok_cons ok1 (ok_cons ok2 ok_nil)) (fun a S => ?_)
  refine wp_seq_k fun K1 hK1 => ?_
  refine frm_plain ?_
  refine tl_box S (T := 64) (cs := (aL b1 x1 y1)) (rn_box rfl (S.at 0 rfl) rfl) rfl rfl rfl (by decide) (ls' := [(0, (aG b1 x1 y1))]) rfl (lb' := fun g1 => [⟨g1, 64, (aL b1 x1 y1)⟩]) (fun _ => rfl) (fun g1 a V1 hgg1 S => ?_)
  refine tl_box S (T := 64) (cs := [.bool false, .slice none 0 0, .slice none 0 0]) (rn_alloc rfl (Tryz.zeroValue64 _) rfl) rfl rfl rfl (by decide) (ls' := [(1, pT g1 0), (0, (aG b1 x1 y1))]) rfl (lb' := fun g2 => [⟨g1, 64, (aL b1 x1 y1)⟩, ⟨g2, 64, [.bool false, .slice none 0 0, .slice none 0 0]⟩]) (fun _ => rfl) (fun g2 a V2 hgg2 S => ?_)
  refine hK1 _ _ ?_
  refine wp_seq_k fun K2 hK2 => ?_
  have S := S.keep [2, 1] (ls' := [(2, pT g2 0), (1, pT g1 0)]) rfl
  refine frm_plain ?_
  refine tl_val S (v := pT g1 0) (rn_field rfl (S.at 1 rfl) (fa_number_0_0 _)) rfl rfl (by decide) (ls' := [(2, pT g2 0), (1, pT g1 0)]) rfl (fun a S => ?_)
  refine tl_val S (v := pT g1 0) (rn_field rfl (S.at 0 rfl) (fa_numerator_0_0 _)) rfl rfl (by decide) (ls' := [(3, pT g1 0), (2, pT g2 0), (1, pT g1 0)]) rfl (fun a S => ?_)
  refine tl_val S (v := pT g1 0) (rn_field rfl (S.at 0 rfl) (fa_Int_0_0 _)) rfl rfl (by decide) (ls' := [(4, pT g1 0), (3, pT g1 0), (2, pT g2 0), (1, pT g1 0)]) rfl (fun a S => ?_)
  refine tl_val S (v := .bool b1) (rn_load1 rfl (S.at 0 rfl) (S.bx 0 rfl) (Tryz.isAgg4 _) rfl) rfl rfl (by decide) (ls' := [(5, pT g1 0), (4, pT g1 0), (3, pT g1 0), (2, pT g2 0), (1, pT g1 0)]) rfl (fun a S => ?_)
  refine tl_val S (v := pT g1 2) (rn_field rfl (S.at 5 rfl) (fa_number_1_0 _)) rfl rfl (by decide) (ls' := [(6, .bool b1), (5, pT g1 0), (4, pT g1 0), (3, pT g1 0), (2, pT g2 0), (1, pT g1 0)]) rfl (fun a S => ?_)
  refine tl_val S (v := aS y1) (rn_load1 rfl (S.at 0 rfl) (S.bx 0 rfl) (Tryz.isAgg23 _) rfl) rfl rfl (by decide) (ls' := [(7, pT g1 2), (6, .bool b1), (5, pT g1 0), (4, pT g1 0), (3, pT g1 0), (2, pT g2 0), (1, pT g1 0)]) rfl (fun a S => ?_)
  refine tl_val S (v := (aZ b1 y1)) (rn_build2 rfl (S.at 2 rfl) (S.at 0 rfl) (bd_Int _ _ _ _)) rfl rfl (by decide) (ls' := [(8, aS y1), (7, pT g1 2), (6, .bool b1), (5, pT g1 0), (4, pT g1 0), (3, pT g1 0), (2, pT g2 0), (1, pT g1 0)]) rfl (fun a S => ?_)
  refine tl_val S (v := (aZ b1 y1)) (rn_build1 rfl (S.at 0 rfl) (bd_numerator _ _ _ _)) rfl rfl (by decide) (ls' := [(9, (aZ b1 y1)), (8, aS y1), (7, pT g1 2), (6, .bool b1), (5, pT g1 0), (4, pT g1 0), (3, pT g1 0), (2, pT g2 0), (1, pT g1 0)]) rfl (fun a S => ?_)
  refine tl_val S (v := pT g1 0) (rn_field rfl (S.at 9 rfl) (fa_number_0_0 _)) rfl rfl (by decide) (ls' := [(10, (aZ b1 y1)), (9, (aZ b1 y1)), (8, aS y1), (7, pT g1 2), (6, .bool b1), (5, pT g1 0), (4, pT g1 0), (3, pT g1 0), (2, pT g2 0), (1, pT g1 0)]) rfl (fun a S => ?_)
  refine tl_val S (v := pT g1 0) (rn_field rfl (S.at 0 rfl) (fa_numerator_0_0 _)) rfl rfl (by decide) (ls' := [(11, pT g1 0), (10, (aZ b1 y1)), (9, (aZ b1 y1)), (8, aS y1), (7, pT g1 2), (6, .bool b1), (5, pT g1 0), (4, pT g1 0), (3, pT g1 0), (2, pT g2 0), (1, pT g1 0)]) rfl (fun a S => ?_)
  refine tl_val S (v := pT g1 1) (rn_field rfl (S.at 0 rfl) (fa_Int_1_0 _)) rfl rfl (by decide) (ls' := [(12, pT g1 0), (11, pT g1 0), (10, (aZ b1 y1)), (9, (aZ b1 y1)), (8, aS y1), (7, pT g1 2), (6, .bool b1), (5, pT g1 0), (4, pT g1 0), (3, pT g1 0), (2, pT g2 0), (1, pT g1 0)]) rfl (fun a S => ?_)
  refine tl_val S (v := aS x1) (rn_load1 rfl (S.at 0 rfl) (S.bx 0 rfl) (Tryz.isAgg23 _) rfl) rfl rfl (by decide) (ls' := [(13, pT g1 1), (12, pT g1 0), (11, pT g1 0), (10, (aZ b1 y1)), (9, (aZ b1 y1)), (8, aS y1), (7, pT g1 2), (6, .bool b1), (5, pT g1 0), (4, pT g1 0), (3, pT g1 0), (2, pT g2 0), (1, pT g1 0)]) rfl (fun a S => ?_)
  refine tl_val S (v := (aG b1 y1 x1)) (rn_build2 rfl (S.at 4 rfl) (S.at 0 rfl) (bd_number _ _ _ _ _ _ _)) rfl rfl (by decide) (ls' := [(14, aS x1), (13, pT g1 1), (12, pT g1 0), (11, pT g1 0), (10, (aZ b1 y1)), (9, (aZ b1 y1)), (8, aS y1), (7, pT g1 2), (6, .bool b1), (5, pT g1 0), (4, pT g1 0), (3, pT g1 0), (2, pT g2 0), (1, pT g1 0)]) rfl (fun a S => ?_)
  refine tl_store S (i := 1) (vs := (aL b1 y1 x1)) rfl (fun ht => rn_store rfl (S.at 13 rfl) (S.at 0 rfl) sz_number rfl (Nat.le_of_ble_eq_true rfl) ht) (Nat.le_of_ble_eq_true rfl) rfl rfl rfl (lb' := [⟨g1, 64, (aL b1 x1 y1)⟩, ⟨g2, 64, (aL b1 y1 x1)⟩]) rfl (fun V3 S => ?_)
  refine hK2 _ _ ?_
  refine wp_ret ?_
  exact frm_retc rfl S (S.at 13 rfl) (i := 1) rfl Tryz.underlying64 rfl sz_number ⟨_, rfl, ⟨b1, y1, x1, rfl, inv_q hq1 hq0, hk2, hk1, (S.num 1 rfl), (S.num 0 rfl)⟩, S.below⟩
set_option maxRecDepth 100000 in
set_option maxHeartbeats 4000000 in
theorem p7by {K K' : Nat} {q1 q2 : Rat} {v1 v2 : Value} {V : World}  (h1 : QM K (q1) v1 V) (h2 : QM K' (q2) v2 V) (hK0 : K ≤ 100000) (hK1 : K' ≤ 100000):
    Calls Tryz.prog 60 #[v1, v2] V (Gives1 V (QM (K + K') (q1 * q2))) := by
  obtain ⟨b1, x1, y1, rfl, hq1, hk1, hk2, ok1, ok2⟩ := h1
  obtain ⟨b2, x2, y2, rfl, hq2, hk3, hk4, ok3, ok4⟩ := h2
  refine frm_body (e := [x2, y2, x1, y1]) Tryz.func60 rfl Tryz.ntmps60 (Nat.le_of_ble_eq_true rfl) [(0, (aG b1 x1 y1)), (1, (aG b2 x2 y2))] rfl (ok_cons ok3 (ok_cons ok4 (ok_cons ok1 (ok_cons ok2 ok_nil)))) (fun a S => ?_)
  refine wp_seq_k fun K1 hK1 => ?_
  refine frm_plain ?_
  refine tl_box S (T := 64) (cs := (aL b1 x1 y1)) (rn_box rfl (S.at 0 rfl) rfl) rfl rfl rfl (by decide) (ls' := [(0, (aG b1 x1 y1)), (1, (aG b2 x2 y2))]) rfl (lb' := fun g1 => [⟨g1, 64, (aL b1 x1 y1)⟩]) (fun _ => rfl) (fun g1 a V1 hgg1 S => ?_)
  refine tl_box S (T := 64) (cs := (aL b2 x2 y2)) (rn_box rfl (S.at 2 rfl) rfl) rfl rfl rfl (by decide) (ls' := [(2, pT g1 0), (0, (aG b1 x1 y1)), (1, (aG b2 x2 y2))]) rfl (lb' := fun g2 => [⟨g1, 64, (aL b1 x1 y1)⟩, ⟨g2, 64, (aL b2 x2 y2)⟩]) (fun _ => rfl) (fun g2 a V2 hgg2 S => ?_)
  refine tl_box S (T := 64) (cs := [.bool false, .slice none 0 0, .slice none 0 0]) (rn_alloc rfl (Tryz.zeroValue64 _) rfl) rfl rfl rfl (by decide) (ls' := [(3, pT g2 0), (2, pT g1 0), (0, (aG b1 x1 y1)), (1, (aG b2 x2 y2))]) rfl (lb' := fun g3 => [⟨g1, 64, (aL b1 x1 y1)⟩, ⟨g2, 64, (aL b2 x2 y2)⟩, ⟨g3, 64, [.bool false, .slice none 0 0, .slice none 0 0]⟩]) (fun _ => rfl) (fun g3 a V3 hgg3 S => ?_)
  refine hK1 _ _ ?_
  refine wp_seq_k fun K2 hK2 => ?_
  have S := S.keep [4, 3, 2] (ls' := [(4, pT g3 0), (3, pT g2 0), (2, pT g1 0)]) rfl
  obtain ⟨W1, hW1⟩ : ∃ W, W = V3 := ⟨_, rfl⟩
  rw [← hW1] at S ⊢
  have S0 := S
  refine frm_region 20 [6, 7, 8, 9, 10, 11, 12, 13, 14, 15, 16, 17, 18, 19, 20, 21, 22, 23, 24, 5] (fun i v V => match i with
      | 0 => v = pT g1 0
      | 1 => v = pT g1 0
      | 2 => v = pT g1 0
      | 3 => v = .bool b1
      | 4 => v = pT g2 0
      | 5 => v = pT g2 0
      | 6 => v = pT g2 0
      | 7 => v = .bool b2
      | 8 => v = .bool (b1 != b2)
      | 9 => v = pT g1 0
      | 10 => v = pT g1 0
      | 11 => v = pT g1 1
      | 12 => v = aS x1
      | 13 => v = pT g2 0
      | 14 => v = pT g2 0
      | 15 => v = pT g2 1
      | 16 => v = aS x2
      | 17 => NT (K + K') (x1.N * x2.N) v V
      | 18 => Z1 (K + K') (zOf (b1 != b2) (x1.N * x2.N)) v V
      | _ => RBx (W1) (25) ([.bool false, .slice none 0 0]) v V) S (by kernel_rfl) (by kernel_rfl) rfl (by decide) rfl rfl ?_ ?_ ?_
  · intro i v V V2 hf hb
    match i, hf with
    | 0, hf => exact hf
    | 1, hf => exact hf
    | 2, hf => exact hf
    | 3, hf => exact hf
    | 4, hf => exact hf
    | 5, hf => exact hf
    | 6, hf => exact hf
    | 7, hf => exact hf
    | 8, hf => exact hf
    | 9, hf => exact hf
    | 10, hf => exact hf
    | 11, hf => exact hf
    | 12, hf => exact hf
    | 13, hf => exact hf
    | 14, hf => exact hf
    | 15, hf => exact hf
    | 16, hf => exact hf
    | 17, hf => exact NT.keep hf hb
    | 18, hf => exact Z1.keep hf hb
    | _ + 19, hf => exact RBx.keep hf hb
  · intro i t ht a V S hB hd
    match i, ht with
    | 0, ht =>
      cases ht
      exact so_val rfl rfl (wanted_free rfl) (rn_field rfl (S.at 2 rfl) (fa_number_0_0 _)) rfl
    | 1, ht =>
      cases ht
      exact so_val rfl rfl (wanted_free rfl) (rn_field rfl (show tG a 6 <| pT g1 0 from hd 0 6 rfl (by kernel_rfl)) (fa_numerator_0_0 _)) rfl
    | 2, ht =>
      cases ht
      exact so_val rfl rfl (wanted_free rfl) (rn_field rfl (show tG a 7 <| pT g1 0 from hd 1 7 rfl (by kernel_rfl)) (fa_Int_0_0 _)) rfl
    | 3, ht =>
      cases ht
      exact so_val rfl rfl (wanted_free rfl) (rn_load1 rfl (show tG a 8 <| pT g1 0 from hd 2 8 rfl (by kernel_rfl)) (S.bx 0 rfl) (Tryz.isAgg4 _) rfl) rfl
    | 4, ht =>
      cases ht
      exact so_val rfl rfl (wanted_free rfl) (rn_field rfl (S.at 1 rfl) (fa_number_0_0 _)) rfl
    | 5, ht =>
      cases ht
      exact so_val rfl rfl (wanted_free rfl) (rn_field rfl (show tG a 10 <| pT g2 0 from hd 4 10 rfl (by kernel_rfl)) (fa_numerator_0_0 _)) rfl
    | 6, ht =>
      cases ht
      exact so_val rfl rfl (wanted_free rfl) (rn_field rfl (show tG a 11 <| pT g2 0 from hd 5 11 rfl (by kernel_rfl)) (fa_Int_0_0 _)) rfl
    | 7, ht =>
      cases ht
      exact so_val rfl rfl (wanted_free rfl) (rn_load1 rfl (show tG a 12 <| pT g2 0 from hd 6 12 rfl (by kernel_rfl)) (S.bx 1 rfl) (Tryz.isAgg4 _) rfl) rfl
    | 8, ht =>
      cases ht
      exact so_val rfl rfl (wanted_free rfl) (rn_neqb rfl (show tG a 9 <| .bool b1 from hd 3 9 rfl (by kernel_rfl)) (show tG a 13 <| .bool b2 from hd 7 13 rfl (by kernel_rfl))) rfl
    | 9, ht =>
      cases ht
      exact so_val rfl rfl (wanted_free rfl) (rn_field rfl (S.at 2 rfl) (fa_number_0_0 _)) rfl
    | 10, ht =>
      cases ht
      exact so_val rfl rfl (wanted_free rfl) (rn_field rfl (show tG a 15 <| pT g1 0 from hd 9 15 rfl (by kernel_rfl)) (fa_numerator_0_0 _)) rfl
    | 11, ht =>
      cases ht
      exact so_val rfl rfl (wanted_free rfl) (rn_field rfl (show tG a 16 <| pT g1 0 from hd 10 16 rfl (by kernel_rfl)) (fa_Int_1_0 _)) rfl
    | 12, ht =>
      cases ht
      exact so_val rfl rfl (wanted_free rfl) (rn_load1 rfl (show tG a 17 <| pT g1 1 from hd 11 17 rfl (by kernel_rfl)) (S.bx 0 rfl) (Tryz.isAgg23 _) rfl) rfl
    | 13, ht =>
      cases ht
      exact so_val rfl rfl (wanted_free rfl) (rn_field rfl (S.at 1 rfl) (fa_number_0_0 _)) rfl
    | 14, ht =>
      cases ht
      exact so_val rfl rfl (wanted_free rfl) (rn_field rfl (show tG a 19 <| pT g2 0 from hd 13 19 rfl (by kernel_rfl)) (fa_numerator_0_0 _)) rfl
    | 15, ht =>
      cases ht
      exact so_val rfl rfl (wanted_free rfl) (rn_field rfl (show tG a 20 <| pT g2 0 from hd 14 20 rfl (by kernel_rfl)) (fa_Int_1_0 _)) rfl
    | 16, ht =>
      cases ht
      exact so_val rfl rfl (wanted_free rfl) (rn_load1 rfl (show tG a 21 <| pT g2 1 from hd 15 21 rfl (by kernel_rfl)) (S.bx 1 rfl) (Tryz.isAgg23 _) rfl) rfl
    | 17, ht =>
      cases ht
      exact so_call rfl rfl (wanted_free rfl) (rn_call2 ⟨_, rfl⟩ (show tG a 18 <| aS x1 from hd 12 18 rfl (by kernel_rfl)) (show tG a 22 <| aS x2 from hd 16 22 rfl (by kernel_rfl)) (enters_of Tryz.func88 (by kernel_rfl) rfl)) (pMul (show N1 K (x1.N) (aS x1) _ from ⟨x1, rfl, rfl, hk1, (S.num 2 rfl)⟩) (show N1 K' (x2.N) (aS x2) _ from ⟨x2, rfl, rfl, hk3, (S.num 0 rfl)⟩) (by omega) (by omega))
    | 18, ht =>
      cases ht
      obtain ⟨v, hv, hq⟩ := z1_mk (b := b1 != b2) ((show NT (K + K') (x1.N * x2.N) (a.tmps.getD 23 undef) V from hd 17 23 rfl (by kernel_rfl))).any
      exact so_val rfl rfl (wanted_free rfl) (rn_build2 rfl (show tG a 14 <| .bool (b1 != b2) from hd 8 14 rfl (by kernel_rfl)) rfl hv) hq
    | 19, ht =>
      cases ht
      exact so_lays rfl rfl (wanted_free rfl) (ly_box (cs := [.bool false, .slice none 0 0]) (rn_alloc rfl (Tryz.zeroValue25 _) rfl) hB.size)
    | k + 20, ht => simp at ht
  · intro a1 V4 S hB hf
    obtain ⟨b3, x3, hv1, hz1, hk5, ok5⟩ := (show Z1 (K + K') (zOf (b1 != b2) (x1.N * x2.N)) (a1.tmps.getD 24 undef) V4 from hf 18 24 rfl)
    have S := S.add hv1
    have S := S.know ok5
    obtain ⟨g4, hvg4, hgg4, hbg4⟩ := (show RBx (W1) (25) ([.bool false, .slice none 0 0]) (a1.tmps.getD 5 undef) V4 from hf 19 5 rfl)
    have S := Frm.box (S.add hvg4) S0 hgg4 hbg4 rfl
    have S : Frm 33 [(5, pT g4 0), (24, (aZ b3 x3)), (4, pT g3 0), (3, pT g2 0), (2, pT g1 0)] [⟨g1, 64, (aL b1 x1 y1)⟩, ⟨g2, 64, (aL b2 x2 y2)⟩, ⟨g3, 64, [.bool false, .slice none 0 0, .slice none 0 0]⟩, ⟨g4, 25, [.bool false, .slice none 0 0]⟩] V _ _ _ := S
    clear hf S0
    show wpList _ _ _ [_] _ _
    refine tl_store S (i := 3) (vs := [.bool b3, aS x3]) rfl (fun ht => rn_store rfl (S.at 0 rfl) (S.at 1 rfl) sz_Int rfl (Nat.le_of_ble_eq_true rfl) ht) (Nat.le_of_ble_eq_true rfl) rfl rfl rfl (lb' := [⟨g1, 64, (aL b1 x1 y1)⟩, ⟨g2, 64, (aL b2 x2 y2)⟩, ⟨g3, 64, [.bool false, .slice none 0 0, .slice none 0 0]⟩, ⟨g4, 25, [.bool b3, aS x3]⟩]) rfl (fun V5 S => ?_)
    refine hK2 _ _ ?_
    refine wp_seq_k fun K3 hK3 => ?_
    have S := S.keep [5, 4, 3, 2] (ls' := [(5, pT g4 0), (4, pT g3 0), (3, pT g2 0), (2, pT g1 0)]) rfl
    obtain ⟨W2, hW2⟩ : ∃ W, W = V5 := ⟨_, rfl⟩
    rw [← hW2] at S ⊢
    have S0 := S
    refine frm_region 8 [25, 26, 27, 28, 29, 30, 31, 32] (fun i v V => match i with
        | 0 => v = (aZ b3 x3)
        | 1 => v = (aZ b3 x3)
        | 2 => v = pT g1 2
        | 3 => v = aS y1
        | 4 => v = pT g2 2
        | 5 => v = aS y2
        | 6 => NT (K + K') (y1.N * y2.N) v V
        | _ => QA (K + K') (zOf (b1 != b2) (x1.N * x2.N)) (y1.N * y2.N) v V) S (by kernel_rfl) (by kernel_rfl) rfl (by decide) rfl rfl ?_ ?_ ?_
    · intro i v V V2 hf hb
      match i, hf with
      | 0, hf => exact hf
      | 1, hf => exact hf
      | 2, hf => exact hf
      | 3, hf => exact hf
      | 4, hf => exact hf
      | 5, hf => exact hf
      | 6, hf => exact NT.keep hf hb
      | _ + 7, hf => exact QA.keep hf hb
    · intro i t ht a V S hB hd
      match i, ht with
      | 0, ht =>
        cases ht
        exact so_val rfl rfl (wanted_free rfl) (rn_load rfl (S.at 0 rfl) (S.bx 3 rfl) Tryz.underlying25 rfl (vs := [.bool b3, aS x3]) sz_Int rfl) rfl
      | 1, ht =>
        cases ht
        exact so_val rfl rfl (wanted_free rfl) (rn_build1 rfl (show tG a 25 <| (aZ b3 x3) from hd 0 25 rfl (by kernel_rfl)) (bd_numerator _ _ _ _)) rfl
      | 2, ht =>
        cases ht
        exact so_val rfl rfl (wanted_free rfl) (rn_field rfl (S.at 3 rfl) (fa_number_1_0 _)) rfl
      | 3, ht =>
        cases ht
        exact so_val rfl rfl (wanted_free rfl) (rn_load1 rfl (show tG a 27 <| pT g1 2 from hd 2 27 rfl (by kernel_rfl)) (S.bx 0 rfl) (Tryz.isAgg23 _) rfl) rfl
      | 4, ht =>
        cases ht
        exact so_val rfl rfl (wanted_free rfl) (rn_field rfl (S.at 2 rfl) (fa_number_1_0 _)) rfl
      | 5, ht =>
        cases ht
        exact so_val rfl rfl (wanted_free rfl) (rn_load1 rfl (show tG a 29 <| pT g2 2 from hd 4 29 rfl (by kernel_rfl)) (S.bx 1 rfl) (Tryz.isAgg23 _) rfl) rfl
      | 6, ht =>
        cases ht
        exact so_call rfl rfl (wanted_free rfl) (rn_call2 ⟨_, rfl⟩ (show tG a 28 <| aS y1 from hd 3 28 rfl (by kernel_rfl)) (show tG a 30 <| aS y2 from hd 5 30 rfl (by kernel_rfl)) (enters_of Tryz.func88 (by kernel_rfl) rfl)) (pMul (show N1 K (y1.N) (aS y1) _ from ⟨y1, rfl, rfl, hk2, (S.num 4 rfl)⟩) (show N1 K' (y2.N) (aS y2) _ from ⟨y2, rfl, rfl, hk4, (S.num 2 rfl)⟩) (by omega) (by omega))
      | 7, ht =>
        cases ht
        obtain ⟨v, hv, hq⟩ := qa_mk (T := 64) (K3 := (K + K')) (by decide) (show Z1 (K + K') (zOf (b1 != b2) (x1.N * x2.N)) ((aZ b3 x3)) _ from ⟨b3, x3, rfl, hz1, hk5, (S.num 0 rfl)⟩) ((show NT (K + K') (y1.N * y2.N) (a.tmps.getD 31 undef) V from hd 6 31 rfl (by kernel_rfl))).any (by omega) (by omega)
        exact so_val rfl rfl (wanted_free rfl) (rn_build2 rfl (show tG a 26 <| (aZ b3 x3) from hd 1 26 rfl (by kernel_rfl)) rfl hv) hq
      | k + 8, ht => simp at ht
    · intro a2 V6 S hB hf
      obtain ⟨b4, x4, y3, hv2, hq3, hk6, hk7, ok6, ok7⟩ := (show QA (K + K') (zOf (b1 != b2) (x1.N * x2.N)) (y1.N * y2.N) (a2.tmps.getD 32 undef) V6 from hf 7 32 rfl)
      have S := S.add hv2
      have S := S.know ok6
      have S := S.know ok7
      clear hf S0
      show wpList _ _ _ [_] _ _
      refine tl_store S (i := 2) (vs := (aL b4 x4 y3)) rfl (fun ht => rn_store rfl (S.at 2 rfl) (S.at 0 rfl) sz_number rfl (Nat.le_of_ble_eq_true rfl) ht) (Nat.le_of_ble_eq_true rfl) rfl rfl rfl (lb' := [⟨g1, 64, (aL b1 x1 y1)⟩, ⟨g2, 64, (aL b2 x2 y2)⟩, ⟨g3, 64, (aL b4 x4 y3)⟩, ⟨g4, 25, [.bool b3, aS x3]⟩]) rfl (fun V7 S => ?_)
      refine hK3 _ _ ?_
      refine wp_ret ?_
      exact frm_retc rfl S (S.at 2 rfl) (i := 2) rfl Tryz.underlying64 rfl sz_number ⟨_, rfl, ⟨_, x4, y3, rfl, mul_q hq1 hq2 hq3.1 hq3.2, hk6, hk7, (S.num 1 rfl), (S.num 0 rfl)⟩, S.below⟩
set_option maxRecDepth 100000 in
set_option maxHeartbeats 4000000 in
theorem p7plus {K K' : Nat} {q1 q2 : Rat} {v1 v2 : Value} {V : World} (T : TT V) (h1 : QM K (q1) v1 V) (h2 : QM K' (q2) v2 V) (hK0 : K ≤ 4000) (hK1 : K' ≤ 4000):
    Calls Tryz.prog 71 #[v1, v2] V (Gives1 V (QM (K + K' + 1) (q1 + q2))) := by
  obtain ⟨b1, x1, y1, rfl, hq1, hk1, hk2, ok1, ok2⟩ := h1
  obtain ⟨b2, x2, y2, rfl, hq2, hk3, hk4, ok3, ok4⟩ := h2
  have hb1 := bits_le hk2 ok2
  have hb2 := bits_le hk4 ok4
  refine frm_body (e := [x2, y2, x1, y1]) Tryz.func71 rfl Tryz.ntmps71 (Nat.le_of_ble_eq_true rfl) [(0, (aG b1 x1 y1)), (1, (aG b2 x2 y2))] rfl (ok_cons ok3 (ok_cons ok4 (ok_cons ok1 (ok_cons ok2 ok_nil)))) (fun a S => ?_)
  refine wp_seq_k fun K1 hK1 => ?_
  refine frm_plain ?_
  refine tl_box S (T := 64) (cs := (aL b1 x1 y1)) (rn_box rfl (S.at 0 rfl) rfl) rfl rfl rfl (by decide) (ls' := [(0, (aG b1 x1 y1)), (1, (aG b2 x2 y2))]) rfl (lb' := fun g1 => [⟨g1, 64, (aL b1 x1 y1)⟩]) (fun _ => rfl) (fun g1 a V1 hgg1 S => ?_)
  refine tl_box S (T := 64) (cs := (aL b2 x2 y2)) (rn_box rfl (S.at 2 rfl) rfl) rfl rfl rfl (by decide) (ls' := [(2, pT g1 0), (0, (aG b1 x1 y1)), (1, (aG b2 x2 y2))]) rfl (lb' := fun g2 => [⟨g1, 64, (aL b1 x1 y1)⟩, ⟨g2, 64, (aL b2 x2 y2)⟩]) (fun _ => rfl) (fun g2 a V2 hgg2 S => ?_)
  refine tl_box S (T := 64) (cs := [.bool false, .slice none 0 0, .slice none 0 0]) (rn_alloc rfl (Tryz.zeroValue64 _) rfl) rfl rfl rfl (by decide) (ls' := [(3, pT g2 0), (2, pT g1 0), (0, (aG b1 x1 y1)), (1, (aG b2 x2 y2))]) rfl (lb' := fun g3 => [⟨g1, 64, (aL b1 x1 y1)⟩, ⟨g2, 64, (aL b2 x2 y2)⟩, ⟨g3, 64, [.bool false, .slice none 0 0, .slice none 0 0]⟩]) (fun _ => rfl) (fun g3 a V3 hgg3 S => ?_)
  refine hK1 _ _ ?_
  refine wp_seq_k fun K2 hK2 => ?_
  have S := S.keep [4, 3, 2] (ls' := [(4, pT g3 0), (3, pT g2 0), (2, pT g1 0)]) rfl
  obtain ⟨W1, hW1⟩ : ∃ W, W = V3 := ⟨_, rfl⟩
  rw [← hW1] at S ⊢
  have S0 := S
  refine frm_regs [] [some 7, some 8, some 9, some 10, some 5, some 6] (fun i v V => match i with
      | 0 => v = pT g1 2
      | 1 => v = aS y1
      | 2 => v = pT g2 2
      | 3 => v = aS y2
      | 4 => v = aS y1
      | _ => v = aS y2)
    []
    []
    []
    (lb := [⟨g1, 64, (aL b1 x1 y1)⟩, ⟨g2, 64, (aL b2 x2 y2)⟩, ⟨g3, 64, [.bool false, .slice none 0 0, .slice none 0 0]⟩]) S (by kernel_rfl) (by kernel_rfl) rfl (by decide) rfl rfl
    all_nil
    all_nil
    ?_ (by decide) ?_ ?_ all_nil ?_ ?_ ?_ ?_ ?_ ?_ ?_ ?_ ?_
  · intro i hi
    match i, hi with
    | 0, hi => cases hi
    | 1, hi => cases hi
    | 2, hi => cases hi
    | 3, hi => cases hi
    | 4, hi => cases hi
    | 5, hi => cases hi
    | k + 6, hi => simp at hi
  · intro s hs s2 hs2 h
    cases hs
  · intro s hs s2 hs2 h
    cases hs
  · intro i v V V2 hf hb
    match i, hf with
    | 0, hf => exact hf
    | 1, hf => exact hf
    | 2, hf => exact hf
    | 3, hf => exact hf
    | 4, hf => exact hf
    | _ + 5, hf => exact hf
  · intro i g vs v V V2 hf hb
    match i, hf with
    | 0, hf => exact hf
    | 1, hf => exact hf
    | 2, hf => exact hf
    | 3, hf => exact hf
    | 4, hf => exact hf
    | _ + 5, hf => exact hf
  · exact all_nil
  · exact all_nil
  · intro i t ht hnal a V S hB hd hp
    match i, ht, hnal with
    | 0, ht, hnal =>
      cases ht
      exact so_val rfl rfl (wanted_free rfl) (rn_field rfl (S.at 2 rfl) (fa_number_1_0 _)) rfl
    | 1, ht, hnal =>
      cases ht
      exact so_val rfl rfl (wanted_free rfl) (rn_load1 rfl (show tG a 7 <| pT g1 2 from hd 0 7 rfl rfl (by kernel_rfl)) (S.bx 0 rfl) (Tryz.isAgg23 _) rfl) rfl
    | 2, ht, hnal =>
      cases ht
      exact so_val rfl rfl (wanted_free rfl) (rn_field rfl (S.at 1 rfl) (fa_number_1_0 _)) rfl
    | 3, ht, hnal =>
      cases ht
      exact so_val rfl rfl (wanted_free rfl) (rn_load1 rfl (show tG a 9 <| pT g2 2 from hd 2 9 rfl rfl (by kernel_rfl)) (S.bx 1 rfl) (Tryz.isAgg23 _) rfl) rfl
    | 4, ht, hnal =>
      cases ht
      exact so_val rfl rfl (wanted_free rfl) (rn_assign rfl (show tG a 8 <| aS y1 from hd 1 8 rfl rfl (by kernel_rfl))) rfl
    | 5, ht, hnal =>
      cases ht
      exact so_val rfl rfl (wanted_free rfl) (rn_assign rfl (show tG a 10 <| aS y2 from hd 3 10 rfl rfl (by kernel_rfl))) rfl
    | k + 6, ht, hnal => simp at ht
  · exact all_nil
  · exact all_nil
  rotate_left
  · exact all_nil
  · intro a1 V4 S hB hf hl hdis hs hp
    have S := S.add (show a1.tmps.getD 5 undef = aS y1 from hf 4 5 rfl rfl)
    have S := S.add (show a1.tmps.getD 6 undef = aS y2 from hf 5 6 rfl rfl)
    have S : Frm 54 [(6, aS y2), (5, aS y1), (4, pT g3 0), (3, pT g2 0), (2, pT g1 0)] [⟨g1, 64, (aL b1 x1 y1)⟩, ⟨g2, 64, (aL b2 x2 y2)⟩, ⟨g3, 64, [.bool false, .slice none 0 0, .slice none 0 0]⟩] V _ _ _ := S
    clear hf hl hdis hs hp S0
    refine hK2 _ _ ?_
    refine wp_seq_k fun K3 hK3 => ?_
    refine wp_seq_k fun K4 hK4 => ?_
    refine frm_plain ?_
    refine tl_val S (v := aS y1) (rn_move rfl (S.at 1 rfl)) rfl rfl (by decide) (ls' := [(6, aS y2), (5, aS y1), (4, pT g3 0), (3, pT g2 0), (2, pT g1 0)]) rfl (fun a S => ?_)
    refine tl_val S (v := aS y2) (rn_move rfl (S.at 1 rfl)) rfl rfl (by decide) (ls' := [(11, aS y1), (6, aS y2), (5, aS y1), (4, pT g3 0), (3, pT g2 0), (2, pT g1 0)]) rfl (fun a S => ?_)
    refine tl_call S (rn_call2 ⟨_, rfl⟩ (S.at 1 rfl) (S.at 0 rfl) (enters_of Tryz.func89 (by kernel_rfl) rfl)) (F := (fun v _ => v = .int .i64 (cmpN y1.N y2.N))) (pCmp (show N1 K (y1.N) (aS y1) _ from ⟨y1, rfl, rfl, hk2, (S.num 3 rfl)⟩) (show N1 K' (y2.N) (aS y2) _ from ⟨y2, rfl, rfl, hk4, (S.num 1 rfl)⟩)) rfl rfl (by decide) (ls' := [(12, aS y2), (11, aS y1), (6, aS y2), (5, aS y1), (4, pT g3 0), (3, pT g2 0), (2, pT g1 0)]) rfl (fun v a V5 hF hb S => ?_)
    subst hF
    refine tl_val S (v := .bool (decide (cmpN y1.N y2.N = 0))) (rn_eql _ (by decide) rfl (S.at 0 rfl) rfl) rfl rfl (by decide) (ls' := [(13, .int .i64 (cmpN y1.N y2.N)), (12, aS y2), (11, aS y1), (6, aS y2), (5, aS y1), (4, pT g3 0), (3, pT g2 0), (2, pT g1 0)]) rfl (fun a S => ?_)
    refine hK4 _ _ ?_
    rcases Bool.eq_false_or_eq_true (decide (cmpN y1.N y2.N = 0)) with hc14 | hc14
    · refine wp_cond_true ((S.at 0 rfl).trans (congrArg Value.bool hc14)) ?_
      refine wp_seq_k fun K5 hK5 => ?_
      have S := S.keep [5, 4, 3, 2] (ls' := [(5, aS y1), (4, pT g3 0), (3, pT g2 0), (2, pT g1 0)]) rfl
      refine frm_plain ?_
      refine tl_val S (v := pT g1 0) (rn_field rfl (S.at 3 rfl) (fa_number_0_0 _)) rfl rfl (by decide) (ls' := [(5, aS y1), (4, pT g3 0), (3, pT g2 0), (2, pT g1 0)]) rfl (fun a S => ?_)
      refine tl_val S (v := pT g1 0) (rn_field rfl (S.at 0 rfl) (fa_numerator_0_0 _)) rfl rfl (by decide) (ls' := [(15, pT g1 0), (5, aS y1), (4, pT g3 0), (3, pT g2 0), (2, pT g1 0)]) rfl (fun a S => ?_)
      refine tl_val S (v := (aZ b1 x1)) (rn_load rfl (S.at 0 rfl) (S.bx 0 rfl) Tryz.underlying25 rfl (vs := [.bool b1, aS x1]) sz_Int rfl) rfl rfl (by decide) (ls' := [(16, pT g1 0), (15, pT g1 0), (5, aS y1), (4, pT g3 0), (3, pT g2 0), (2, pT g1 0)]) rfl (fun a S => ?_)
      refine tl_val S (v := pT g2 0) (rn_field rfl (S.at 5 rfl) (fa_number_0_0 _)) rfl rfl (by decide) (ls' := [(17, (aZ b1 x1)), (16, pT g1 0), (15, pT g1 0), (5, aS y1), (4, pT g3 0), (3, pT g2 0), (2, pT g1 0)]) rfl (fun a S => ?_)
      refine tl_val S (v := pT g2 0) (rn_field rfl (S.at 0 rfl) (fa_numerator_0_0 _)) rfl rfl (by decide) (ls' := [(18, pT g2 0), (17, (aZ b1 x1)), (16, pT g1 0), (15, pT g1 0), (5, aS y1), (4, pT g3 0), (3, pT g2 0), (2, pT g1 0)]) rfl (fun a S => ?_)
      refine tl_val S (v := (aZ b2 x2)) (rn_load rfl (S.at 0 rfl) (S.bx 1 rfl) Tryz.underlying25 rfl (vs := [.bool b2, aS x2]) sz_Int rfl) rfl rfl (by decide) (ls' := [(19, pT g2 0), (18, pT g2 0), (17, (aZ b1 x1)), (16, pT g1 0), (15, pT g1 0), (5, aS y1), (4, pT g3 0), (3, pT g2 0), (2, pT g1 0)]) rfl (fun a S => ?_)
      refine tl_lays S (F := ZL (max K K') 4 ([zOf b1 x1.N, zOf b2 x2.N])) (ly_zrow2 rfl (S.at 3 rfl) (S.at 0 rfl) (((show Z1 K (zOf b1 x1.N) ((aZ b1 x1)) _ from ⟨b1, x1, rfl, rfl, hk1, (S.num 2 rfl)⟩)).to rfl (by omega)) (((show Z1 K' (zOf b2 x2.N) ((aZ b2 x2)) _ from ⟨b2, x2, rfl, rfl, hk3, (S.num 0 rfl)⟩)).to rfl (by omega))) rfl rfl (by decide) (ls' := [(20, (aZ b2 x2)), (19, pT g2 0), (18, pT g2 0), (17, (aZ b1 x1)), (16, pT g1 0), (15, pT g1 0), (5, aS y1), (4, pT g3 0), (3, pT g2 0), (2, pT g1 0)]) rfl (fun v a V6 hF hb S => ?_)
      obtain ⟨ov1, hov1⟩ : ∃ z, z = v := ⟨_, rfl⟩
      rw [← hov1] at hF S
      have rov1 := hF
      refine tl_call S (rn_call1 ⟨_, rfl⟩ (S.at 0 rfl) (enters_of Tryz.func96 (by kernel_rfl) rfl)) (F := ZT ((max K K') + 1) ((zOf b1 x1.N) + (zOf b2 x2.N))) (psAdd (rov1).row (by omega)) rfl rfl (by decide) (ls' := [(21, ov1), (20, (aZ b2 x2)), (19, pT g2 0), (18, pT g2 0), (17, (aZ b1 x1)), (16, pT g1 0), (15, pT g1 0), (5, aS y1), (4, pT g3 0), (3, pT g2 0), (2, pT g1 0)]) rfl (fun v a V7 hF hb S => ?_)
      replace rov1 := rov1.keep hb
      obtain ⟨b3, x3, rfl, hz1, hk5, ok5⟩ := hF
      have S := S.know ok5
      refine tl_val S (v := (aZ b3 x3)) (rn_build1 rfl (S.at 0 rfl) (bd_numerator _ _ _ _)) rfl rfl (by decide) (ls' := [(22, (aZ b3 x3)), (21, ov1), (20, (aZ b2 x2)), (19, pT g2 0), (18, pT g2 0), (17, (aZ b1 x1)), (16, pT g1 0), (15, pT g1 0), (5, aS y1), (4, pT g3 0), (3, pT g2 0), (2, pT g1 0)]) rfl (fun a S => ?_)
      refine tl_val S (v := aS y1) (rn_move rfl (S.at 9 rfl)) rfl rfl (by decide) (ls' := [(23, (aZ b3 x3)), (22, (aZ b3 x3)), (21, ov1), (20, (aZ b2 x2)), (19, pT g2 0), (18, pT g2 0), (17, (aZ b1 x1)), (16, pT g1 0), (15, pT g1 0), (5, aS y1), (4, pT g3 0), (3, pT g2 0), (2, pT g1 0)]) rfl (fun a S => ?_)
      refine tl_val S (v := (aG b3 x3 y1)) (rn_build2 rfl (S.at 1 rfl) (S.at 0 rfl) (bd_number _ _ _ _ _ _ _)) rfl rfl (by decide) (ls' := [(24, aS y1), (23, (aZ b3 x3)), (22, (aZ b3 x3)), (21, ov1), (20, (aZ b2 x2)), (19, pT g2 0), (18, pT g2 0), (17, (aZ b1 x1)), (16, pT g1 0), (15, pT g1 0), (5, aS y1), (4, pT g3 0), (3, pT g2 0), (2, pT g1 0)]) rfl (fun a S => ?_)
      refine tl_store S (i := 2) (vs := (aL b3 x3 y1)) rfl (fun ht => rn_store rfl (S.at 12 rfl) (S.at 0 rfl) sz_number rfl (Nat.le_of_ble_eq_true rfl) ht) (Nat.le_of_ble_eq_true rfl) rfl rfl rfl (lb' := [⟨g1, 64, (aL b1 x1 y1)⟩, ⟨g2, 64, (aL b2 x2 y2)⟩, ⟨g3, 64, (aL b3 x3 y1)⟩]) rfl (fun V8 S => ?_)
      refine hK5 _ _ ?_
      refine wp_ret ?_
      exact frm_retc rfl S (S.at 12 rfl) (i := 2) rfl Tryz.underlying64 rfl sz_number ⟨_, rfl, ⟨_, x3, y1, rfl, add_same hc14 hq1 hq2 (zt_z hz1), Nat.le_trans hk5 (by omega), Nat.le_trans hk2 (by omega), (S.num 0 rfl), (S.num 4 rfl)⟩, S.below⟩
    · refine wp_cond_false ((S.at 0 rfl).trans (congrArg Value.bool hc14)) ?_
      refine wp_skip ?_
      refine hK3 _ _ ?_
      refine wp_seq_k fun K6 hK6 => ?_
      refine wp_seq_k fun K7 hK7 => ?_
      have S := S.keep [6, 5, 4, 3, 2] (ls' := [(6, aS y2), (5, aS y1), (4, pT g3 0), (3, pT g2 0), (2, pT g1 0)]) rfl
      refine frm_plain ?_
      refine tl_val S (v := aS y1) (rn_move rfl (S.at 1 rfl)) rfl rfl (by decide) (ls' := [(6, aS y2), (5, aS y1), (4, pT g3 0), (3, pT g2 0), (2, pT g1 0)]) rfl (fun a S => ?_)
      refine tl_call S (rn_call1 ⟨_, rfl⟩ (S.at 0 rfl) (enters_of Tryz.func81 (by kernel_rfl) rfl)) (F := (fun v _ => v = .int .i64 (((bitsN y1.N : Nat) : Int)))) (pBits (show N1 K (y1.N) (aS y1) _ from ⟨y1, rfl, rfl, hk2, (S.num 3 rfl)⟩)) rfl rfl (by decide) (ls' := [(26, aS y1), (6, aS y2), (5, aS y1), (4, pT g3 0), (3, pT g2 0), (2, pT g1 0)]) rfl (fun v a V9 hF hb S => ?_)
      subst hF
      refine tl_val S (v := aS y2) (rn_move rfl (S.at 2 rfl)) rfl rfl (by decide) (ls' := [(27, .int .i64 (((bitsN y1.N : Nat) : Int))), (26, aS y1), (6, aS y2), (5, aS y1), (4, pT g3 0), (3, pT g2 0), (2, pT g1 0)]) rfl (fun a S => ?_)
      refine tl_call S (rn_call1 ⟨_, rfl⟩ (S.at 0 rfl) (enters_of Tryz.func81 (by kernel_rfl) rfl)) (F := (fun v _ => v = .int .i64 (((bitsN y2.N : Nat) : Int)))) (pBits (show N1 K' (y2.N) (aS y2) _ from ⟨y2, rfl, rfl, hk4, (S.num 1 rfl)⟩)) rfl rfl (by decide) (ls' := [(28, aS y2), (27, .int .i64 (((bitsN y1.N : Nat) : Int))), (26, aS y1), (6, aS y2), (5, aS y1), (4, pT g3 0), (3, pT g2 0), (2, pT g1 0)]) rfl (fun v a V10 hF hb S => ?_)
      subst hF
      refine tl_val S (v := .int .i64 ((((bitsN y1.N) + (bitsN y2.N) : Nat) : Int))) (rn_addn (k := bitsN y1.N) (m := bitsN y2.N) rfl (S.at 2 rfl) (S.at 0 rfl) (by omega)) rfl rfl (by decide) (ls' := [(29, .int .i64 (((bitsN y2.N : Nat) : Int))), (28, aS y2), (27, .int .i64 (((bitsN y1.N : Nat) : Int))), (26, aS y1), (6, aS y2), (5, aS y1), (4, pT g3 0), (3, pT g2 0), (2, pT g1 0)]) rfl (fun a S => ?_)
      refine tl_val S (v := .bool (decide (64 < (((bitsN y1.N) + (bitsN y2.N) : Nat) : Int)))) (rn_gtr rfl (S.at 0 rfl) rfl) rfl rfl (by decide) (ls' := [(30, .int .i64 ((((bitsN y1.N) + (bitsN y2.N) : Nat) : Int))), (29, .int .i64 (((bitsN y2.N : Nat) : Int))), (28, aS y2), (27, .int .i64 (((bitsN y1.N : Nat) : Int))), (26, aS y1), (6, aS y2), (5, aS y1), (4, pT g3 0), (3, pT g2 0), (2, pT g1 0)]) rfl (fun a S => ?_)
      refine hK7 _ _ ?_
      rcases Bool.eq_false_or_eq_true (decide (64 < (((bitsN y1.N) + (bitsN y2.N) : Nat) : Int))) with hc31 | hc31
      · refine wp_cond_true ((S.at 0 rfl).trans (congrArg Value.bool hc31)) ?_
        have S := S.keep [6, 5, 4, 3, 2] (ls' := [(6, aS y2), (5, aS y1), (4, pT g3 0), (3, pT g2 0), (2, pT g1 0)]) rfl
        refine frm_plain ?_
        refine tl_val S (v := aS y1) (rn_move rfl (S.at 1 rfl)) rfl rfl (by decide) (ls' := [(6, aS y2), (5, aS y1), (4, pT g3 0), (3, pT g2 0), (2, pT g1 0)]) rfl (fun a S => ?_)
        refine tl_val S (v := aS y2) (rn_move rfl (S.at 1 rfl)) rfl rfl (by decide) (ls' := [(33, aS y1), (6, aS y2), (5, aS y1), (4, pT g3 0), (3, pT g2 0), (2, pT g1 0)]) rfl (fun a S => ?_)
        refine tl_call S (rn_call2 ⟨_, rfl⟩ (S.at 1 rfl) (S.at 0 rfl) (enters_of Tryz.func82 (by kernel_rfl) rfl)) (F := N2 (K) (K') (y1.N / Nat.gcd y1.N y2.N) (y2.N / Nat.gcd y1.N y2.N)) (pReduce (T.keep S.below) (show N1 K (y1.N) (aS y1) _ from ⟨y1, rfl, rfl, hk2, (S.num 3 rfl)⟩) (show N1 K' (y2.N) (aS y2) _ from ⟨y2, rfl, rfl, hk4, (S.num 1 rfl)⟩) (by omega) (by omega)) rfl rfl (by decide) (ls' := [(34, aS y2), (33, aS y1), (6, aS y2), (5, aS y1), (4, pT g3 0), (3, pT g2 0), (2, pT g1 0)]) rfl (fun v a V11 hF hb S => ?_)
        obtain ⟨tv1, tv2, rfl, tf1, tf2⟩ := hF
        obtain ⟨x4, rfl, hN1, hn1, hk6, ok6⟩ := tf1
        obtain ⟨x5, rfl, hN2, hn2, hk7, ok7⟩ := tf2
        have S := S.know ok7
        have S := S.know ok6
        refine tl_val S (v := .tuple #[aS x4, aS x5]) (rn_move rfl (S.at 0 rfl)) rfl rfl (by decide) (ls' := [(35, .tuple #[aS x4, aS x5]), (34, aS y2), (33, aS y1), (6, aS y2), (5, aS y1), (4, pT g3 0), (3, pT g2 0), (2, pT g1 0)]) rfl (fun a S => ?_)
        refine tl_val S (v := aS x4) (rn_extract rfl (S.at 0 rfl) rfl) rfl rfl (by decide) (ls' := [(32, .tuple #[aS x4, aS x5]), (35, .tuple #[aS x4, aS x5]), (34, aS y2), (33, aS y1), (6, aS y2), (5, aS y1), (4, pT g3 0), (3, pT g2 0), (2, pT g1 0)]) rfl (fun a S => ?_)
        refine tl_val S (v := aS x5) (rn_extract rfl (S.at 1 rfl) rfl) rfl rfl (by decide) (ls' := [(36, aS x4), (32, .tuple #[aS x4, aS x5]), (35, .tuple #[aS x4, aS x5]), (34, aS y2), (33, aS y1), (6, aS y2), (5, aS y1), (4, pT g3 0), (3, pT g2 0), (2, pT g1 0)]) rfl (fun a S => ?_)
        refine tl_val S (v := aS x4) (rn_assign rfl (S.at 1 rfl)) rfl rfl (by decide) (ls' := [(37, aS x5), (36, aS x4), (32, .tuple #[aS x4, aS x5]), (35, .tuple #[aS x4, aS x5]), (34, aS y2), (33, aS y1), (6, aS y2), (4, pT g3 0), (3, pT g2 0), (2, pT g1 0)]) rfl (fun a S => ?_)
        refine tl_val S (v := aS x5) (rn_assign rfl (S.at 1 rfl)) rfl rfl (by decide) (ls' := [(5, aS x4), (37, aS x5), (36, aS x4), (32, .tuple #[aS x4, aS x5]), (35, .tuple #[aS x4, aS x5]), (34, aS y2), (33, aS y1), (4, pT g3 0), (3, pT g2 0), (2, pT g1 0)]) rfl (fun a S => ?_)
        refine hK6 _ _ ?_
        refine wp_seq_k fun K8 hK8 => ?_
        have S := S.keep [6, 5, 4, 3, 2] (ls' := [(6, aS x5), (5, aS x4), (4, pT g3 0), (3, pT g2 0), (2, pT g1 0)]) rfl
        obtain ⟨W2, hW2⟩ : ∃ W, W = V11 := ⟨_, rfl⟩
        rw [← hW2] at S ⊢
        have S0 := S
        refine frm_region 16 [38, 39, 40, 41, 42, 43, 44, 45, 46, 47, 48, 49, 50, 51, 52, 53] (fun i v V => match i with
            | 0 => v = pT g1 0
            | 1 => v = (aZ b1 x1)
            | 2 => v = aS x5
            | 3 => Z1 (K + K') ((zOf b1 x1.N) * (y2.N / Nat.gcd y1.N y2.N : Nat)) v V
            | 4 => v = pT g2 0
            | 5 => v = (aZ b2 x2)
            | 6 => v = aS x4
            | 7 => Z1 (K' + K) ((zOf b2 x2.N) * (y1.N / Nat.gcd y1.N y2.N : Nat)) v V
            | 8 => ZL (max (K + K') (K' + K)) 4 ([(zOf b1 x1.N) * (y2.N / Nat.gcd y1.N y2.N : Nat), (zOf b2 x2.N) * (y1.N / Nat.gcd y1.N y2.N : Nat)]) v V
            | 9 => ZT ((max (K + K') (K' + K)) + 1) (((zOf b1 x1.N) * (y2.N / Nat.gcd y1.N y2.N : Nat)) + ((zOf b2 x2.N) * (y1.N / Nat.gcd y1.N y2.N : Nat))) v V
            | 10 => ZT ((max (K + K') (K' + K)) + 1) (((zOf b1 x1.N) * (y2.N / Nat.gcd y1.N y2.N : Nat)) + ((zOf b2 x2.N) * (y1.N / Nat.gcd y1.N y2.N : Nat))) v V
            | 11 => v = pT g1 2
            | 12 => v = aS y1
            | 13 => v = aS x5
            | 14 => NT (K + K') (y1.N * (y2.N / Nat.gcd y1.N y2.N)) v V
            | _ => QP (max ((max (K + K') (K' + K)) + 1) (K + K')) (((zOf b1 x1.N) * (y2.N / Nat.gcd y1.N y2.N : Nat)) + ((zOf b2 x2.N) * (y1.N / Nat.gcd y1.N y2.N : Nat))) (y1.N * (y2.N / Nat.gcd y1.N y2.N)) v V) S (by kernel_rfl) (by kernel_rfl) rfl (by decide) rfl rfl ?_ ?_ ?_
        · intro i v V V2 hf hb
          match i, hf with
          | 0, hf => exact hf
          | 1, hf => exact hf
          | 2, hf => exact hf
          | 3, hf => exact Z1.keep hf hb
          | 4, hf => exact hf
          | 5, hf => exact hf
          | 6, hf => exact hf
          | 7, hf => exact Z1.keep hf hb
          | 8, hf => exact ZL.keep hf hb
          | 9, hf => exact ZT.keep hf hb
          | 10, hf => exact ZT.keep hf hb
          | 11, hf => exact hf
          | 12, hf => exact hf
          | 13, hf => exact hf
          | 14, hf => exact NT.keep hf hb
          | _ + 15, hf => exact QP.keep hf hb
        · intro i t ht a V S hB hd
          match i, ht with
          | 0, ht =>
            cases ht
            exact so_val rfl rfl (wanted_free rfl) (rn_field rfl (S.at 4 rfl) (fa_number_0_0 _)) rfl
          | 1, ht =>
            cases ht
            exact so_val rfl rfl (wanted_free rfl) (rn_load rfl (show tG a 38 <| pT g1 0 from hd 0 38 rfl (by kernel_rfl)) (S.bx 0 rfl) Tryz.underlying62 rfl (vs := [.bool b1, aS x1]) sz_numerator rfl) rfl
          | 2, ht =>
            cases ht
            exact so_val rfl rfl (wanted_free rfl) (rn_move rfl (S.at 0 rfl)) rfl
          | 3, ht =>
            cases ht
            exact so_call rfl rfl (wanted_free rfl) (rn_call2 ⟨_, rfl⟩ (show tG a 39 <| (aZ b1 x1) from hd 1 39 rfl (by kernel_rfl)) (show tG a 40 <| aS x5 from hd 2 40 rfl (by kernel_rfl)) (enters_of Tryz.func91 (by kernel_rfl) rfl)) (p7times (show Z1 K (zOf b1 x1.N) ((aZ b1 x1)) _ from ⟨b1, x1, rfl, rfl, hk1, (S.num 4 rfl)⟩) (show NT K' (y2.N / Nat.gcd y1.N y2.N) (aS x5) _ from ⟨x5, rfl, hN2, hn2, hk7, (S.num 1 rfl)⟩).any (by omega) (by omega))
          | 4, ht =>
            cases ht
            exact so_val rfl rfl (wanted_free rfl) (rn_field rfl (S.at 3 rfl) (fa_number_0_0 _)) rfl
          | 5, ht =>
            cases ht
            exact so_val rfl rfl (wanted_free rfl) (rn_load rfl (show tG a 42 <| pT g2 0 from hd 4 42 rfl (by kernel_rfl)) (S.bx 1 rfl) Tryz.underlying62 rfl (vs := [.bool b2, aS x2]) sz_numerator rfl) rfl
          | 6, ht =>
            cases ht
            exact so_val rfl rfl (wanted_free rfl) (rn_move rfl (S.at 1 rfl)) rfl
          | 7, ht =>
            cases ht
            exact so_call rfl rfl (wanted_free rfl) (rn_call2 ⟨_, rfl⟩ (show tG a 43 <| (aZ b2 x2) from hd 5 43 rfl (by kernel_rfl)) (show tG a 44 <| aS x4 from hd 6 44 rfl (by kernel_rfl)) (enters_of Tryz.func91 (by kernel_rfl) rfl)) (p7times (show Z1 K' (zOf b2 x2.N) ((aZ b2 x2)) _ from ⟨b2, x2, rfl, rfl, hk3, (S.num 2 rfl)⟩) (show NT K (y1.N / Nat.gcd y1.N y2.N) (aS x4) _ from ⟨x4, rfl, hN1, hn1, hk6, (S.num 0 rfl)⟩).any (by omega) (by omega))
          | 8, ht =>
            cases ht
            exact so_lays rfl rfl (wanted_free rfl) (ly_zrow2 rfl rfl rfl (((show Z1 (K + K') ((zOf b1 x1.N) * (y2.N / Nat.gcd y1.N y2.N : Nat)) (a.tmps.getD 41 undef) V from hd 3 41 rfl (by kernel_rfl))).to rfl (by omega)) (((show Z1 (K' + K) ((zOf b2 x2.N) * (y1.N / Nat.gcd y1.N y2.N : Nat)) (a.tmps.getD 45 undef) V from hd 7 45 rfl (by kernel_rfl))).to rfl (by omega)))
          | 9, ht =>
            cases ht
            exact so_call rfl rfl (wanted_free rfl) (rn_call1 ⟨_, rfl⟩ rfl (enters_of Tryz.func96 (by kernel_rfl) rfl)) (psAdd ((show ZL (max (K + K') (K' + K)) 4 ([(zOf b1 x1.N) * (y2.N / Nat.gcd y1.N y2.N : Nat), (zOf b2 x2.N) * (y1.N / Nat.gcd y1.N y2.N : Nat)]) (a.tmps.getD 46 undef) V from hd 8 46 rfl (by kernel_rfl))).row (by omega))
          | 10, ht =>
            cases ht
            exact so_val rfl rfl (wanted_free rfl) (rn_build1 rfl rfl (zn_mk (show ZT ((max (K + K') (K' + K)) + 1) (((zOf b1 x1.N) * (y2.N / Nat.gcd y1.N y2.N : Nat)) + ((zOf b2 x2.N) * (y1.N / Nat.gcd y1.N y2.N : Nat))) (a.tmps.getD 47 undef) V from hd 9 47 rfl (by kernel_rfl)))) (show ZT ((max (K + K') (K' + K)) + 1) (((zOf b1 x1.N) * (y2.N / Nat.gcd y1.N y2.N : Nat)) + ((zOf b2 x2.N) * (y1.N / Nat.gcd y1.N y2.N : Nat))) (a.tmps.getD 47 undef) V from hd 9 47 rfl (by kernel_rfl))
          | 11, ht =>
            cases ht
            exact so_val rfl rfl (wanted_free rfl) (rn_field rfl (S.at 4 rfl) (fa_number_1_0 _)) rfl
          | 12, ht =>
            cases ht
            exact so_val rfl rfl (wanted_free rfl) (rn_load1 rfl (show tG a 49 <| pT g1 2 from hd 11 49 rfl (by kernel_rfl)) (S.bx 0 rfl) (Tryz.isAgg23 _) rfl) rfl
          | 13, ht =>
            cases ht
            exact so_val rfl rfl (wanted_free rfl) (rn_move rfl (S.at 0 rfl)) rfl
          | 14, ht =>
            cases ht
            exact so_call rfl rfl (wanted_free rfl) (rn_call2 ⟨_, rfl⟩ (show tG a 50 <| aS y1 from hd 12 50 rfl (by kernel_rfl)) (show tG a 51 <| aS x5 from hd 13 51 rfl (by kernel_rfl)) (enters_of Tryz.func88 (by kernel_rfl) rfl)) (pMul (show N1 K (y1.N) (aS y1) _ from ⟨y1, rfl, rfl, hk2, (S.num 5 rfl)⟩) (show NT K' (y2.N / Nat.gcd y1.N y2.N) (aS x5) _ from ⟨x5, rfl, hN2, hn2, hk7, (S.num 1 rfl)⟩).any (by omega) (by omega))
          | 15, ht =>
            cases ht
            obtain ⟨v, hv, hq⟩ := qp_mk (T := 64) (K3 := (max ((max (K + K') (K' + K)) + 1) (K + K'))) (by decide) (show ZT ((max (K + K') (K' + K)) + 1) (((zOf b1 x1.N) * (y2.N / Nat.gcd y1.N y2.N : Nat)) + ((zOf b2 x2.N) * (y1.N / Nat.gcd y1.N y2.N : Nat))) (a.tmps.getD 48 undef) V from hd 10 48 rfl (by kernel_rfl)) (show NT (K + K') (y1.N * (y2.N / Nat.gcd y1.N y2.N)) (a.tmps.getD 52 undef) V from hd 14 52 rfl (by kernel_rfl)) (by omega) (by omega)
            exact so_val rfl rfl (wanted_free rfl) (rn_build2 rfl rfl rfl hv) hq
          | k + 16, ht => simp at ht
        · intro a2 V12 S hB hf
          obtain ⟨b4, x6, y3, hv1, hq3, hk8, hk9, ok8, ok9⟩ := (show QP (max ((max (K + K') (K' + K)) + 1) (K + K')) (((zOf b1 x1.N) * (y2.N / Nat.gcd y1.N y2.N : Nat)) + ((zOf b2 x2.N) * (y1.N / Nat.gcd y1.N y2.N : Nat))) (y1.N * (y2.N / Nat.gcd y1.N y2.N)) (a2.tmps.getD 53 undef) V12 from hf 15 53 rfl)
          have S := S.add hv1
          have S := S.know ok8
          have S := S.know ok9
          clear hf S0
          show wpList _ _ _ [_] _ _
          refine tl_store S (i := 2) (vs := (aL b4 x6 y3)) rfl (fun ht => rn_store rfl (S.at 3 rfl) (S.at 0 rfl) sz_number rfl (Nat.le_of_ble_eq_true rfl) ht) (Nat.le_of_ble_eq_true rfl) rfl rfl rfl (lb' := [⟨g1, 64, (aL b1 x1 y1)⟩, ⟨g2, 64, (aL b2 x2 y2)⟩, ⟨g3, 64, (aL b4 x6 y3)⟩]) rfl (fun V13 S => ?_)
          refine hK8 _ _ ?_
          refine wp_ret ?_
          exact frm_retc rfl S (S.at 3 rfl) (i := 2) rfl Tryz.underlying64 rfl sz_number ⟨_, rfl, ⟨_, x6, y3, rfl, add_red hq1 hq2 (zt_z hq3.1) hq3.2.1, Nat.le_trans hk8 (by omega), Nat.le_trans hk9 (by omega), (S.num 1 rfl), (S.num 0 rfl)⟩, S.below⟩
      · refine wp_cond_false ((S.at 0 rfl).trans (congrArg Value.bool hc31)) ?_
        refine wp_skip ?_
        refine hK6 _ _ ?_
        refine wp_seq_k fun K9 hK9 => ?_
        have S := S.keep [6, 5, 4, 3, 2] (ls' := [(6, aS y2), (5, aS y1), (4, pT g3 0), (3, pT g2 0), (2, pT g1 0)]) rfl
        obtain ⟨W3, hW3⟩ : ∃ W, W = V10 := ⟨_, rfl⟩
        rw [← hW3] at S ⊢
        have S0 := S
        refine frm_region 16 [38, 39, 40, 41, 42, 43, 44, 45, 46, 47, 48, 49, 50, 51, 52, 53] (fun i v V => match i with
            | 0 => v = pT g1 0
            | 1 => v = (aZ b1 x1)
            | 2 => v = aS y2
            | 3 => Z1 (K + K') ((zOf b1 x1.N) * (y2.N : Nat)) v V
            | 4 => v = pT g2 0
            | 5 => v = (aZ b2 x2)
            | 6 => v = aS y1
            | 7 => Z1 (K' + K) ((zOf b2 x2.N) * (y1.N : Nat)) v V
            | 8 => ZL (max (K + K') (K' + K)) 4 ([(zOf b1 x1.N) * (y2.N : Nat), (zOf b2 x2.N) * (y1.N : Nat)]) v V
            | 9 => ZT ((max (K + K') (K' + K)) + 1) (((zOf b1 x1.N) * (y2.N : Nat)) + ((zOf b2 x2.N) * (y1.N : Nat))) v V
            | 10 => ZT ((max (K + K') (K' + K)) + 1) (((zOf b1 x1.N) * (y2.N : Nat)) + ((zOf b2 x2.N) * (y1.N : Nat))) v V
            | 11 => v = pT g1 2
            | 12 => v = aS y1
            | 13 => v = aS y2
            | 14 => NT (K + K') (y1.N * y2.N) v V
            | _ => QP (max ((max (K + K') (K' + K)) + 1) (K + K')) (((zOf b1 x1.N) * (y2.N : Nat)) + ((zOf b2 x2.N) * (y1.N : Nat))) (y1.N * y2.N) v V) S (by kernel_rfl) (by kernel_rfl) rfl (by decide) rfl rfl ?_ ?_ ?_
        · intro i v V V2 hf hb
          match i, hf with
          | 0, hf => exact hf
          | 1, hf => exact hf
          | 2, hf => exact hf
          | 3, hf => exact Z1.keep hf hb
          | 4, hf => exact hf
          | 5, hf => exact hf
          | 6, hf => exact hf
          | 7, hf => exact Z1.keep hf hb
          | 8, hf => exact ZL.keep hf hb
          | 9, hf => exact ZT.keep hf hb
          | 10, hf => exact ZT.keep hf hb
          | 11, hf => exact hf
          | 12, hf => exact hf
          | 13, hf => exact hf
          | 14, hf => exact NT.keep hf hb
          | _ + 15, hf => exact QP.keep hf hb
        · intro i t ht a V S hB hd
          match i, ht with
          | 0, ht =>
            cases ht
            exact so_val rfl rfl (wanted_free rfl) (rn_field rfl (S.at 4 rfl) (fa_number_0_0 _)) rfl
          | 1, ht =>
            cases ht
            exact so_val rfl rfl (wanted_free rfl) (rn_load rfl (show tG a 38 <| pT g1 0 from hd 0 38 rfl (by kernel_rfl)) (S.bx 0 rfl) Tryz.underlying62 rfl (vs := [.bool b1, aS x1]) sz_numerator rfl) rfl
          | 2, ht =>
            cases ht
            exact so_val rfl rfl (wanted_free rfl) (rn_move rfl (S.at 0 rfl)) rfl
          | 3, ht =>
            cases ht
            exact so_call rfl rfl (wanted_free rfl) (rn_call2 ⟨_, rfl⟩ (show tG a 39 <| (aZ b1 x1) from hd 1 39 rfl (by kernel_rfl)) (show tG a 40 <| aS y2 from hd 2 40 rfl (by kernel_rfl)) (enters_of Tryz.func91 (by kernel_rfl) rfl)) (p7times (show Z1 K (zOf b1 x1.N) ((aZ b1 x1)) _ from ⟨b1, x1, rfl, rfl, hk1, (S.num 2 rfl)⟩) (show N1 K' (y2.N) (aS y2) _ from ⟨y2, rfl, rfl, hk4, (S.num 1 rfl)⟩) (by omega) (by omega))
          | 4, ht =>
            cases ht
            exact so_val rfl rfl (wanted_free rfl) (rn_field rfl (S.at 3 rfl) (fa_number_0_0 _)) rfl
          | 5, ht =>
            cases ht
            exact so_val rfl rfl (wanted_free rfl) (rn_load rfl (show tG a 42 <| pT g2 0 from hd 4 42 rfl (by kernel_rfl)) (S.bx 1 rfl) Tryz.underlying62 rfl (vs := [.bool b2, aS x2]) sz_numerator rfl) rfl
          | 6, ht =>
            cases ht
            exact so_val rfl rfl (wanted_free rfl) (rn_move rfl (S.at 1 rfl)) rfl
          | 7, ht =>
            cases ht
            exact so_call rfl rfl (wanted_free rfl) (rn_call2 ⟨_, rfl⟩ (show tG a 43 <| (aZ b2 x2) from hd 5 43 rfl (by kernel_rfl)) (show tG a 44 <| aS y1 from hd 6 44 rfl (by kernel_rfl)) (enters_of Tryz.func91 (by kernel_rfl) rfl)) (p7times (show Z1 K' (zOf b2 x2.N) ((aZ b2 x2)) _ from ⟨b2, x2, rfl, rfl, hk3, (S.num 0 rfl)⟩) (show N1 K (y1.N) (aS y1) _ from ⟨y1, rfl, rfl, hk2, (S.num 3 rfl)⟩) (by omega) (by omega))
          | 8, ht =>
            cases ht
            exact so_lays rfl rfl (wanted_free rfl) (ly_zrow2 rfl rfl rfl (((show Z1 (K + K') ((zOf b1 x1.N) * (y2.N : Nat)) (a.tmps.getD 41 undef) V from hd 3 41 rfl (by kernel_rfl))).to rfl (by omega)) (((show Z1 (K' + K) ((zOf b2 x2.N) * (y1.N : Nat)) (a.tmps.getD 45 undef) V from hd 7 45 rfl (by kernel_rfl))).to rfl (by omega)))
          | 9, ht =>
            cases ht
            exact so_call rfl rfl (wanted_free rfl) (rn_call1 ⟨_, rfl⟩ rfl (enters_of Tryz.func96 (by kernel_rfl) rfl)) (psAdd ((show ZL (max (K + K') (K' + K)) 4 ([(zOf b1 x1.N) * (y2.N : Nat), (zOf b2 x2.N) * (y1.N : Nat)]) (a.tmps.getD 46 undef) V from hd 8 46 rfl (by kernel_rfl))).row (by omega))
          | 10, ht =>
            cases ht
            exact so_val rfl rfl (wanted_free rfl) (rn_build1 rfl rfl (zn_mk (show ZT ((max (K + K') (K' + K)) + 1) (((zOf b1 x1.N) * (y2.N : Nat)) + ((zOf b2 x2.N) * (y1.N : Nat))) (a.tmps.getD 47 undef) V from hd 9 47 rfl (by kernel_rfl)))) (show ZT ((max (K + K') (K' + K)) + 1) (((zOf b1 x1.N) * (y2.N : Nat)) + ((zOf b2 x2.N) * (y1.N : Nat))) (a.tmps.getD 47 undef) V from hd 9 47 rfl (by kernel_rfl))
          | 11, ht =>
            cases ht
            exact so_val rfl rfl (wanted_free rfl) (rn_field rfl (S.at 4 rfl) (fa_number_1_0 _)) rfl
          | 12, ht =>
            cases ht
            exact so_val rfl rfl (wanted_free rfl) (rn_load1 rfl (show tG a 49 <| pT g1 2 from hd 11 49 rfl (by kernel_rfl)) (S.bx 0 rfl) (Tryz.isAgg23 _) rfl) rfl
          | 13, ht =>
            cases ht
            exact so_val rfl rfl (wanted_free rfl) (rn_move rfl (S.at 0 rfl)) rfl
          | 14, ht =>
            cases ht
            exact so_call rfl rfl (wanted_free rfl) (rn_call2 ⟨_, rfl⟩ (show tG a 50 <| aS y1 from hd 12 50 rfl (by kernel_rfl)) (show tG a 51 <| aS y2 from hd 13 51 rfl (by kernel_rfl)) (enters_of Tryz.func88 (by kernel_rfl) rfl)) (pMul (show N1 K (y1.N) (aS y1) _ from ⟨y1, rfl, rfl, hk2, (S.num 3 rfl)⟩) (show N1 K' (y2.N) (aS y2) _ from ⟨y2, rfl, rfl, hk4, (S.num 1 rfl)⟩) (by omega) (by omega))
          | 15, ht =>
            cases ht
            obtain ⟨v, hv, hq⟩ := qp_mk (T := 64) (K3 := (max ((max (K + K') (K' + K)) + 1) (K + K'))) (by decide) (show ZT ((max (K + K') (K' + K)) + 1) (((zOf b1 x1.N) * (y2.N : Nat)) + ((zOf b2 x2.N) * (y1.N : Nat))) (a.tmps.getD 48 undef) V from hd 10 48 rfl (by kernel_rfl)) (show NT (K + K') (y1.N * y2.N) (a.tmps.getD 52 undef) V from hd 14 52 rfl (by kernel_rfl)) (by omega) (by omega)
            exact so_val rfl rfl (wanted_free rfl) (rn_build2 rfl rfl rfl hv) hq
          | k + 16, ht => simp at ht
        · intro a3 V14 S hB hf
          obtain ⟨b5, x7, y4, hv2, hq4, hk10, hk11, ok10, ok11⟩ := (show QP (max ((max (K + K') (K' + K)) + 1) (K + K')) (((zOf b1 x1.N) * (y2.N : Nat)) + ((zOf b2 x2.N) * (y1.N : Nat))) (y1.N * y2.N) (a3.tmps.getD 53 undef) V14 from hf 15 53 rfl)
          have S := S.add hv2
          have S := S.know ok10
          have S := S.know ok11
          clear hf S0
          show wpList _ _ _ [_] _ _
          refine tl_store S (i := 2) (vs := (aL b5 x7 y4)) rfl (fun ht => rn_store rfl (S.at 3 rfl) (S.at 0 rfl) sz_number rfl (Nat.le_of_ble_eq_true rfl) ht) (Nat.le_of_ble_eq_true rfl) rfl rfl rfl (lb' := [⟨g1, 64, (aL b1 x1 y1)⟩, ⟨g2, 64, (aL b2 x2 y2)⟩, ⟨g3, 64, (aL b5 x7 y4)⟩]) rfl (fun V15 S => ?_)
          refine hK9 _ _ ?_
          refine wp_ret ?_
          exact frm_retc rfl S (S.at 3 rfl) (i := 2) rfl Tryz.underlying64 rfl sz_number ⟨_, rfl, ⟨_, x7, y4, rfl, add_cross hq1 hq2 (zt_z hq4.1) hq4.2.1, Nat.le_trans hk10 (by omega), Nat.le_trans hk11 (by omega), (S.num 1 rfl), (S.num 0 rfl)⟩, S.below⟩
end Go.Proofs.YtdajbmjknilmiaaGreatDoor
