/- Contract of straitlaw07.same: told the same? (of the same number) -/
import Derived.Test.YtdajbmjknilmiaaGreatDoorGRatG
import Derived.Test.YtdajbmjknilmiaaGreatDoorGPOps
namespace Go.Proofs.YtdajbmjknilmiaaGreatDoor
open Go Go.RowKit
variable {w W : World} {e : List Num} {x y x' y' : Num}

set_option maxHeartbeats 1000000 in
theorem same7_E {q : Rat} {b b' : Bool} (h : Env w e W) (hx : x ∈ e) (hy : y ∈ e) (hx' : x' ∈ e) (hy' : y' ∈ e) (hq : IsQ q b x y) (hq' : IsQ q b' x' y') :
    Calls Tryz.prog 14 #[.agg #[.bool b, .slice x.A x.n x.c, .slice y.A y.n y.c], .agg #[.bool b', .slice x'.A x'.n x'.c, .slice y'.A y'.n y'.c]] W fun e' W' => e' = .returned (.bool true) ∧ Env w e W' := by
  have HE := (h.alloc (.cells #[.bool b, .slice x.A x.n x.c, .slice y.A y.n y.c] 27)).alloc (.cells #[.bool b', .slice x'.A x'.n x'.c, .slice y'.A y'.n y'.c] 27)
  have B1 := (Box3.new W 27 (.bool b) (.slice x.A x.n x.c) (.slice y.A y.n y.c)).alloc (.cells #[.bool b', .slice x'.A x'.n x'.c, .slice y'.A y'.n y'.c] 27)
  have B2 := Box3.new (W.alloc (.cells #[.bool b, .slice x.A x.n x.c, .slice y.A y.n y.c] 27)) 27 (.bool b') (.slice x'.A x'.n x'.c) (.slice y'.A y'.n y'.c)
  rw [World.size_alloc] at B2
  have ES := Lib.hid (r7Told_E HE hx hy hx' hy' hq hq')
  obtain ⟨W2, hW2⟩ : ∃ W2, (W.alloc (.cells #[.bool b, .slice x.A x.n x.c, .slice y.A y.n y.c] 27)).alloc (.cells #[.bool b', .slice x'.A x'.n x'.c, .slice y'.A y'.n y'.c] 27) = W2 := ⟨_, rfl⟩
  rw [hW2] at B1 B2 ES
  obtain ⟨c1, c2, c3, -, -, -⟩ := B1.cells
  obtain ⟨d1, d2, d3, -, -, -⟩ := B2.cells
  clear HE B1 B2 h hq hq'
  go_enter Tryz.func14, Tryz.ntmps14
  go_wp2_with fail
  refine ES.out.mono ?_
  rintro e' W' ⟨rfl, hE⟩
  go_wp2
  go_ret
  exact ⟨rfl, hE⟩
end Go.Proofs.YtdajbmjknilmiaaGreatDoor

/- The law package's own functions of layer 7: same, by, wakes; the document's Told, Great, told of values. -/
namespace Go.Proofs.YtdajbmjknilmiaaGreatDoor
open Go Go.RowKit
variable {v v' v1 v2 v3 : Value} {V V' : World} {K K' N M : Nat} {q q' q1 q2 : Rat} {Z Z' : Int}

theorem c7Told (h : QT K q v V) (h' : QT K' q' v' V) (he : q = q') : Calls Tryz.prog 50 #[v, v'] V (Gives1 V fun v _ => v = .bool true) := by
  subst he
  obtain ⟨b, x, y, rfl, hq, -, -, o1, o2⟩ := h
  obtain ⟨b', x', y', rfl, hq', -, -, o1', o2'⟩ := h'
  exact gv (r7Told_E (e := [x, y, x', y']) (Env.start (by simp [o1, o2, o1', o2'])) (by simp) (by simp) (by simp) (by simp) hq hq')
theorem l7same (h : QT K q v V) (h' : QT K' q' v' V) (he : q = q') : Calls Tryz.prog 14 #[v, v'] V (Gives1 V fun v _ => v = .bool true) := by
  subst he
  obtain ⟨b, x, y, rfl, hq, -, -, o1, o2⟩ := h
  obtain ⟨b', x', y', rfl, hq', -, -, o1', o2'⟩ := h'
  exact gv (same7_E (e := [x, y, x', y']) (Env.start (by simp [o1, o2, o1', o2'])) (by simp) (by simp) (by simp) (by simp) hq hq')
theorem c5Told (h : ZT K Z v V) (h' : ZT K' Z' v' V) (he : Z = Z') : Calls Tryz.prog 37 #[v, v'] V (Gives1 V fun v _ => v = .bool true) := by
  subst he
  obtain ⟨b, x, rfl, ⟨rfl, a2, a3⟩, -, o1⟩ := h
  obtain ⟨b', x', rfl, ⟨rfl, b2, b3⟩, -, o1'⟩ := h'
  exact gv (r5Told_E _ (env2 o1 o1') (by simp) (by simp) (by rw [a3, b3]) (by rw [a2, b2]))
theorem isQ_by {n : Int} {d : Nat} {b : Bool} {x y : Num} (h : b = decide (n < 0) ∧ x.N = n.natAbs ∧ x.n = lenL n.natAbs) (h1 : y.N = d) (h2 : y.n = lenL d) (hd : d ≠ 0) (hg : Nat.gcd n.natAbs d = 1) : IsQ (mkRat n d) b x y := by
  have hp := mkRat_parts (z := n) hd
  rw [hg] at hp
  have e1 : (mkRat n d).num = n := by rw [hp.1]; simp
  have e2 : (mkRat n d).den = d := by rw [hp.2]; simp
  refine ⟨by rw [e1]; exact h.1, by rw [e1]; exact h.2.1, by rw [h.2.1]; exact h.2.2, by rw [e2]; exact h1, by rw [h1]; exact h2⟩
/-- A row of just these rationals. -/
def GL (ps : List (Bool × Num × Num)) (v : Value) (V : World) : Prop := ∃ (A : Option Addr) (c : Nat), v = .slice A ps.length c ∧ QRds V V.heap.size A ps ∧ ps.length ≤ 100000000000000
theorem GL.keep {ps : List (Bool × Num × Num)} (h : GL ps v V) (hb : Below V.heap.size V V') : GL ps v V' := by
  obtain ⟨A, c, h1, h2, h3⟩ := h; exact ⟨A, c, h1, (h2.below hb).more hb.size, h3⟩
theorem l7Great {ps : List (Bool × Num × Num)} {G : Bool} (h : GL ps v V) (hG : great7 ps = G) : Calls Tryz.prog 8 #[v] V (Gives1 V fun v _ => v = .bool G) := by
  obtain ⟨A, c, rfl, hR, hl⟩ := h
  rw [← hG]
  exact gbel (great7_any V _ A c ps hR hl)
section
variable {ls : List (Tmp × Value)} {a : Act} {o : Oper} {t1 t2 t3 : Tmp} {b b' b'' : Bool} {x y x' y' x'' y'' : Num}
theorem ly_grow3 (hop : o.op = .buildSlice 28 3 #[(0, .tmp t1), (1, .tmp t2), (2, .tmp t3)]) (h1 : a.tmps.getD t1 undef = .agg #[.bool b, .slice x.A x.n x.c, .slice y.A y.n y.c]) (h2 : a.tmps.getD t2 undef = .agg #[.bool b', .slice x'.A x'.n x'.c, .slice y'.A y'.n y'.c]) (h3 : a.tmps.getD t3 undef = .agg #[.bool b'', .slice x''.A x''.n x''.c, .slice y''.A y''.n y''.c]) (o1 : x.ok V V.heap.size) (o2 : y.ok V V.heap.size) (o3 : x'.ok V V.heap.size) (o4 : y'.ok V V.heap.size) (o5 : x''.ok V V.heap.size) (o6 : y''.ok V V.heap.size) : Lays o a V (GL [(b, x, y), (b', x', y'), (b'', x'', y'')]) := by
  refine ⟨.slice (some ⟨V.heap.size, 0, none⟩) 3 3, V.alloc (.cells #[.bool b, .slice x.A x.n x.c, .slice y.A y.n y.c, .bool b', .slice x'.A x'.n x'.c, .slice y'.A y'.n y'.c, .bool b'', .slice x''.A x''.n x''.c, .slice y''.A y''.n y''.c] 27), ?_, ⟨_, 3, rfl, QRds.lit (fun k hk => ?_) (by simp [o1, o2, o3, o4, o5, o6]), by simp⟩, (Below.refl _ _).alloc (Nat.le_refl _) _⟩
  · rw [slot_eq] at h1 h2 h3
    obtain ⟨dst, op, ty, pos, after, guard⟩ := o
    simp only at hop
    subst hop
    go_simp
  · match k, hk with
    | 0, _ => exact ⟨rfl, rfl, rfl⟩
    | 1, _ => exact ⟨rfl, rfl, rfl⟩
    | 2, _ => exact ⟨rfl, rfl, rfl⟩
end
set_option maxRecDepth 100000 in
set_option maxHeartbeats 4000000 in
theorem l7by {n : Int} {d : Nat} {V : World}  (hn : -9223372036854775808 ≤ n ∧ n ≤ 9223372036854775807) (hd : d < 4294967296) (hd0 : d ≠ 0) (hg : Nat.gcd n.natAbs d = 1):
    Calls Tryz.prog 49 #[.int .i64 n, .int .u32 (((d : Nat) : Int))] V (Gives1 V (QT 2 (mkRat n d))) := by
  refine frm_body (e := []) Tryz.func49 rfl Tryz.ntmps49 (Nat.le_of_ble_eq_true rfl) [(0, .int .i64 n), (1, .int .u32 (((d : Nat) : Int)))] rfl ok_nil (fun a S => ?_)
  refine wp_seq_k fun K1 hK1 => ?_
  refine frm_plain ?_
  refine tl_box S (T := 27) (cs := [.bool false, .slice none 0 0, .slice none 0 0]) (rn_alloc rfl (Tryz.zeroValue27 _) rfl) rfl rfl rfl (by decide) (ls' := [(0, .int .i64 n), (1, .int .u32 (((d : Nat) : Int)))]) rfl (lb' := fun g1 => [⟨g1, 27, [.bool false, .slice none 0 0, .slice none 0 0]⟩]) (fun _ => rfl) (fun g1 a V1 hgg1 S => ?_)
  refine hK1 _ _ ?_
  refine wp_seq_k fun K2 hK2 => ?_
  refine frm_plain ?_
  refine tl_val S (v := .int .i64 n) (rn_move rfl (S.at 1 rfl)) rfl rfl (by decide) (ls' := [(4, .pointer (some ⟨g1, 0, none⟩)), (0, .int .i64 n), (1, .int .u32 (((d : Nat) : Int)))]) rfl (fun a S => ?_)
  refine tl_call S (rn_call1 ⟨_, rfl⟩ (S.at 0 rfl) (enters_of Tryz.func48 (by kernel_rfl) rfl)) (F := ZT 2 (n)) (c5Of (n := n) hn) rfl rfl (by decide) (ls' := [(5, .int .i64 n), (4, .pointer (some ⟨g1, 0, none⟩)), (0, .int .i64 n), (1, .int .u32 (((d : Nat) : Int)))]) rfl (fun v a V2 hF hb S => ?_)
  obtain ⟨b1, x1, rfl, hz1, hk1, ok1⟩ := hF
  have S := S.know ok1
  refine tl_val S (v := .int .u32 (((d : Nat) : Int))) (rn_move rfl (S.at 4 rfl)) rfl rfl (by decide) (ls' := [(6, .agg #[.bool b1, .slice x1.A x1.n x1.c]), (5, .int .i64 n), (4, .pointer (some ⟨g1, 0, none⟩)), (0, .int .i64 n), (1, .int .u32 (((d : Nat) : Int)))]) rfl (fun a S => ?_)
  refine tl_lays S (F := NT 1 (d)) (ly_oneV (c := d) rfl (S.at 0 rfl) hd hd0) rfl rfl (by decide) (ls' := [(7, .int .u32 (((d : Nat) : Int))), (6, .agg #[.bool b1, .slice x1.A x1.n x1.c]), (5, .int .i64 n), (4, .pointer (some ⟨g1, 0, none⟩)), (0, .int .i64 n), (1, .int .u32 (((d : Nat) : Int)))]) rfl (fun v a V3 hF hb S => ?_)
  obtain ⟨x2, rfl, hN1, hn1, hk2, ok2⟩ := hF
  have S := S.know ok2
  refine tl_val S (v := .agg #[.bool b1, .slice x1.A x1.n x1.c, .slice x2.A x2.n x2.c]) (rn_build2 rfl (S.at 2 rfl) (S.at 0 rfl) (bd_Rat _ _ _ _ _ _ _)) rfl rfl (by decide) (ls' := [(8, .slice x2.A x2.n x2.c), (7, .int .u32 (((d : Nat) : Int))), (6, .agg #[.bool b1, .slice x1.A x1.n x1.c]), (5, .int .i64 n), (4, .pointer (some ⟨g1, 0, none⟩)), (0, .int .i64 n), (1, .int .u32 (((d : Nat) : Int)))]) rfl (fun a S => ?_)
  refine tl_store S (i := 0) (vs := [.bool b1, .slice x1.A x1.n x1.c, .slice x2.A x2.n x2.c]) rfl (fun ht => rn_store rfl (S.at 5 rfl) (S.at 0 rfl) sz_Rat rfl (Nat.le_of_ble_eq_true rfl) ht) (Nat.le_of_ble_eq_true rfl) rfl rfl rfl (lb' := [⟨g1, 27, [.bool b1, .slice x1.A x1.n x1.c, .slice x2.A x2.n x2.c]⟩]) rfl (fun V4 S => ?_)
  refine hK2 _ _ ?_
  refine wp_ret ?_
  exact frm_retc rfl S (S.at 5 rfl) (i := 0) rfl Tryz.underlying27 rfl sz_Rat ⟨_, rfl, ⟨b1, x1, x2, rfl, isQ_by hz1 hN1 hn1 hd0 hg, hk1, Nat.le_trans hk2 (by decide), (S.num 1 rfl), (S.num 0 rfl)⟩, S.below⟩
set_option maxRecDepth 100000 in
set_option maxHeartbeats 4000000 in
theorem l7wakes  {V : World} (T : TT V) :
    Calls Tryz.prog 9 #[] V (Gives1 V (fun v _ => v = .bool true)) := by
  refine frm_body (e := []) Tryz.func9 rfl Tryz.ntmps9 (Nat.le_of_ble_eq_true rfl) [] rfl ok_nil (fun a S => ?_)
  refine wp_seq_k fun K1 hK1 => ?_
  refine frm_plain ?_
  refine tl_val S (v := .bool false) (rn_assignc rfl) rfl rfl (by decide) (ls' := []) rfl (fun a S => ?_)
  refine hK1 _ _ ?_
  refine wp_seq_k fun K2 hK2 => ?_
  have S := S.keep [] (ls' := []) rfl
  refine frm_plain ?_
  refine tl_call S (rn_callc ⟨_, rfl⟩  (enters_of Tryz.func48 (by kernel_rfl) rfl)) (F := ZT 2 (2)) (c5Of (n := 2) (by decide)) rfl rfl (by decide) (ls' := []) rfl (fun v a V1 hF hb S => ?_)
  obtain ⟨b1, x1, rfl, hz1, hk1, ok1⟩ := hF
  have S := S.know ok1
  refine tl_lays S (F := NT 1 ((4 : Nat))) (ly_oneT (c := 4) rfl (by decide) (by decide)) rfl rfl (by decide) (ls' := [(7, .agg #[.bool b1, .slice x1.A x1.n x1.c])]) rfl (fun v a V2 hF hb S => ?_)
  obtain ⟨x2, rfl, hN1, hn1, hk2, ok2⟩ := hF
  have S := S.know ok2
  refine tl_call S (rn_call2 ⟨_, rfl⟩ (S.at 1 rfl) (S.at 0 rfl) (enters_of Tryz.func10 (by kernel_rfl) rfl)) (F := QE 2 (mkRat 2 (4 : Nat)) (erz (4 : Nat))) (p7New (T.keep S.below) (show ZT 2 (2) (.agg #[.bool b1, .slice x1.A x1.n x1.c]) _ from ⟨b1, x1, rfl, hz1, hk1, (S.num 1 rfl)⟩).any (show NT 1 ((4 : Nat)) (.slice x2.A x2.n x2.c) _ from ⟨x2, rfl, hN1, hn1, hk2, (S.num 0 rfl)⟩).any (by omega) (by omega)) rfl rfl (by decide) (ls' := [(8, .slice x2.A x2.n x2.c), (7, .agg #[.bool b1, .slice x1.A x1.n x1.c])]) rfl (fun v a V3 hF hb S => ?_)
  obtain ⟨b2, x3, y1, rfl, hq1, hk3, hk4, ok3, ok4⟩ := hF
  have S := S.know ok3
  have S := S.know ok4
  refine tl_val S (v := .tuple #[.agg #[.bool b2, .slice x3.A x3.n x3.c, .slice y1.A y1.n y1.c], .int .i64 (erz (4 : Nat))]) (rn_move rfl (S.at 0 rfl)) rfl rfl (by decide) (ls' := [(9, .tuple #[.agg #[.bool b2, .slice x3.A x3.n x3.c, .slice y1.A y1.n y1.c], .int .i64 (erz (4 : Nat))]), (8, .slice x2.A x2.n x2.c), (7, .agg #[.bool b1, .slice x1.A x1.n x1.c])]) rfl (fun a S => ?_)
  refine tl_val S (v := .agg #[.bool b2, .slice x3.A x3.n x3.c, .slice y1.A y1.n y1.c]) (rn_extract rfl (S.at 0 rfl) rfl) rfl rfl (by decide) (ls' := [(6, .tuple #[.agg #[.bool b2, .slice x3.A x3.n x3.c, .slice y1.A y1.n y1.c], .int .i64 (erz (4 : Nat))]), (9, .tuple #[.agg #[.bool b2, .slice x3.A x3.n x3.c, .slice y1.A y1.n y1.c], .int .i64 (erz (4 : Nat))]), (8, .slice x2.A x2.n x2.c), (7, .agg #[.bool b1, .slice x1.A x1.n x1.c])]) rfl (fun a S => ?_)
  refine tl_val S (v := .int .i64 (erz (4 : Nat))) (rn_extract rfl (S.at 1 rfl) rfl) rfl rfl (by decide) (ls' := [(10, .agg #[.bool b2, .slice x3.A x3.n x3.c, .slice y1.A y1.n y1.c]), (6, .tuple #[.agg #[.bool b2, .slice x3.A x3.n x3.c, .slice y1.A y1.n y1.c], .int .i64 (erz (4 : Nat))]), (9, .tuple #[.agg #[.bool b2, .slice x3.A x3.n x3.c, .slice y1.A y1.n y1.c], .int .i64 (erz (4 : Nat))]), (8, .slice x2.A x2.n x2.c), (7, .agg #[.bool b1, .slice x1.A x1.n x1.c])]) rfl (fun a S => ?_)
  refine tl_box S (T := 27) (cs := [.bool false, .slice none 0 0, .slice none 0 0]) (rn_alloc rfl (Tryz.zeroValue27 _) rfl) rfl rfl rfl (by decide) (ls' := [(11, .int .i64 (erz (4 : Nat))), (10, .agg #[.bool b2, .slice x3.A x3.n x3.c, .slice y1.A y1.n y1.c]), (6, .tuple #[.agg #[.bool b2, .slice x3.A x3.n x3.c, .slice y1.A y1.n y1.c], .int .i64 (erz (4 : Nat))]), (9, .tuple #[.agg #[.bool b2, .slice x3.A x3.n x3.c, .slice y1.A y1.n y1.c], .int .i64 (erz (4 : Nat))]), (8, .slice x2.A x2.n x2.c), (7, .agg #[.bool b1, .slice x1.A x1.n x1.c])]) rfl (lb' := fun g1 => [⟨g1, 27, [.bool false, .slice none 0 0, .slice none 0 0]⟩]) (fun _ => rfl) (fun g1 a V4 hgg1 S => ?_)
  refine tl_store S (i := 0) (vs := [.bool b2, .slice x3.A x3.n x3.c, .slice y1.A y1.n y1.c]) rfl (fun ht => rn_store rfl (S.at 0 rfl) (S.at 2 rfl) sz_Rat rfl (Nat.le_of_ble_eq_true rfl) ht) (Nat.le_of_ble_eq_true rfl) rfl rfl rfl (lb' := [⟨g1, 27, [.bool b2, .slice x3.A x3.n x3.c, .slice y1.A y1.n y1.c]⟩]) rfl (fun V5 S => ?_)
  refine tl_val S (v := .int .i64 (erz (4 : Nat))) (rn_assign rfl (S.at 1 rfl)) rfl rfl (by decide) (ls' := [(1, .pointer (some ⟨g1, 0, none⟩)), (11, .int .i64 (erz (4 : Nat))), (10, .agg #[.bool b2, .slice x3.A x3.n x3.c, .slice y1.A y1.n y1.c]), (6, .tuple #[.agg #[.bool b2, .slice x3.A x3.n x3.c, .slice y1.A y1.n y1.c], .int .i64 (erz (4 : Nat))]), (9, .tuple #[.agg #[.bool b2, .slice x3.A x3.n x3.c, .slice y1.A y1.n y1.c], .int .i64 (erz (4 : Nat))]), (8, .slice x2.A x2.n x2.c), (7, .agg #[.bool b1, .slice x1.A x1.n x1.c])]) rfl (fun a S => ?_)
  refine hK2 _ _ ?_
  refine wp_seq_k fun K3 hK3 => ?_
  have S := S.keep [2, 1] (ls' := [(2, .int .i64 (erz (4 : Nat))), (1, .pointer (some ⟨g1, 0, none⟩))]) rfl
  refine frm_plain ?_
  refine tl_call S (rn_callc ⟨_, rfl⟩  (enters_of Tryz.func48 (by kernel_rfl) rfl)) (F := ZT 2 (2)) (c5Of (n := 2) (by decide)) rfl rfl (by decide) (ls' := [(2, .int .i64 (erz (4 : Nat))), (1, .pointer (some ⟨g1, 0, none⟩))]) rfl (fun v a V6 hF hb S => ?_)
  obtain ⟨b3, x4, rfl, hz2, hk5, ok5⟩ := hF
  have S := S.know ok5
  refine tl_call S (rn_call1c ⟨_, rfl⟩ (S.at 0 rfl) (enters_of Tryz.func10 (by kernel_rfl) rfl)) (F := QE 2 (mkRat 2 0) (erz 0)) (p7New (T.keep S.below) (show ZT 2 (2) (.agg #[.bool b3, .slice x4.A x4.n x4.c]) _ from ⟨b3, x4, rfl, hz2, hk5, (S.num 0 rfl)⟩).any (show NT 0 (0) (.slice none 0 0) _ from nt_nil).any (by omega) (by omega)) rfl rfl (by decide) (ls' := [(13, .agg #[.bool b3, .slice x4.A x4.n x4.c]), (2, .int .i64 (erz (4 : Nat))), (1, .pointer (some ⟨g1, 0, none⟩))]) rfl (fun v a V7 hF hb S => ?_)
  obtain ⟨b4, x5, y2, rfl, hq2, hk6, hk7, ok6, ok7⟩ := hF
  have S := S.know ok6
  have S := S.know ok7
  refine tl_val S (v := .tuple #[.agg #[.bool b4, .slice x5.A x5.n x5.c, .slice y2.A y2.n y2.c], .int .i64 (erz 0)]) (rn_move rfl (S.at 0 rfl)) rfl rfl (by decide) (ls' := [(14, .tuple #[.agg #[.bool b4, .slice x5.A x5.n x5.c, .slice y2.A y2.n y2.c], .int .i64 (erz 0)]), (13, .agg #[.bool b3, .slice x4.A x4.n x4.c]), (2, .int .i64 (erz (4 : Nat))), (1, .pointer (some ⟨g1, 0, none⟩))]) rfl (fun a S => ?_)
  refine tl_val S (v := .agg #[.bool b4, .slice x5.A x5.n x5.c, .slice y2.A y2.n y2.c]) (rn_extract rfl (S.at 0 rfl) rfl) rfl rfl (by decide) (ls' := [(12, .tuple #[.agg #[.bool b4, .slice x5.A x5.n x5.c, .slice y2.A y2.n y2.c], .int .i64 (erz 0)]), (14, .tuple #[.agg #[.bool b4, .slice x5.A x5.n x5.c, .slice y2.A y2.n y2.c], .int .i64 (erz 0)]), (13, .agg #[.bool b3, .slice x4.A x4.n x4.c]), (2, .int .i64 (erz (4 : Nat))), (1, .pointer (some ⟨g1, 0, none⟩))]) rfl (fun a S => ?_)
  refine tl_val S (v := .int .i64 (erz 0)) (rn_extract rfl (S.at 1 rfl) rfl) rfl rfl (by decide) (ls' := [(15, .agg #[.bool b4, .slice x5.A x5.n x5.c, .slice y2.A y2.n y2.c]), (12, .tuple #[.agg #[.bool b4, .slice x5.A x5.n x5.c, .slice y2.A y2.n y2.c], .int .i64 (erz 0)]), (14, .tuple #[.agg #[.bool b4, .slice x5.A x5.n x5.c, .slice y2.A y2.n y2.c], .int .i64 (erz 0)]), (13, .agg #[.bool b3, .slice x4.A x4.n x4.c]), (2, .int .i64 (erz (4 : Nat))), (1, .pointer (some ⟨g1, 0, none⟩))]) rfl (fun a S => ?_)
  refine tl_box S (T := 27) (cs := [.bool false, .slice none 0 0, .slice none 0 0]) (rn_alloc rfl (Tryz.zeroValue27 _) rfl) rfl rfl rfl (by decide) (ls' := [(16, .int .i64 (erz 0)), (15, .agg #[.bool b4, .slice x5.A x5.n x5.c, .slice y2.A y2.n y2.c]), (12, .tuple #[.agg #[.bool b4, .slice x5.A x5.n x5.c, .slice y2.A y2.n y2.c], .int .i64 (erz 0)]), (14, .tuple #[.agg #[.bool b4, .slice x5.A x5.n x5.c, .slice y2.A y2.n y2.c], .int .i64 (erz 0)]), (13, .agg #[.bool b3, .slice x4.A x4.n x4.c]), (2, .int .i64 (erz (4 : Nat))), (1, .pointer (some ⟨g1, 0, none⟩))]) rfl (lb' := fun g2 => [⟨g1, 27, [.bool b2, .slice x3.A x3.n x3.c, .slice y1.A y1.n y1.c]⟩, ⟨g2, 27, [.bool false, .slice none 0 0, .slice none 0 0]⟩]) (fun _ => rfl) (fun g2 a V8 hgg2 S => ?_)
  refine tl_store S (i := 1) (vs := [.bool b4, .slice x5.A x5.n x5.c, .slice y2.A y2.n y2.c]) rfl (fun ht => rn_store rfl (S.at 0 rfl) (S.at 2 rfl) sz_Rat rfl (Nat.le_of_ble_eq_true rfl) ht) (Nat.le_of_ble_eq_true rfl) rfl rfl rfl (lb' := [⟨g1, 27, [.bool b2, .slice x3.A x3.n x3.c, .slice y1.A y1.n y1.c]⟩, ⟨g2, 27, [.bool b4, .slice x5.A x5.n x5.c, .slice y2.A y2.n y2.c]⟩]) rfl (fun V9 S => ?_)
  refine tl_val S (v := .int .i64 (erz 0)) (rn_assign rfl (S.at 1 rfl)) rfl rfl (by decide) (ls' := [(3, .pointer (some ⟨g2, 0, none⟩)), (16, .int .i64 (erz 0)), (15, .agg #[.bool b4, .slice x5.A x5.n x5.c, .slice y2.A y2.n y2.c]), (12, .tuple #[.agg #[.bool b4, .slice x5.A x5.n x5.c, .slice y2.A y2.n y2.c], .int .i64 (erz 0)]), (14, .tuple #[.agg #[.bool b4, .slice x5.A x5.n x5.c, .slice y2.A y2.n y2.c], .int .i64 (erz 0)]), (13, .agg #[.bool b3, .slice x4.A x4.n x4.c]), (2, .int .i64 (erz (4 : Nat))), (1, .pointer (some ⟨g1, 0, none⟩))]) rfl (fun a S => ?_)
  refine hK3 _ _ ?_
  refine wp_seq_k fun K4 hK4 => ?_
  have S := S.keep [4, 2, 1] (ls' := [(4, .int .i64 (erz 0)), (2, .int .i64 (erz (4 : Nat))), (1, .pointer (some ⟨g1, 0, none⟩))]) rfl
  refine frm_plain ?_
  refine tl_call S (rn_callcc ⟨_, rfl⟩  (enters_of Tryz.func49 (by kernel_rfl) rfl)) (F := QT 2 (mkRat 1 2)) (l7by (n := 1) (d := 2) (by decide) (by decide) (by decide) (by decide)) rfl rfl (by decide) (ls' := [(4, .int .i64 (erz 0)), (2, .int .i64 (erz (4 : Nat))), (1, .pointer (some ⟨g1, 0, none⟩))]) rfl (fun v a V10 hF hb S => ?_)
  obtain ⟨b5, x6, y3, rfl, hq3, hk8, hk9, ok8, ok9⟩ := hF
  have S := S.know ok8
  have S := S.know ok9
  refine tl_call S (rn_callcc ⟨_, rfl⟩  (enters_of Tryz.func49 (by kernel_rfl) rfl)) (F := QT 2 (mkRat 1 3)) (l7by (n := 1) (d := 3) (by decide) (by decide) (by decide) (by decide)) rfl rfl (by decide) (ls' := [(17, .agg #[.bool b5, .slice x6.A x6.n x6.c, .slice y3.A y3.n y3.c]), (4, .int .i64 (erz 0)), (2, .int .i64 (erz (4 : Nat))), (1, .pointer (some ⟨g1, 0, none⟩))]) rfl (fun v a V11 hF hb S => ?_)
  obtain ⟨b6, x7, y4, rfl, hq4, hk10, hk11, ok10, ok11⟩ := hF
  have S := S.know ok10
  have S := S.know ok11
  refine tl_call S (rn_call2 ⟨_, rfl⟩ (S.at 1 rfl) (S.at 0 rfl) (enters_of Tryz.func35 (by kernel_rfl) rfl)) (F := QT 6 (((mkRat 1 2) + (mkRat 1 3)) / 2)) (p7Mid (T.keep S.below) (show QT 2 (mkRat 1 2) (.agg #[.bool b5, .slice x6.A x6.n x6.c, .slice y3.A y3.n y3.c]) _ from ⟨b5, x6, y3, rfl, hq3, hk8, hk9, (S.num 3 rfl), (S.num 2 rfl)⟩).any (show QT 2 (mkRat 1 3) (.agg #[.bool b6, .slice x7.A x7.n x7.c, .slice y4.A y4.n y4.c]) _ from ⟨b6, x7, y4, rfl, hq4, hk10, hk11, (S.num 1 rfl), (S.num 0 rfl)⟩).any (by omega) (by omega)) rfl rfl (by decide) (ls' := [(18, .agg #[.bool b6, .slice x7.A x7.n x7.c, .slice y4.A y4.n y4.c]), (17, .agg #[.bool b5, .slice x6.A x6.n x6.c, .slice y3.A y3.n y3.c]), (4, .int .i64 (erz 0)), (2, .int .i64 (erz (4 : Nat))), (1, .pointer (some ⟨g1, 0, none⟩))]) rfl (fun v a V12 hF hb S => ?_)
  obtain ⟨b7, x8, y5, rfl, hq5, hk12, hk13, ok12, ok13⟩ := hF
  have S := S.know ok12
  have S := S.know ok13
  refine tl_box S (T := 27) (cs := [.bool false, .slice none 0 0, .slice none 0 0]) (rn_alloc rfl (Tryz.zeroValue27 _) rfl) rfl rfl rfl (by decide) (ls' := [(19, .agg #[.bool b7, .slice x8.A x8.n x8.c, .slice y5.A y5.n y5.c]), (18, .agg #[.bool b6, .slice x7.A x7.n x7.c, .slice y4.A y4.n y4.c]), (17, .agg #[.bool b5, .slice x6.A x6.n x6.c, .slice y3.A y3.n y3.c]), (4, .int .i64 (erz 0)), (2, .int .i64 (erz (4 : Nat))), (1, .pointer (some ⟨g1, 0, none⟩))]) rfl (lb' := fun g3 => [⟨g1, 27, [.bool b2, .slice x3.A x3.n x3.c, .slice y1.A y1.n y1.c]⟩, ⟨g2, 27, [.bool b4, .slice x5.A x5.n x5.c, .slice y2.A y2.n y2.c]⟩, ⟨g3, 27, [.bool false, .slice none 0 0, .slice none 0 0]⟩]) (fun _ => rfl) (fun g3 a V13 hgg3 S => ?_)
  refine tl_store S (i := 2) (vs := [.bool b7, .slice x8.A x8.n x8.c, .slice y5.A y5.n y5.c]) rfl (fun ht => rn_store rfl (S.at 0 rfl) (S.at 1 rfl) sz_Rat rfl (Nat.le_of_ble_eq_true rfl) ht) (Nat.le_of_ble_eq_true rfl) rfl rfl rfl (lb' := [⟨g1, 27, [.bool b2, .slice x3.A x3.n x3.c, .slice y1.A y1.n y1.c]⟩, ⟨g2, 27, [.bool b4, .slice x5.A x5.n x5.c, .slice y2.A y2.n y2.c]⟩, ⟨g3, 27, [.bool b7, .slice x8.A x8.n x8.c, .slice y5.A y5.n y5.c]⟩]) rfl (fun V14 S => ?_)
  refine hK4 _ _ ?_
  refine wp_seq_k fun K5 hK5 => ?_
  have S := S.keep [5, 4, 2, 1] (ls' := [(5, .pointer (some ⟨g3, 0, none⟩)), (4, .int .i64 (erz 0)), (2, .int .i64 (erz (4 : Nat))), (1, .pointer (some ⟨g1, 0, none⟩))]) rfl
  obtain ⟨W1, hW1⟩ : ∃ W, W = V14 := ⟨_, rfl⟩
  rw [← hW1] at S ⊢
  have S0 := S
  refine frm_region 28 [20, 21, 22, 23, 24, 25, 26, 27, 28, 29, 30, 31, 32, 33, 34, 35, 36, 37, 38, 39, 40, 41, 42, 43, 44, 45, 46, 47] (fun i v V => match i with
      | 0 => v = .int .i64 (erz (4 : Nat))
      | 1 => v = .bool true
      | 2 => v = .bool true
      | 3 => v = .agg #[.bool b2, .slice x3.A x3.n x3.c, .slice y1.A y1.n y1.c]
      | 4 => QT 2 (mkRat 1 2) v V
      | 5 => v = .bool true
      | 6 => v = .bool true
      | 7 => v = .bool true
      | 8 => v = .int .i64 (erz 0)
      | 9 => v = .bool true
      | 10 => v = .bool true
      | 11 => v = .bool true
      | 12 => QT 2 (mkRat (-1) 2) v V
      | 13 => ZT 3 (Rat.floor (mkRat (-1) 2)) v V
      | 14 => ZT 2 (-1) v V
      | 15 => v = .bool true
      | 16 => v = .bool true
      | 17 => v = .bool true
      | 18 => v = .agg #[.bool b7, .slice x8.A x8.n x8.c, .slice y5.A y5.n y5.c]
      | 19 => QT 2 (mkRat 5 12) v V
      | 20 => v = .bool true
      | 21 => v = .bool true
      | 22 => v = .bool true
      | 23 => ZT 2 (3) v V
      | 24 => Q1 2 (0) v V
      | 25 => v = .int .i64 (cmpR 0 0)
      | 26 => v = .bool true
      | _ => v = .bool true) S (by kernel_rfl) (by kernel_rfl) rfl (by decide) rfl rfl ?_ ?_ ?_
  · intro i v V V2 hf hb
    match i, hf with
    | 0, hf => exact hf
    | 1, hf => exact hf
    | 2, hf => exact hf
    | 3, hf => exact hf
    | 4, hf => exact QT.keep hf hb
    | 5, hf => exact hf
    | 6, hf => exact hf
    | 7, hf => exact hf
    | 8, hf => exact hf
    | 9, hf => exact hf
    | 10, hf => exact hf
    | 11, hf => exact hf
    | 12, hf => exact QT.keep hf hb
    | 13, hf => exact ZT.keep hf hb
    | 14, hf => exact ZT.keep hf hb
    | 15, hf => exact hf
    | 16, hf => exact hf
    | 17, hf => exact hf
    | 18, hf => exact hf
    | 19, hf => exact QT.keep hf hb
    | 20, hf => exact hf
    | 21, hf => exact hf
    | 22, hf => exact hf
    | 23, hf => exact ZT.keep hf hb
    | 24, hf => exact Q1.keep hf hb
    | 25, hf => exact hf
    | 26, hf => exact hf
    | _ + 27, hf => exact hf
  · intro i t ht a V S hB hd
    match i, ht with
    | 0, ht =>
      cases ht
      exact so_val rfl rfl (wanted_free rfl) (rn_move rfl (S.at 2 rfl)) rfl
    | 1, ht =>
      cases ht
      exact so_val rfl rfl (wanted_free rfl) (rn_bool (rn_eql _ (by decide) rfl (show a.tmps.getD 20 undef = .int .i64 (erz (4 : Nat)) from hd 0 20 rfl (by kernel_rfl)) rfl) (show (decide (erz (4 : Nat) = 0)) = true from (by decide))) rfl
    | 2, ht =>
      cases ht
      exact so_val rfl rfl (wanted_free rfl) (rn_move rfl (show a.tmps.getD 21 undef = .bool true from hd 1 21 rfl (by kernel_rfl))) rfl
    | 3, ht =>
      cases ht
      exact so_val rfl rfl ((wanted_if rfl rfl rfl (show a.tmps.getD 22 undef = .bool true from hd 2 22 rfl (by kernel_rfl))).trans rfl) (rn_load rfl (S.at 3 rfl) (S.bx 0 rfl) Tryz.underlying27 rfl (vs := [.bool b2, .slice x3.A x3.n x3.c, .slice y1.A y1.n y1.c]) sz_Rat rfl) rfl
    | 4, ht =>
      cases ht
      exact so_call rfl rfl ((wanted_if rfl rfl rfl (show a.tmps.getD 22 undef = .bool true from hd 2 22 rfl (by kernel_rfl))).trans rfl) (rn_callcc ⟨_, rfl⟩  (enters_of Tryz.func49 (by kernel_rfl) rfl)) (l7by (n := 1) (d := 2) (by decide) (by decide) (by decide) (by decide))
    | 5, ht =>
      cases ht
      exact so_call rfl rfl ((wanted_if rfl rfl rfl (show a.tmps.getD 22 undef = .bool true from hd 2 22 rfl (by kernel_rfl))).trans rfl) (rn_call2 ⟨_, rfl⟩ (show a.tmps.getD 23 undef = .agg #[.bool b2, .slice x3.A x3.n x3.c, .slice y1.A y1.n y1.c] from hd 3 23 rfl (by kernel_rfl)) rfl (enters_of Tryz.func50 (by kernel_rfl) rfl)) (c7Told (show QT 2 (mkRat 2 (4 : Nat)) (.agg #[.bool b2, .slice x3.A x3.n x3.c, .slice y1.A y1.n y1.c]) _ from ⟨b2, x3, y1, rfl, hq1, hk3, hk4, (S.num 10 rfl), (S.num 9 rfl)⟩) (show QT 2 (mkRat 1 2) (a.tmps.getD 24 undef) V from hd 4 24 rfl (by kernel_rfl)) (by decide +kernel))
    | 6, ht =>
      cases ht
      exact so_val rfl rfl (wanted_free rfl) (rn_pick true rfl (show a.tmps.getD 22 undef = .bool true from hd 2 22 rfl (by kernel_rfl)) (show a.tmps.getD 25 undef = .bool true from hd 5 25 rfl (by kernel_rfl))) rfl
    | 7, ht =>
      cases ht
      exact so_val rfl rfl (wanted_free rfl) (rn_move rfl (show a.tmps.getD 26 undef = .bool true from hd 6 26 rfl (by kernel_rfl))) rfl
    | 8, ht =>
      cases ht
      exact so_val rfl rfl ((wanted_if rfl rfl rfl (show a.tmps.getD 27 undef = .bool true from hd 7 27 rfl (by kernel_rfl))).trans rfl) (rn_move rfl (S.at 1 rfl)) rfl
    | 9, ht =>
      cases ht
      exact so_val rfl rfl ((wanted_if rfl rfl rfl (show a.tmps.getD 27 undef = .bool true from hd 7 27 rfl (by kernel_rfl))).trans rfl) (rn_bool (rn_eql _ (by decide) rfl (show a.tmps.getD 28 undef = .int .i64 (erz 0) from hd 8 28 rfl (by kernel_rfl)) rfl) (show (decide (erz 0 = 30)) = true from (by decide))) rfl
    | 10, ht =>
      cases ht
      exact so_val rfl rfl (wanted_free rfl) (rn_pick true rfl (show a.tmps.getD 27 undef = .bool true from hd 7 27 rfl (by kernel_rfl)) (show a.tmps.getD 29 undef = .bool true from hd 9 29 rfl (by kernel_rfl))) rfl
    | 11, ht =>
      cases ht
      exact so_val rfl rfl (wanted_free rfl) (rn_move rfl (show a.tmps.getD 30 undef = .bool true from hd 10 30 rfl (by kernel_rfl))) rfl
    | 12, ht =>
      cases ht
      exact so_call rfl rfl ((wanted_if rfl rfl rfl (show a.tmps.getD 31 undef = .bool true from hd 11 31 rfl (by kernel_rfl))).trans rfl) (rn_callcc ⟨_, rfl⟩  (enters_of Tryz.func49 (by kernel_rfl) rfl)) (l7by (n := -1) (d := 2) (by decide) (by decide) (by decide) (by decide))
    | 13, ht =>
      cases ht
      exact so_call rfl rfl ((wanted_if rfl rfl rfl (show a.tmps.getD 31 undef = .bool true from hd 11 31 rfl (by kernel_rfl))).trans rfl) (rn_call1 ⟨_, rfl⟩ rfl (enters_of Tryz.func38 (by kernel_rfl) rfl)) (p7Floor (T.keep S.below) ((show QT 2 (mkRat (-1) 2) (a.tmps.getD 32 undef) V from hd 12 32 rfl (by kernel_rfl))).any (by omega))
    | 14, ht =>
      cases ht
      exact so_call rfl rfl ((wanted_if rfl rfl rfl (show a.tmps.getD 31 undef = .bool true from hd 11 31 rfl (by kernel_rfl))).trans rfl) (rn_callc ⟨_, rfl⟩  (enters_of Tryz.func48 (by kernel_rfl) rfl)) (c5Of (n := -1) (by decide))
    | 15, ht =>
      cases ht
      exact so_call rfl rfl ((wanted_if rfl rfl rfl (show a.tmps.getD 31 undef = .bool true from hd 11 31 rfl (by kernel_rfl))).trans rfl) (rn_call2 ⟨_, rfl⟩ rfl rfl (enters_of Tryz.func37 (by kernel_rfl) rfl)) (c5Told (show ZT 3 (Rat.floor (mkRat (-1) 2)) (a.tmps.getD 33 undef) V from hd 13 33 rfl (by kernel_rfl)) (show ZT 2 (-1) (a.tmps.getD 34 undef) V from hd 14 34 rfl (by kernel_rfl)) (by decide +kernel))
    | 16, ht =>
      cases ht
      exact so_val rfl rfl (wanted_free rfl) (rn_pick true rfl (show a.tmps.getD 31 undef = .bool true from hd 11 31 rfl (by kernel_rfl)) (show a.tmps.getD 35 undef = .bool true from hd 15 35 rfl (by kernel_rfl))) rfl
    | 17, ht =>
      cases ht
      exact so_val rfl rfl (wanted_free rfl) (rn_move rfl (show a.tmps.getD 36 undef = .bool true from hd 16 36 rfl (by kernel_rfl))) rfl
    | 18, ht =>
      cases ht
      exact so_val rfl rfl ((wanted_if rfl rfl rfl (show a.tmps.getD 37 undef = .bool true from hd 17 37 rfl (by kernel_rfl))).trans rfl) (rn_load rfl (S.at 0 rfl) (S.bx 2 rfl) Tryz.underlying27 rfl (vs := [.bool b7, .slice x8.A x8.n x8.c, .slice y5.A y5.n y5.c]) sz_Rat rfl) rfl
    | 19, ht =>
      cases ht
      exact so_call rfl rfl ((wanted_if rfl rfl rfl (show a.tmps.getD 37 undef = .bool true from hd 17 37 rfl (by kernel_rfl))).trans rfl) (rn_callcc ⟨_, rfl⟩  (enters_of Tryz.func49 (by kernel_rfl) rfl)) (l7by (n := 5) (d := 12) (by decide) (by decide) (by decide) (by decide))
    | 20, ht =>
      cases ht
      exact so_call rfl rfl ((wanted_if rfl rfl rfl (show a.tmps.getD 37 undef = .bool true from hd 17 37 rfl (by kernel_rfl))).trans rfl) (rn_call2 ⟨_, rfl⟩ (show a.tmps.getD 38 undef = .agg #[.bool b7, .slice x8.A x8.n x8.c, .slice y5.A y5.n y5.c] from hd 18 38 rfl (by kernel_rfl)) rfl (enters_of Tryz.func50 (by kernel_rfl) rfl)) (c7Told (show QT 6 (((mkRat 1 2) + (mkRat 1 3)) / 2) (.agg #[.bool b7, .slice x8.A x8.n x8.c, .slice y5.A y5.n y5.c]) _ from ⟨b7, x8, y5, rfl, hq5, hk12, hk13, (S.num 1 rfl), (S.num 0 rfl)⟩) (show QT 2 (mkRat 5 12) (a.tmps.getD 39 undef) V from hd 19 39 rfl (by kernel_rfl)) (by decide +kernel))
    | 21, ht =>
      cases ht
      exact so_val rfl rfl (wanted_free rfl) (rn_pick true rfl (show a.tmps.getD 37 undef = .bool true from hd 17 37 rfl (by kernel_rfl)) (show a.tmps.getD 40 undef = .bool true from hd 20 40 rfl (by kernel_rfl))) rfl
    | 22, ht =>
      cases ht
      exact so_val rfl rfl (wanted_free rfl) (rn_move rfl (show a.tmps.getD 41 undef = .bool true from hd 21 41 rfl (by kernel_rfl))) rfl
    | 23, ht =>
      cases ht
      exact so_call rfl rfl ((wanted_if rfl rfl rfl (show a.tmps.getD 42 undef = .bool true from hd 22 42 rfl (by kernel_rfl))).trans rfl) (rn_callc ⟨_, rfl⟩  (enters_of Tryz.func48 (by kernel_rfl) rfl)) (c5Of (n := 3) (by decide))
    | 24, ht =>
      cases ht
      obtain ⟨v, hv, hq⟩ := q1_mk0 (show ZT 2 (3) (a.tmps.getD 43 undef) V from hd 23 43 rfl (by kernel_rfl))
      exact so_val rfl rfl ((wanted_if rfl rfl rfl (show a.tmps.getD 42 undef = .bool true from hd 22 42 rfl (by kernel_rfl))).trans rfl) (rn_build1 rfl rfl hv) hq
    | 25, ht =>
      cases ht
      exact so_call rfl rfl ((wanted_if rfl rfl rfl (show a.tmps.getD 42 undef = .bool true from hd 22 42 rfl (by kernel_rfl))).trans rfl) (rn_call1 ⟨_, rfl⟩ rfl (enters_of Tryz.func15 (by kernel_rfl) rfl)) (p7Sign (T.keep S.below) (show Q1 2 (0) (a.tmps.getD 44 undef) V from hd 24 44 rfl (by kernel_rfl)) (by omega))
    | 26, ht =>
      cases ht
      exact so_val rfl rfl ((wanted_if rfl rfl rfl (show a.tmps.getD 42 undef = .bool true from hd 22 42 rfl (by kernel_rfl))).trans rfl) (rn_bool (rn_eql _ (by decide) rfl (show a.tmps.getD 45 undef = .int .i64 (cmpR 0 0) from hd 25 45 rfl (by kernel_rfl)) rfl) (show (decide (cmpR 0 0 = 0)) = true from (by rw [cmpR_eq]; rfl))) rfl
    | 27, ht =>
      cases ht
      exact so_val rfl rfl (wanted_free rfl) (rn_pick true rfl (show a.tmps.getD 42 undef = .bool true from hd 22 42 rfl (by kernel_rfl)) (show a.tmps.getD 46 undef = .bool true from hd 26 46 rfl (by kernel_rfl))) rfl
    | k + 28, ht => simp at ht
  · intro a1 V15 S hB hf
    have S := S.add (show a1.tmps.getD 47 undef = .bool true from hf 27 47 rfl)
    clear hf S0
    show wpList _ _ _ [_] _ _
    refine tl_val S (v := .bool true) (rn_assign rfl (S.at 0 rfl)) rfl rfl (by decide) (ls' := [(47, .bool true), (5, .pointer (some ⟨g3, 0, none⟩)), (4, .int .i64 (erz 0)), (2, .int .i64 (erz (4 : Nat))), (1, .pointer (some ⟨g1, 0, none⟩))]) rfl (fun a S => ?_)
    refine hK5 _ _ ?_
    refine wp_ret ?_
    exact frm_ret1 rfl S (S.at 0 rfl) ⟨_, rfl, rfl, S.below⟩
end Go.Proofs.YtdajbmjknilmiaaGreatDoor

/- What the laws ask of package rat's Add, Mul, as a condition; what they lean on besides. -/
namespace Go.Proofs.YtdajbmjknilmiaaGreatDoor
open Go Go.RowKit
variable {v v' v1 v2 v3 : Value} {V V' : World} {K K' N M : Nat} {q q' q0 q1 q2 : Rat} {Z Z' : Int}

structure AddMul (V0 : World) : Prop where
  add2 : ∀ {V : World} {K : Nat} {q1 q2 : Rat} {v : Value}, TT V → Below V0.heap.size V0 V → QRow K [q1, q2] v V → K ≤ 1000 → Calls Tryz.prog 27 #[v] V (Gives1 V (QT (2 * max K 1 + 1) (q1 + q2)))
  mul2 : ∀ {V : World} {K : Nat} {q1 q2 : Rat} {v : Value}, TT V → Below V0.heap.size V0 V → QRow K [q1, q2] v V → K ≤ 1000 → Calls Tryz.prog 29 #[v] V (Gives1 V (QT (2 * max K 1) (q1 * q2)))
theorem sizeQ3_le {b b' b'' : Bool} {x y x' y' x'' y'' : Num} (h : great7 [(b, x, y), (b', x', y'), (b'', x'', y'')] = false) : x.n + y.n + (x'.n + y'.n) + (x''.n + y''.n) ≤ 40 := by
  have := (great7_false h).2
  simp [sizeQ] at this
  omega
theorem z_of (h : decide (cmpR q 0 = 0) = true) : q = 0 := cmpR_zero.1 (of_decide_eq_true h)
theorem nz_of (h : decide (cmpR q 0 = 0) = false) : q ≠ 0 := fun h0 => of_decide_eq_false h (cmpR_zero.2 h0)
theorem erq_of (h : q = 0) : erq q = 30 := (erq_yes h).symm
theorem erq_no2 (h : q ≠ 0) : erq q = 0 := (erq_no h).symm
theorem sign_mulR (a b : Rat) : cmpR (a * b) 0 = cmpR a 0 * cmpR b 0 := by
  have := cmpR_mul a 0 b
  rw [Rat.zero_mul, signR] at this
  exact this
theorem cmp_cases (a b : Rat) : cmpR a b = -1 ∨ cmpR a b = 0 ∨ cmpR a b = 1 := by have := cmpR_range a b; omega
theorem inr_cc (a b c d : Rat) : Inr (cmpR a b * cmpR c d) := by
  unfold Inr
  rcases cmp_cases a b with h | h | h <;> rcases cmp_cases c d with h' | h' | h' <;> rw [h, h'] <;> decide
theorem inr_neg (a b : Rat) : Inr (-cmpR a b) := by
  unfold Inr
  rcases cmp_cases a b with h | h | h <;> rw [h] <;> decide
theorem low_gt (q : Rat) : 0 < cmpR (((q.floor : Int) : Rat) + 1) q := by
  have h := Rat.lt_floor_add_one q
  rw [Rat.intCast_add] at h
  rw [cmpR_gt (show q < ((q.floor : Int) : Rat) + 1 from h)]
  decide
end Go.Proofs.YtdajbmjknilmiaaGreatDoor
