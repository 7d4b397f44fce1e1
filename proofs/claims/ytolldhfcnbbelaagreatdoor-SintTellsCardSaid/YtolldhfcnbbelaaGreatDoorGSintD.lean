/- Contract of package sint's Mul: the numbers' product, the signs' product told apart. -/
import Derived.Deep.LoopGhost
import Derived.Test.YtolldhfcnbbelaaGreatDoorGSintC
import Derived.Test.YtolldhfcnbbelaaGreatDoorGProdC
import Derived.Test.YtolldhfcnbbelaaGreatDoorGSintB
import Derived.Test.YtolldhfcnbbelaaGreatDoorGNatA
namespace Go.Proofs.YtolldhfcnbbelaaGreatDoor
open Go Go.RowKit
variable {w0 : World}

theorem foldr_mul (a : Int) : ∀ l : List Int, l.foldr (· * ·) a = l.foldr (· * ·) 1 * a
  | [] => by simp
  | x :: l => by rw [List.foldr_cons, List.foldr_cons, foldr_mul a l, Int.mul_assoc]
theorem prodZ_snoc (l : List (Bool × Num)) (x : Bool × Num) : prodZ (l ++ [x]) = prodZ l * zP x := by
  unfold prodZ
  rw [List.map_append, List.foldr_append, foldr_mul]
  simp
theorem prodZ_abs : ∀ l : List (Bool × Num), (prodZ l).natAbs = prodN (l.map (·.2))
  | [] => rfl
  | x :: l => by
    have ih := prodZ_abs l
    have e : prodZ (x :: l) = zP x * prodZ l := rfl
    rw [e, Int.natAbs_mul, ih, show (zP x).natAbs = x.2.N from zOf_abs _ _]
    simp [prodN]
/-- The signs' product so far. -/
def sgAt (l : List (Bool × Num)) (k : Nat) : Int := (prodZ (l.take k)).sign
theorem sgAt_zero (l : List (Bool × Num)) : sgAt l 0 = 1 := rfl
theorem sign_bound (a : Int) : -1 ≤ a.sign ∧ a.sign ≤ 1 := by
  rcases Int.lt_trichotomy a 0 with h | h | h
  · rw [Int.sign_eq_neg_one_of_neg h]; decide
  · subst h; decide
  · rw [Int.sign_eq_one_of_pos h]; decide
theorem sgAt_succ {l : List (Bool × Num)} {k : Nat} (hk : k < l.length) : IntKind.i64.wrap (sgAt l k * (zP l[k]).sign) = sgAt l (k + 1) := by
  have e : sgAt l (k + 1) = sgAt l k * (zP l[k]).sign := by
    unfold sgAt
    rw [take_snoc (List.getElem?_eq_getElem hk), prodZ_snoc, Int.sign_mul]
  rw [e, IntKind.wrap_i64]
  have h := sign_bound (prodZ (l.take (k + 1)))
  have e2 : (prodZ (l.take (k + 1))).sign = sgAt l (k + 1) := rfl
  rw [e2, e] at h
  omega
theorem sgAt_zero_iff {l : List (Bool × Num)} : sgAt l l.length = 0 ↔ prodZ l = 0 := by unfold sgAt; rw [List.take_length]; exact Int.sign_eq_zero_iff_zero
theorem sgAt_neg {l : List (Bool × Num)} : sgAt l l.length < 0 ↔ prodZ l < 0 := by
  unfold sgAt
  rw [List.take_length]
  rcases Int.lt_trichotomy (prodZ l) 0 with h | h | h
  · rw [Int.sign_eq_neg_one_of_neg h]; simp [h]
  · rw [h]; simp
  · rw [Int.sign_eq_one_of_pos h]; constructor <;> intro <;> omega

/-- A row of as many slots, the first k of them filled with the numbers. -/
def Fill (W : World) (g : Nat) (l : List (Bool × Num)) (k : Nat) : Prop := ∃ cur : Array Value, W.heap[g]? = some (.cells cur 23 (0, 0)) ∧ cur.size = l.length ∧ ∀ j (h : j < l.length), j < k → cur[j]? = some (.slice l[j].2.A l[j].2.n l[j].2.c)
theorem made_nats (w : World) (l : List (Bool × Num)) (hn : l.length ≤ 1000000) : ∃ w1, (Instr.makeSlice 59 (.int .i64 (l.length : Int)) (.int .i64 (l.length : Int))).run Tryz.prog w = .ok (.slice (some ⟨w.heap.size, 0, none⟩) l.length l.length) w1 ∧
    Fill w1 w.heap.size l 0 ∧ Below w.heap.size w w1 ∧ w1.heap.size = w.heap.size + 1 := by
  obtain ⟨i0, hi, hz0, hz1, hz2⟩ := info_parts info_nat1
  have h := run_make (P := Tryz.prog) w 59 23 i0 (.slice none 0 0) Tryz.underlying59 hi hz0 .i64 .i64 l.length l.length (by omega) (Int.le_refl _) (by rw [hz2]; omega) (by omega)
  simp only [Int.toNat_natCast] at h
  refine ⟨_, h, ⟨_, World.alloc_heap_new' w _, ?_, fun j _ hj => by omega⟩, (Below.refl _ _).alloc (Nat.le_refl _) _, by simp⟩
  have e2 := congrArg List.length (toList_madeCells_one (.slice none 0 0) (l.length * i0.size))
  have e : (Value.slice none 0 0).cells = #[.slice none 0 0] := rfl
  rw [e, ← Array.length_toList, e2, hz1]
  simp
theorem Fill.set {W : World} {g k : Nat} {l : List (Bool × Num)} (h : Fill W g l k) (hk : k < l.length) : Fill (W.setCell ⟨g, k, none⟩ (.slice l[k].2.A l[k].2.n l[k].2.c)) g l (k + 1) := by
  obtain ⟨cur, h1, h2, h3⟩ := h
  refine ⟨_, Box3.step k cur _ h1, by simpa using h2, fun j hj hjk => ?_⟩
  by_cases e : j = k
  · subst e
    rw [Array.getElem?_setIfInBounds_self_of_lt (by omega)]
  · rw [Array.getElem?_setIfInBounds_ne (by omega)]
    exact h3 j hj (by omega)
theorem Fill.below {W W' : World} {g k K : Nat} {l : List (Bool × Num)} (h : Fill W g l k) (hb : Below K W W') (hg : g < K) : Fill W' g l k := by
  obtain ⟨cur, h1, h2⟩ := h
  exact ⟨cur, (hb.block g hg).trans h1, h2⟩
theorem Fill.cell {W : World} {g k j : Nat} {l : List (Bool × Num)} (h : Fill W g l k) (hj : j < l.length) : (∃ u, W.cell? ⟨g, j, none⟩ = some u) ∧ W.frozen? ⟨g, j, none⟩ = false := by
  obtain ⟨cur, h1, h2, _⟩ := h
  exact ⟨⟨cur[j]'(by omega), by simp [World.cell?, h1, show j < cur.size by omega]⟩, by simp [World.frozen?, h1]⟩
theorem Fill.lt {W : World} {g k : Nat} {l : List (Bool × Num)} (h : Fill W g l k) : g < W.heap.size := by
  obtain ⟨cur, h1, _⟩ := h
  exact (Array.getElem?_eq_some_iff.1 h1).1
theorem Fill.rds {W : World} {g : Nat} {l : List (Bool × Num)} (h : Fill W g l l.length) (hok : ∀ x ∈ l, x.2.ok W W.heap.size) : Rds W W.heap.size (some ⟨g, 0, none⟩) (l.map (·.2)) := fun k hk => by
  have hk' : k < l.length := by simpa using hk
  have hlt := h.lt
  obtain ⟨cur, h1, h2, h3⟩ := h
  refine ⟨⟨_, rfl, hlt, ?_⟩, by simpa using hok _ (List.getElem_mem hk')⟩
  have := h3 k hk' hk'
  rw [add_new]
  simp [World.cell?, h1, this]

set_option maxRecDepth 100000 in
set_option maxHeartbeats 8000000 in
theorem mulTold (hs0 : Signs w0) : SAllTold w0 25 prodZ := fun w W e A c l hB h hZ hlc hc hl hn => by
  obtain ⟨w1, hmk, hFl, hb1, hs1⟩ := made_nats (W.alloc (.cells #[.bool false, .slice none 0 0] 25)) l (by omega)
  rw [World.size_alloc] at hmk hFl hb1 hs1
  have bR := (Box2.new W 25 (.bool false) (.slice none 0 0)).below hb1 (by omega)
  have hB1 : Below W.heap.size W w1 := ((Below.refl _ W).alloc (Nat.le_refl _) (.cells #[.bool false, .slice none 0 0] 25)).trans (hb1.mono (by omega))
  have hS := hs0.keep hB
  go_enter Tryz.func25, Tryz.ntmps25
  go_wp2
  rename_i K hK
  have HK := Lib.hid hK
  clear hK hmk
  obtain ⟨g, hg⟩ : ∃ g, W.heap.size + 1 = g := ⟨_, rfl⟩
  rw [hg] at hFl hb1 hs1 ⊢
  have hsw := h.1.size
  go_loopw [3, 13] (fun sv i wr => ∃ k : Nat, k ≤ l.length ∧ i = .int .i64 k ∧ sv = .int .i64 (sgAt l k) ∧ Hid (Fill wr g l k) ∧ Hid (Below g w1 wr) ∧ Hid (w1.heap.size ≤ wr.heap.size)) (fun _ i _ => l.length - (intOf i).toNat)
  case atStart => exact ⟨0, Nat.zero_le _, rfl, rfl, Lib.hid hFl, Lib.hid (Below.refl _ _), Lib.hid (Nat.le_refl _)⟩
  case round =>
    obtain ⟨k, hk, rfl, rfl, hF, hBl, hsz⟩ := hrel
    have hBW : Below W.heap.size W wr := hB1.trans (hBl.out.mono (by omega))
    by_cases hlt : k < l.length
    · obtain ⟨⟨ad, rfl, hab, hcb, hcs⟩, hok⟩ := (hZ.below hBW) k hlt
      rw [add_field] at hcs
      have hbA : Below wr.heap.size wr (wr.alloc (.cells #[.bool l[k].1, .slice l[k].2.A l[k].2.n l[k].2.c] 25)) := (Below.refl _ wr).alloc (Nat.le_refl _) _
      have hok2 := (hok.more hBW.size).later hbA
      have ER := Lib.hid (reckon_any (b := l[k].1) (x := l[k].2) _ hok2.1 hok2.2.1 hok2.2.2.1 hok2.2.2.2)
      rw [show zOf l[k].1 l[k].2.N = zP l[k] from rfl] at ER
      have HBA := Lib.hid hbA
      have HSW := Lib.hid ((hS.keep hBW).keep hbA)
      clear hok hok2 hbA
      go_wp2_with fail
      refine ER.out.mono ?_
      rintro e1 W2 ⟨rfl, hb2⟩
      have HB2 := Lib.hid hb2
      have hbN : Below W2.heap.size W2 (W2.alloc (.cells #[.bool l[k].1, .slice l[k].2.A l[k].2.n l[k].2.c, .int .i64 (plZ (zP l[k]) : Nat)] 47)) := (Below.refl _ W2).alloc (Nat.le_refl _) _
      have B7 := Lib.hid (Box3.new W2 47 (.bool l[k].1) (.slice l[k].2.A l[k].2.n l[k].2.c) (.int .i64 (plZ (zP l[k]) : Nat)))
      have ES := Lib.hid (sgn_any (W := W2.alloc (.cells #[.bool l[k].1, .slice l[k].2.A l[k].2.n l[k].2.c, .int .i64 (plZ (zP l[k]) : Nat)] 47)) (u := .bool l[k].1) (v := .slice l[k].2.A l[k].2.n l[k].2.c) (Z := zP l[k]) ((HSW.out.keep hb2).keep hbN))
      have HBN := Lib.hid hbN
      have HSG := Lib.hid (sgAt_succ hlt)
      clear hb2 hbN hcb hcs
      go_wp2_with fail
      refine ES.out.mono ?_
      rintro e1 W3 ⟨rfl, hb3⟩
      have hw3 : Below wr.heap.size wr W3 := ((HBA.out.trans (HB2.out.mono HBA.out.size)).trans (HBN.out.mono (Nat.le_trans HBA.out.size HB2.out.size))).trans (hb3.mono (Nat.le_trans (Nat.le_trans HBA.out.size HB2.out.size) HBN.out.size))
      have hF3 := hF.out.below hw3 hF.out.lt
      obtain ⟨⟨u, hu⟩, hfz⟩ := hF3.cell hlt
      obtain ⟨m1, m2, m3, -⟩ := (B7.out.below hb3 (by simp)).cells
      have hsg := HSG.out
      have HF4 := Lib.hid (hF3.set hlt)
      have HB4 := Lib.hid ((hBl.out.trans (hw3.mono (by have := hF.out.lt; omega))).setCell (p := ⟨g, k, none⟩) (Nat.le_refl _) (.slice l[k].2.A l[k].2.n l[k].2.c))
      have HS4 := Lib.hid (show w1.heap.size ≤ (W3.setCell ⟨g, k, none⟩ (.slice l[k].2.A l[k].2.n l[k].2.c)).heap.size by rw [World.size_setCell]; exact Nat.le_trans hsz.out hw3.size)
      clear hb3 hw3 hF3 hBW
      go_wp2
      go_roundw
      case rel => exact ⟨k + 1, by omega, by go_num, rfl, HF4, HB4, HS4⟩
      case measure => simp [intOf]; omega
    · obtain rfl : k = l.length := by omega
      go_wp2
      refine HK.out _ _ ?_
      clear HK
      have hE : Env wr e wr := (h.step hBW).here
      have HO := Lib.hid (h.1.trans (hBW.mono hsw))
      have hBR := (bR.below hBl.out (by omega))
      obtain ⟨q1, q2, q3, q4⟩ := hBR.cells
      have hok : ∀ x ∈ l, x.2.ok wr wr.heap.size := fun x hx => by
        obtain ⟨i, hi, rfl⟩ := List.mem_iff_getElem.1 hx
        exact ((hZ i hi).2.below hBW).more hBW.size
      have HBR := Lib.hid hBR
      by_cases h0 : prodZ l = 0
      · rw [sgAt_zero_iff.2 h0]
        have HZ0 := Lib.hid (show Zs w e (prodZ l) (.returned (.agg #[.bool false, .slice none 0 0])) ((wr.setCell ⟨W.heap.size, 0, none⟩ (.bool false)).setCell ⟨W.heap.size, 1, none⟩ (.slice none 0 0)) by
          rw [h0]
          exact zs_box (r := ⟨none, 0, 0, 0⟩) (Z := 0) HO.out hE (Below.refl _ _) (hE.nought.2 ⟨none, 0, 0, 0⟩ (by simp)) hBR hsw rfl rfl)
        clear hE hZ hn hok h0 hBR
        go_wp2
        exact bodyPost_ret (ret_box2 (HBR.out.set _ _) rfl rfl) rfl HZ0.out
      · have hne : ¬ sgAt l l.length = 0 := fun h => h0 (sgAt_zero_iff.1 h)
        have hlen : lenL (prodN (l.map (·.2))) ≤ 35184372087808 := by
          have := prodN_lenK (l := l.map (·.2)) (K := 10000) (by
            intro z hz
            obtain ⟨x, hx, rfl⟩ := List.mem_map.1 hz
            exact ⟨(hok x hx).1.1, hn x hx⟩)
          rw [List.length_map] at this
          omega
        have EP := pAll_any wr (some ⟨g, 0, none⟩) l.length (l.map (·.2)) (hF.out.rds hok) (by simp) (by simp only [maxLen]; omega) (by rw [List.length_map]; omega) (by
          intro z hz
          obtain ⟨x, hx, rfl⟩ := List.mem_map.1 hz
          have := hn x hx
          omega)
        rw [List.length_map] at EP
        replace EP := Lib.hid EP
        have HE := Lib.hid hE
        have HL := Lib.hid hlen
        have HD := Lib.hid (show decide (sgAt l l.length < 0) = decide (prodZ l < 0) by rw [decide_eq_decide]; exact sgAt_neg)
        clear hZ hn hok h0 hBR hE hlen
        go_wp2_with fail
        refine EP.out.mono ?_
        intro e1 W2 hg
        obtain ⟨r, rfl, rN, rn, hE2⟩ := tellsA_of_gives HE.out hg HL.out
        have ET := Lib.hid (told_E (b := decide (sgAt l l.length < 0)) hE2 (x := r) (by rw [rn, rN]))
        rw [show zOf (decide (sgAt l l.length < 0)) r.N = prodZ l by rw [HD.out, rN, ← prodZ_abs, zOf_told]] at ET
        rw [← prodZ_abs] at rN rn
        replace rN := Lib.hid rN
        replace rn := Lib.hid rn
        clear hE2 hg
        go_wp2_with fail
        refine ET.out.mono ?_
        rintro e2 W3 ⟨rfl, hE3⟩
        have hB3 := HBR.out.below hE3.1 HBR.out.lt
        obtain ⟨p1, p2, p3, p4⟩ := hB3.cells
        have HB3 := Lib.hid hB3
        have HZ := Lib.hid (zs_box HO.out HE.out hE3.1 (hE3.2 r (by simp)) hB3 hsw rN.out rn.out)
        clear hE3 hB3
        go_wp2
        exact bodyPost_ret (ret_box2 (HB3.out.set _ _) rfl rfl) rfl HZ.out
end Go.Proofs.YtolldhfcnbbelaaGreatDoor

/- Contracts of sint's Of, Neg, Sign, over numbers at hand. -/
namespace Go.Proofs.YtolldhfcnbbelaaGreatDoor
open Go Go.RowKit
variable {w0 : World}

set_option maxRecDepth 100000 in
set_option maxHeartbeats 1000000 in
theorem ofTold : SOfTold w0 := fun w W e n _ h hn => by
  obtain ⟨n1, n2⟩ := hn
  have HO := Lib.hid (h.alloc (.cells #[.bool false, .slice none 0 0] 25)).1
  have HE := Lib.hid (h.alloc (.cells #[.bool false, .slice none 0 0] 25)).here
  have B := Lib.hid (Box2.new W 25 (.bool false) (.slice none 0 0))
  have hs := h.1.size
  obtain ⟨N, hN⟩ : ∃ N, n.natAbs = N := ⟨_, rfl⟩
  have EO := Lib.hid (sOf_E (N := N) HE.out (by omega))
  have FN : ∀ (b : Bool) (r : Num) (W2 : World), b = decide (n < 0) → r.N = N → r.n = lenL N → Env (W.alloc (.cells #[.bool false, .slice none 0 0] 25)) (r :: e) W2 → Calls Tryz.prog 38 #[.bool b, .slice r.A r.n r.c] W2 fun e' W3 => e' = .returned (.agg #[.bool b, .slice r.A r.n r.c]) ∧ Box2 W3 W.heap.size 25 (.bool false) (.slice none 0 0) ∧
      Zs w e n (.returned (.agg #[.bool b, .slice r.A r.n r.c])) ((W3.setCell ⟨W.heap.size, 0, none⟩ (.bool b)).setCell ⟨W.heap.size, 1, none⟩ (.slice r.A r.n r.c)) := fun b r W2 hb hr hrn hE2 => by
    refine (told_E hE2 (x := r) (b := b) (by rw [hrn, hr])).mono ?_
    rintro e' W3 ⟨rfl, hE3⟩
    have e1 : decide (zOf b r.N < 0) = b := by
      rw [hr, ← hN, hb, zOf_told]
    have hB3 := B.out.below hE3.1 (by simp)
    rw [e1]
    exact ⟨rfl, hB3, r, by rw [hb], by rw [hr, hN], by rw [hrn, hN], (hE3.over HO.out).boxed hB3 hs b _⟩
  replace FN := Lib.hid FN
  clear h
  by_cases h0 : n < 0
  · have HD := Lib.hid (show true = decide (n < 0) by simp [h0])
    have he : IntKind.u64.wrap (-(IntKind.u64.wrap n)) = (N : Int) := by rw [wrap_u64, wrap_u64]; omega
    go_enter Tryz.func17, Tryz.ntmps17
    go_wp2_with fail
    refine EO.out.mono ?_
    rintro e1 W2 ⟨r, rfl, rN, rn, hE2⟩
    have FC := Lib.hid (FN.out true r W2 HD.out rN rn hE2)
    clear rN rn hE2
    go_wp2_with fail
    refine FC.out.mono ?_
    rintro e2 W3 ⟨rfl, hB3, hz⟩
    obtain ⟨c1, c2, c3, c4⟩ := hB3.cells
    have HZ := Lib.hid hz
    have HB3 := Lib.hid hB3
    clear hz hB3
    go_wp2
    exact bodyPost_ret (ret_box2 (HB3.out.set _ _) rfl rfl) rfl HZ.out
  · have HD := Lib.hid (show false = decide (n < 0) by simp; omega)
    have he : IntKind.u64.wrap n = (N : Int) := by rw [wrap_u64]; omega
    go_enter Tryz.func17, Tryz.ntmps17
    go_wp2_with fail
    refine EO.out.mono ?_
    rintro e1 W2 ⟨r, rfl, rN, rn, hE2⟩
    have FC := Lib.hid (FN.out false r W2 HD.out rN rn hE2)
    clear rN rn hE2
    go_wp2_with fail
    refine FC.out.mono ?_
    rintro e2 W3 ⟨rfl, hB3, hz⟩
    obtain ⟨c1, c2, c3, c4⟩ := hB3.cells
    have HZ := Lib.hid hz
    have HB3 := Lib.hid hB3
    clear hz hB3
    go_wp2
    exact bodyPost_ret (ret_box2 (HB3.out.set _ _) rfl rfl) rfl HZ.out

set_option maxRecDepth 100000 in
set_option maxHeartbeats 1000000 in
theorem signTold (hs0 : Signs w0) : SSayTold w0 11 fun Z => .int .i64 Z.sign := fun w W e b x Z hB h hx _ hz => by
  have hS := Lib.hid (hs0.keep hB)
  have HE := Lib.hid (h.alloc (.cells #[.bool b, .slice x.A x.n x.c] 25))
  have HB1 := Lib.hid ((Below.refl _ W).alloc (Nat.le_refl _) (.cells #[.bool b, .slice x.A x.n x.c] 25))
  have ER := Lib.hid (reckon_E (b := b) HE.out.here hx)
  rw [hz] at ER
  clear h hx hz hs0 hB
  go_enter Tryz.func11, Tryz.ntmps11
  go_wp2_with fail
  refine ER.out.mono ?_
  rintro e1 W2 ⟨rfl, hE2⟩
  have ES := Lib.hid (sgn_E (u := .bool b) (v := .slice x.A x.n x.c) (Z := Z) ((hS.out.keep HB1.out).keep hE2.1) (hE2.over HE.out.1))
  clear hE2
  go_wp2_with fail
  refine ES.out.mono ?_
  rintro e2 W3 ⟨rfl, hE3⟩
  have HE3 := Lib.hid hE3
  clear hE3
  go_wp2
  go_ret
  exact ⟨rfl, HE3.out⟩

set_option maxRecDepth 100000 in
set_option maxHeartbeats 1000000 in
theorem normTold : SOneTold w0 19 id := fun w W e b x Z _ h hx _ hz => by
  obtain ⟨W1, hW1⟩ : ∃ W1, (W.alloc (.cells #[.bool b, .slice x.A x.n x.c] 25)).alloc (.cells #[.bool false, .slice none 0 0] 25) = W1 := ⟨_, rfl⟩
  have HE := (h.alloc (.cells #[.bool b, .slice x.A x.n x.c] 25)).alloc (.cells #[.bool false, .slice none 0 0] 25)
  have hs := h.1.size
  have B1 := (Box2.new W 25 (.bool b) (.slice x.A x.n x.c)).alloc (.cells #[.bool false, .slice none 0 0] 25)
  have B2 := Box2.new (W.alloc (.cells #[.bool b, .slice x.A x.n x.c] 25)) 25 (.bool false) (.slice none 0 0)
  rw [World.size_alloc] at B2
  go_enter Tryz.func19, Tryz.ntmps19
  go_wp2
  rw [hW1] at HE B1 B2
  have HO := Lib.hid HE.1
  replace HE := Lib.hid HE.here
  replace B1 := Lib.hid B1
  replace B2 := Lib.hid B2
  have HX := Lib.hid hx
  subst hz
  clear h hW1 hx
  have OK := Lib.hid (fun V (hb : Below W1.heap.size W1 V) => (HE.out.2 x HX.out).later hb)
  refine wp_region_facts 6 [3, 4, 5, 6, 7, 8] (fun i v V => match i with
      | 0 => v = .pointer (some ⟨W.heap.size, 0, none⟩)
      | 1 => v = .bool b
      | 2 => v = .pointer (some ⟨W.heap.size, 1, none⟩)
      | 3 => v = .slice x.A x.n x.c
      | 4 => RepN x.N v V
      | _ => RepT (zOf b x.N) v V) (fun V => Below W1.heap.size W1 V) (by kernel_rfl) (by kernel_rfl) rfl (by decide) (by first | (simp; done) | (simp; done)) (Below.refl _ _).drew ?_ ?_ ?_
  · intro i v V V2 hf hb _
    match i, hf with
    | 0, hf => exact hf
    | 1, hf => exact hf
    | 2, hf => exact hf
    | 3, hf => exact hf
    | 4, hf => exact RepN.keep hf hb
    | _ + 5, hf => exact RepT.keep hf hb
  · intro i t ht a V hC hF hd
    match i, ht with
    | 0, ht =>
      cases ht
      have h1 : a.tmps[1]?.getD undef = .pointer (some ⟨W.heap.size, 0, none⟩) := (hF.at_ 1 (by decide)).trans rfl
      exact step_value (v := .pointer (some ⟨W.heap.size, 0, none⟩)) rfl rfl (wanted_free rfl) (by go_simp) hC rfl
    | 1, ht =>
      cases ht
      have h3 : a.tmps[3]?.getD undef = .pointer (some ⟨W.heap.size, 0, none⟩) := (slot_eq a 3).symm.trans (hd 0 3 rfl (by kernel_rfl))
      obtain ⟨c00, c01, -, -⟩ := (B1.out.below hC B1.out.lt).cells
      exact step_value (v := .bool b) rfl rfl (wanted_free rfl) (by go_simp) hC rfl
    | 2, ht =>
      cases ht
      have h1 : a.tmps[1]?.getD undef = .pointer (some ⟨W.heap.size, 0, none⟩) := (hF.at_ 1 (by decide)).trans rfl
      exact step_value (v := .pointer (some ⟨W.heap.size, 1, none⟩)) rfl rfl (wanted_free rfl) (by go_simp) hC rfl
    | 3, ht =>
      cases ht
      have h5 : a.tmps[5]?.getD undef = .pointer (some ⟨W.heap.size, 1, none⟩) := (slot_eq a 5).symm.trans (hd 2 5 rfl (by kernel_rfl))
      obtain ⟨c00, c01, -, -⟩ := (B1.out.below hC B1.out.lt).cells
      exact step_value (v := .slice x.A x.n x.c) rfl rfl (wanted_free rfl) (by go_simp) hC rfl
    | 4, ht =>
      cases ht
      have h6 : a.tmps[6]?.getD undef = .slice x.A x.n x.c := (slot_eq a 6).symm.trans (hd 3 6 rfl (by kernel_rfl))
      refine step_call rfl rfl (wanted_free rfl) (call1_run ⟨_, rfl⟩ h6 (enters_of Tryz.func43 (by kernel_rfl) rfl)) ((sTrim_E (w := V) (e := [x]) (Env.start (by simp only [List.mem_singleton, forall_eq]; exact (OK.out V hC))) (by simp)).mono ?_)
      rintro e2 V2 ⟨r, rfl, n1, n2, hE2⟩
      exact ⟨_, rfl, ⟨r, rfl, n1, n2, hE2.2 r (by simp)⟩, hE2.1, hC.trans (hE2.1.mono hC.size)⟩
    | 5, ht =>
      cases ht
      have h4 : a.tmps[4]?.getD undef = .bool b := (slot_eq a 4).symm.trans (hd 1 4 rfl (by kernel_rfl))
      have r7 : RepN x.N (a.tmps.getD 7 undef) V := hd 4 7 rfl (by kernel_rfl)
      have h7 : a.tmps[7]?.getD undef = a.tmps.getD 7 undef := (slot_eq a 7).symm
      obtain ⟨r, hr, n1, n2, hk⟩ := r7
      rw [hr] at h7
      refine step_call rfl rfl (wanted_free rfl) (call2_run ⟨_, rfl⟩ h4 h7 (enters_of Tryz.func38 (by kernel_rfl) rfl)) ((told_E (w := V) (e := [r]) (x := r) (Env.start (by simp only [List.mem_singleton, forall_eq]; exact hk)) (by rw [n2, n1])).mono ?_)
      rintro e2 V2 ⟨rfl, hE2⟩
      exact ⟨_, rfl, ⟨r, by rw [n1], by rw [n1, zOf_abs], by rw [n2, zOf_abs], hE2.2 r (by simp)⟩, hE2.1, hC.trans (hE2.1.mono hC.size)⟩
    | k + 6, ht => simp at ht
  · intro a2 V2 hC hF hf
    have p2 : a2.tmps[2]?.getD undef = .pointer (some ⟨W.heap.size + 1, 0, none⟩) := (hF.at_ 2 (by decide)).trans rfl
    obtain ⟨r, p8, n1, n2, hk⟩ := (hf 5 8 rfl : RepT (zOf b x.N) (a2.tmps.getD 8 undef) V2)
    rw [slot_eq] at p8
    have hdf : a2.defers = [] := hF.defers
    have hB2 := B2.out.below hC B2.out.lt
    obtain ⟨c1, c2, c3, c4⟩ := hB2.cells
    replace n1 := Lib.hid n1
    replace n2 := Lib.hid n2
    clear hf hF
    show wpList _ _ _ [_] a2 V2
    go_wp2
    exact bodyPost_ret (ret_box2 (hB2.set _ _) rfl (by simpa using p2)) (by first | exact hdf | simp | simpa using hdf) (zs_box HO.out HE.out hC hk hB2 (by omega) n1.out n2.out)

set_option maxRecDepth 100000 in
set_option maxHeartbeats 1000000 in
theorem negTold : SOneTold w0 21 fun Z => -Z := fun w W e b x Z _ h hx hl hz => by
  obtain ⟨Y, hY⟩ : ∃ Y, -Z = Y := ⟨_, rfl⟩
  show Calls _ _ _ _ (Zs w e (-Z))
  rw [hY]
  obtain ⟨W1, hW1⟩ : ∃ W1, (W.alloc (.cells #[.bool b, .slice x.A x.n x.c] 25)).alloc (.cells #[.bool false, .slice none 0 0] 25) = W1 := ⟨_, rfl⟩
  have HE := (h.alloc (.cells #[.bool b, .slice x.A x.n x.c] 25)).alloc (.cells #[.bool false, .slice none 0 0] 25)
  have hs := h.1.size
  have B1 := (Box2.new W 25 (.bool b) (.slice x.A x.n x.c)).alloc (.cells #[.bool false, .slice none 0 0] 25)
  have B2 := Box2.new (W.alloc (.cells #[.bool b, .slice x.A x.n x.c] 25)) 25 (.bool false) (.slice none 0 0)
  rw [World.size_alloc] at B2
  rw [hW1] at HE B1 B2
  have HO := Lib.hid HE.1
  replace HE := Lib.hid HE.here
  replace B1 := Lib.hid B1
  replace B2 := Lib.hid B2
  have ET := Lib.hid (turned_E (b := b) (x := x) HE.out)
  have HZ := Lib.hid (show zOf (!b) x.N = Y by rw [← hY, ← hz]; cases b <;> simp [zOf])
  have HX := Lib.hid (And.intro hx hl)
  obtain ⟨c1, c2, -, -⟩ := B1.out.cells
  clear h hx hz hl hY
  go_enter Tryz.func21, Tryz.ntmps21
  go_wp2_with fail
  clear hW1
  refine ET.out.mono ?_
  rintro e1 W2 ⟨rfl, hE2⟩
  have EN := Lib.hid (normTold (w0 := W1) W1 W2 e (!b) x Y hE2.1 hE2 HX.out.1 HX.out.2 HZ.out)
  clear hE2 c1 c2
  go_wp2_with fail
  refine EN.out.mono ?_
  rintro e2 W3 ⟨r, rfl, rN, rn, hE3⟩
  have hB3 := B2.out.below hE3.1 B2.out.lt
  obtain ⟨c1, c2, c3, c4⟩ := hB3.cells
  have HB3 := Lib.hid hB3
  have HE3 := Lib.hid hE3
  replace rN := Lib.hid rN
  replace rn := Lib.hid rn
  clear hB3 hE3
  go_wp2
  exact bodyPost_ret (ret_box2 (HB3.out.set _ _) rfl rfl) rfl ⟨r, rfl, rN.out, rn.out, (HE3.out.over HO.out).boxed HB3.out (by omega) _ _⟩

set_option maxRecDepth 100000 in
set_option maxHeartbeats 2000000 in
theorem smallTold : SSayTold w0 6 fun Z => .tuple #[.int .i64 (if fitsZ Z then Z else 0), .bool (fitsZ Z)] := fun w W e b x Z _ h hx _ hz => by
  have HE := Lib.hid (h.alloc (.cells #[.bool b, .slice x.A x.n x.c] 25))
  obtain ⟨h1, h2, h3, h4⟩ := HE.out.2 x hx
  replace h3 : x.c ≤ 9223372036854775807 := by simpa [maxLen] using h3
  subst hz
  obtain ⟨R, hR⟩ : ∃ R : Value, (.tuple #[.int .i64 (if fitsZ (zOf b x.N) then zOf b x.N else 0), .bool (fitsZ (zOf b x.N))]) = R := ⟨_, rfl⟩
  show Calls _ _ _ _ (fun e' W' => e' = .returned (.tuple #[.int .i64 (if fitsZ (zOf b x.N) then zOf b x.N else 0), .bool (fitsZ (zOf b x.N))]) ∧ Env w e W')
  rw [hR]
  have RE : ∀ (f : Bool) (v : Int), fitsZ (zOf b x.N) = f → (f = true → v = zOf b x.N) → (f = false → v = 0) → (Ending.returned (.tuple #[.int .i64 v, .bool f]) = .returned R ∧ Env w e (W.alloc (.cells #[.bool b, .slice x.A x.n x.c] 25))) := by
    intro f v hf h1 h2
    refine ⟨?_, HE.out⟩
    rw [← hR, hf]
    cases f
    · rw [h2 rfl]; rfl
    · rw [h1 rfl]; rfl
  replace RE := Lib.hid RE
  clear hR
  by_cases hN : x.N < 18446744073709551616
  · have EY := Lib.hid (Small_yes _ _ x.A x.n x.c x.N h1 h2 h3 hN)
    clear h hx h1 h2 h3 h4
    cases b
    · by_cases hS : x.N ≤ 9223372036854775807
      · have HD := Lib.hid (show fitsZ (zOf false x.N) = true by rw [zOf_false]; unfold fitsZ; rw [decide_eq_true_eq]; omega)
        have hi : (x.N : Int) ≤ 9223372036854775807 := by omega
        have hc : IntKind.i64.wrap (x.N : Int) = (x.N : Int) := by rw [IntKind.wrap_i64]; omega
        clear hN hS
        go_enter Tryz.func6, Tryz.ntmps6
        go_wp2_with (go_at_call 30; refine EY.out.mono ?_; rintro e' w' ⟨rfl, rfl⟩)
        go_ret2
        exact RE.out true x.N HD.out (fun _ => rfl) (fun h => by cases h)
      · have HD := Lib.hid (show fitsZ (zOf false x.N) = false by rw [zOf_false]; unfold fitsZ; rw [decide_eq_false_iff_not]; omega)
        have hi : ¬ (x.N : Int) ≤ 9223372036854775807 := by omega
        clear hN hS
        go_enter Tryz.func6, Tryz.ntmps6
        go_wp2_with (go_at_call 30; refine EY.out.mono ?_; rintro e' w' ⟨rfl, rfl⟩)
        go_ret2
        exact RE.out false 0 HD.out (fun h => by cases h) (fun _ => rfl)
    · by_cases hS : x.N ≤ 9223372036854775808
      · have HD := Lib.hid (show fitsZ (zOf true x.N) = true by rw [zOf_true]; unfold fitsZ; rw [decide_eq_true_eq]; omega)
        have hi : (x.N : Int) ≤ 9223372036854775808 := by omega
        have hc : IntKind.i64.wrap (IntKind.u64.wrap (-(x.N : Int))) = -(x.N : Int) := by rw [IntKind.wrap_i64, wrap_u64]; omega
        clear hN hS
        go_enter Tryz.func6, Tryz.ntmps6
        go_wp2_with (go_at_call 30; refine EY.out.mono ?_; rintro e' w' ⟨rfl, rfl⟩)
        go_ret2
        exact RE.out true (-(x.N : Int)) HD.out (fun _ => by rw [zOf_true]) (fun h => by cases h)
      · have HD := Lib.hid (show fitsZ (zOf true x.N) = false by rw [zOf_true]; unfold fitsZ; rw [decide_eq_false_iff_not]; omega)
        have hi : ¬ (x.N : Int) ≤ 9223372036854775808 := by omega
        clear hN hS
        go_enter Tryz.func6, Tryz.ntmps6
        go_wp2_with (go_at_call 30; refine EY.out.mono ?_; rintro e' w' ⟨rfl, rfl⟩)
        go_ret2
        exact RE.out false 0 HD.out (fun h => by cases h) (fun _ => rfl)
  · have EY := Lib.hid (Small_no _ _ x.A x.n x.c x.N h1 h2 h3 hN)
    have HD := Lib.hid (show fitsZ (zOf b x.N) = false by cases b <;> (unfold fitsZ zOf; rw [decide_eq_false_iff_not]; first | (rw [if_pos rfl]; omega) | (rw [if_neg (by decide)]; omega)))
    clear h hx h1 h2 h3 h4 hN
    cases b
    · go_enter Tryz.func6, Tryz.ntmps6
      go_wp2_with (go_at_call 30; refine EY.out.mono ?_; rintro e' w' ⟨rfl, rfl⟩)
      go_ret2
      exact RE.out false 0 HD.out (fun h => by cases h) (fun _ => rfl)
    · go_enter Tryz.func6, Tryz.ntmps6
      go_wp2_with (go_at_call 30; refine EY.out.mono ?_; rintro e' w' ⟨rfl, rfl⟩)
      go_ret2
      exact RE.out false 0 HD.out (fun h => by cases h) (fun _ => rfl)
end Go.Proofs.YtolldhfcnbbelaaGreatDoor

/- Contracts of sint's Cmp and Same, over numbers at hand. -/
namespace Go.Proofs.YtolldhfcnbbelaaGreatDoor
open Go Go.RowKit
variable {w0 : World}

theorem cmpZ_pl_lt {Z Z' : Int} (h : plZ Z < plZ Z') : cmpZ Z Z' = -1 := by
  unfold plZ at h
  unfold cmpZ
  split at h <;> split at h <;> (try split at h) <;> (try split at h) <;> (try split) <;> (try split) <;> omega
theorem cmpZ_pl_gt {Z Z' : Int} (h : plZ Z' < plZ Z) : cmpZ Z Z' = 1 := by
  unfold plZ at h
  unfold cmpZ
  split at h <;> split at h <;> (try split at h) <;> (try split at h) <;> (try split) <;> (try split) <;> omega
theorem plZ_zero {Z : Int} : plZ Z = 1 ↔ Z = 0 := by
  unfold plZ
  split
  · constructor <;> intro <;> omega
  · split
    · constructor <;> intro <;> first | assumption | rfl
    · constructor <;> intro <;> omega
theorem cmpZ_same {b b' : Bool} {N M : Nat} {Z Z' : Int} (h : plZ Z = plZ Z') (hz : zOf b N = Z) (hz' : zOf b' M = Z') : IntKind.i64.wrap (Z.sign * cmpN N M) = cmpZ Z Z' := by
  have e : Z.sign * cmpN N M = cmpZ Z Z' := by
    have h1 := plZ_sign Z
    have h2 := plZ_sign Z'
    have h3 := plZ_lt Z
    have hn : N = Z.natAbs := by rw [← hz, zOf_abs]
    have hm : M = Z'.natAbs := by rw [← hz', zOf_abs]
    rcases Int.lt_trichotomy Z 0 with h4 | h4 | h4
    · have h5 : Z' < 0 := by
        rcases Int.lt_trichotomy Z' 0 with h6 | h6 | h6
        · exact h6
        · rw [Int.sign_eq_neg_one_of_neg h4] at h1; subst h6; rw [Int.sign_zero] at h2; omega
        · rw [Int.sign_eq_neg_one_of_neg h4] at h1; rw [Int.sign_eq_one_of_pos h6] at h2; omega
      rw [Int.sign_eq_neg_one_of_neg h4]
      unfold cmpN cmpZ
      split <;> split <;> (try split) <;> (try split) <;> omega
    · have h5 : Z' = 0 := by
        rcases Int.lt_trichotomy Z' 0 with h6 | h6 | h6
        · rw [Int.sign_eq_neg_one_of_neg h6] at h2; subst h4; rw [Int.sign_zero] at h1; omega
        · exact h6
        · subst h4; rw [Int.sign_zero] at h1; rw [Int.sign_eq_one_of_pos h6] at h2; omega
      subst h4 h5
      rw [Int.sign_zero, Int.zero_mul]; rfl
    · have h5 : 0 < Z' := by
        rcases Int.lt_trichotomy Z' 0 with h6 | h6 | h6
        · rw [Int.sign_eq_one_of_pos h4] at h1; rw [Int.sign_eq_neg_one_of_neg h6] at h2; omega
        · rw [Int.sign_eq_one_of_pos h4] at h1; subst h6; rw [Int.sign_zero] at h2; omega
        · exact h6
      rw [Int.sign_eq_one_of_pos h4]
      unfold cmpN cmpZ
      split <;> split <;> (try split) <;> (try split) <;> omega
  rw [e, IntKind.wrap_i64]
  unfold cmpZ
  split
  · decide
  · split <;> decide

set_option maxRecDepth 100000 in
set_option maxHeartbeats 4000000 in
theorem cmpTold (hs0 : Signs w0) : SSay2Told w0 13 fun Z Z' => .int .i64 (cmpZ Z Z') := fun w W e b x b' y Z Z' hB0 h hx hy _ _ hz hz' => by
  obtain ⟨W1, hW1⟩ : ∃ W1, (W.alloc (.cells #[.bool b, .slice x.A x.n x.c] 25)).alloc (.cells #[.bool b', .slice y.A y.n y.c] 25) = W1 := ⟨_, rfl⟩
  have HE := (h.alloc (.cells #[.bool b, .slice x.A x.n x.c] 25)).alloc (.cells #[.bool b', .slice y.A y.n y.c] 25)
  have hs := h.1.size
  have B1 := (Box2.new W 25 (.bool b) (.slice x.A x.n x.c)).alloc (.cells #[.bool b', .slice y.A y.n y.c] 25)
  have B2 := Box2.new (W.alloc (.cells #[.bool b, .slice x.A x.n x.c] 25)) 25 (.bool b') (.slice y.A y.n y.c)
  have HS := (hs0.keep hB0).keep ((h.here.alloc (.cells #[.bool b, .slice x.A x.n x.c] 25)).alloc (.cells #[.bool b', .slice y.A y.n y.c] 25)).1
  rw [World.size_alloc] at B2
  rw [hW1] at HE B1 B2 HS
  have HO := Lib.hid HE.1
  replace HE := Lib.hid HE.here
  replace B1 := Lib.hid B1
  replace B2 := Lib.hid B2
  replace HS := Lib.hid HS
  have OX := Lib.hid (fun V (hb : Below W1.heap.size W1 V) => (HE.out.2 x hx).later hb)
  have OY := Lib.hid (fun V (hb : Below W1.heap.size W1 V) => (HE.out.2 y hy).later hb)
  have HPX := Lib.hid hz
  have HPY := Lib.hid hz'
  have HX := Lib.hid (And.intro hx hy)
  clear h hx hy hz hz' hB0
  go_enter Tryz.func13, Tryz.ntmps13
  go_wp2
  clear hW1
  refine wp_region_facts_rel 6 [7, 8, 9, 10, 5, 6] (fun i v V => match i with
      | 0 => v = .agg #[.bool b, .slice x.A x.n x.c]
      | 1 => v = .agg #[.bool b, .slice x.A x.n x.c, .int .i64 (plZ Z : Nat)]
      | 2 => v = .agg #[.bool b', .slice y.A y.n y.c]
      | 3 => v = .agg #[.bool b', .slice y.A y.n y.c, .int .i64 (plZ Z' : Nat)]
      | 4 => RepB3 W1 v V
      | _ => RepB3 W1 v V) (fun i V v => (i = 4 ∨ i = 5) → v = .pointer (some ⟨V.heap.size, 0, none⟩)) (fun i j v v2 => (i = 4 ∧ j = 5 ∨ i = 5 ∧ j = 4) → v ≠ v2) (fun V => Below W1.heap.size W1 V) (by kernel_rfl) (by kernel_rfl) rfl (by decide) (by first | (simp; done) | (simp; done)) (Below.refl _ _).drew ?_ ?_ ?_ ?_
  · intro i v V V2 hf hb _
    match i, hf with
    | 0, hf => exact hf
    | 1, hf => exact hf
    | 2, hf => exact hf
    | 3, hf => exact hf
    | 4, hf => exact RepB3.keep hf hb
    | _ + 5, hf => exact RepB3.keep hf hb
  · intro i j v v2 V hfr hf hij
    rcases hij with ⟨rfl, rfl⟩ | ⟨rfl, rfl⟩
    · obtain ⟨g, e, _, hB⟩ := (hf : RepB3 W1 v2 V)
      intro e2
      rw [e, hfr (by decide)] at e2
      have := hB.lt
      injection e2 with e2; injection e2 with e2; injection e2 with e2
      omega
    · obtain ⟨g, e, _, hB⟩ := (hf : RepB3 W1 v2 V)
      intro e2
      rw [e, hfr (by decide)] at e2
      have := hB.lt
      injection e2 with e2; injection e2 with e2; injection e2 with e2
      omega
  · intro i t ht a V hC hF hd
    match i, ht with
    | 0, ht =>
      cases ht
      have h2 : a.tmps[2]?.getD undef = .pointer (some ⟨W.heap.size, 0, none⟩) := (hF.at_ 2 (by decide)).trans rfl
      obtain ⟨c00, c01, -, -⟩ := (B1.out.below hC B1.out.lt).cells
      obtain ⟨c10, c11, -, -⟩ := (B2.out.below hC B2.out.lt).cells
      refine step_triv (fun _ h => absurd h (by decide)) ?_
      exact step_value (v := .agg #[.bool b, .slice x.A x.n x.c]) rfl rfl (wanted_free rfl) (by go_simp) hC rfl
    | 1, ht =>
      cases ht
      have h7 : a.tmps[7]?.getD undef = .agg #[.bool b, .slice x.A x.n x.c] := (slot_eq a 7).symm.trans (hd 0 7 rfl (by kernel_rfl))
      refine step_triv (fun _ h => absurd h (by decide)) ?_
      refine step_call rfl rfl (wanted_free rfl) (call1_run ⟨_, rfl⟩ h7 (enters_of Tryz.func32 (by kernel_rfl) rfl)) ((reckon_any (b := b) (x := x) V (OX.out V hC).1 (OX.out V hC).2.1 (OX.out V hC).2.2.1 (OX.out V hC).2.2.2).mono ?_)
      rw [HPX.out]
      rintro e2 V2 ⟨rfl, hb⟩
      exact ⟨_, rfl, rfl, hb, hC.trans (hb.mono hC.size)⟩
    | 2, ht =>
      cases ht
      have h3 : a.tmps[3]?.getD undef = .pointer (some ⟨W.heap.size + 1, 0, none⟩) := (hF.at_ 3 (by decide)).trans rfl
      obtain ⟨c00, c01, -, -⟩ := (B1.out.below hC B1.out.lt).cells
      obtain ⟨c10, c11, -, -⟩ := (B2.out.below hC B2.out.lt).cells
      refine step_triv (fun _ h => absurd h (by decide)) ?_
      exact step_value (v := .agg #[.bool b', .slice y.A y.n y.c]) rfl rfl (wanted_free rfl) (by go_simp) hC rfl
    | 3, ht =>
      cases ht
      have h9 : a.tmps[9]?.getD undef = .agg #[.bool b', .slice y.A y.n y.c] := (slot_eq a 9).symm.trans (hd 2 9 rfl (by kernel_rfl))
      refine step_triv (fun _ h => absurd h (by decide)) ?_
      refine step_call rfl rfl (wanted_free rfl) (call1_run ⟨_, rfl⟩ h9 (enters_of Tryz.func32 (by kernel_rfl) rfl)) ((reckon_any (b := b') (x := y) V (OY.out V hC).1 (OY.out V hC).2.1 (OY.out V hC).2.2.1 (OY.out V hC).2.2.2).mono ?_)
      rw [HPY.out]
      rintro e2 V2 ⟨rfl, hb⟩
      exact ⟨_, rfl, rfl, hb, hC.trans (hb.mono hC.size)⟩
    | 4, ht =>
      cases ht
      exact fz_alloc3 rfl rfl (wanted_free rfl) rfl hC.size (fun V2 hb => hC.trans (hb.mono hC.size)) (fun _ _ h e => ⟨h, fun _ => e⟩)
    | 5, ht =>
      cases ht
      exact fz_alloc3 rfl rfl (wanted_free rfl) rfl hC.size (fun V2 hb => hC.trans (hb.mono hC.size)) (fun _ _ h e => ⟨h, fun _ => e⟩)
    | k + 6, ht => simp at ht
  · intro a2 V2 hC hF hf hR
    obtain ⟨g, pg, hg, bg⟩ := (hf 4 5 rfl : RepB3 W1 (a2.tmps.getD 5 undef) V2)
    obtain ⟨g', pg', hg', bg'⟩ := (hf 5 6 rfl : RepB3 W1 (a2.tmps.getD 6 undef) V2)
    have hne : g ≠ g' := by
      rcases hR 4 5 5 6 rfl rfl (by decide) with h | h
      · exact fun e => h (by decide) (by rw [pg, pg', e])
      · exact fun e => h (by decide) (by rw [pg, pg', e])
    have hlit := act_eq (a := a2) [.agg #[.bool b, .slice x.A x.n x.c], .agg #[.bool b', .slice y.A y.n y.c], .pointer (some ⟨W.heap.size, 0, none⟩), .pointer (some ⟨W.heap.size + 1, 0, none⟩), .int .i64 0, .pointer (some ⟨g, 0, none⟩), .pointer (some ⟨g', 0, none⟩), .agg #[.bool b, .slice x.A x.n x.c], .agg #[.bool b, .slice x.A x.n x.c, .int .i64 (plZ Z : Nat)], .agg #[.bool b', .slice y.A y.n y.c], .agg #[.bool b', .slice y.A y.n y.c, .int .i64 (plZ Z' : Nat)], undef, undef, undef, undef, undef, undef, undef, undef, undef, undef, undef, undef, undef, undef, undef, undef, undef, undef, undef, undef, undef, undef] (by simpa using hF.size) hF.defers (fun i hi => match i, hi with
      | 0, _ => (hF.same 0 (by decide)).trans rfl
      | 1, _ => (hF.same 1 (by decide)).trans rfl
      | 2, _ => (hF.same 2 (by decide)).trans rfl
      | 3, _ => (hF.same 3 (by decide)).trans rfl
      | 4, _ => (hF.same 4 (by decide)).trans rfl
      | 5, _ => pg
      | 6, _ => pg'
      | 7, _ => (hf 0 7 rfl : a2.tmps.getD 7 undef = _)
      | 8, _ => (hf 1 8 rfl : a2.tmps.getD 8 undef = _)
      | 9, _ => (hf 2 9 rfl : a2.tmps.getD 9 undef = _)
      | 10, _ => (hf 3 10 rfl : a2.tmps.getD 10 undef = _)
      | 11, _ => (hF.same 11 (by decide)).trans rfl
      | 12, _ => (hF.same 12 (by decide)).trans rfl
      | 13, _ => (hF.same 13 (by decide)).trans rfl
      | 14, _ => (hF.same 14 (by decide)).trans rfl
      | 15, _ => (hF.same 15 (by decide)).trans rfl
      | 16, _ => (hF.same 16 (by decide)).trans rfl
      | 17, _ => (hF.same 17 (by decide)).trans rfl
      | 18, _ => (hF.same 18 (by decide)).trans rfl
      | 19, _ => (hF.same 19 (by decide)).trans rfl
      | 20, _ => (hF.same 20 (by decide)).trans rfl
      | 21, _ => (hF.same 21 (by decide)).trans rfl
      | 22, _ => (hF.same 22 (by decide)).trans rfl
      | 23, _ => (hF.same 23 (by decide)).trans rfl
      | 24, _ => (hF.same 24 (by decide)).trans rfl
      | 25, _ => (hF.same 25 (by decide)).trans rfl
      | 26, _ => (hF.same 26 (by decide)).trans rfl
      | 27, _ => (hF.same 27 (by decide)).trans rfl
      | 28, _ => (hF.same 28 (by decide)).trans rfl
      | 29, _ => (hF.same 29 (by decide)).trans rfl
      | 30, _ => (hF.same 30 (by decide)).trans rfl
      | 31, _ => (hF.same 31 (by decide)).trans rfl
      | 32, _ => (hF.same 32 (by decide)).trans rfl
      | _ + 33, h => absurd h (by simp only [List.length_cons, List.length_nil]; omega))
    subst hlit
    obtain ⟨W4, hW4, hE4, b5, b6⟩ := fill2 (b := b) (b' := b') (x := x) (y := y) (k := (plZ Z : Nat)) (k' := (plZ Z' : Nat)) HE.out hC bg bg' hne hg hg'
    have bgb := bg'.other (Ne.symm hne) (.bool b) (.slice x.A x.n x.c) (.int .i64 (plZ Z : Nat))
    obtain ⟨c1, c2, c3, c4, c5, c6⟩ := bg.cells
    obtain ⟨d1, d2, d3, d4, d5, d6⟩ := bgb.cells
    have hne2 : g' ≠ g := Ne.symm hne
    obtain ⟨f1, f2, f3, f4, f5, f6⟩ := bg'.cells
    clear hf hR hF hC bg bg' bgb pg pg'
    show wpList _ _ _ [_, _] _ V2
    obtain ⟨m1, m2, m3, m4, m5, m6⟩ := b5.cells
    obtain ⟨n1, n2, n3, n4, n5, n6⟩ := b6.cells
    replace b5 := Lib.hid b5
    replace b6 := Lib.hid b6
    replace HE4 := Lib.hid hE4
    clear hE4 hg hg'
    go_wp2
    · go_ret
      exact ⟨by rw [cmpZ_pl_lt (by first | assumption | omega)]; rfl, HE4.out.over HO.out⟩
    · go_ret
      exact ⟨by rw [cmpZ_pl_gt (by first | assumption | omega)]; rfl, HE4.out.over HO.out⟩
    · have hpl : plZ Z = plZ Z' := by omega
      have HM := Lib.hid (show IntKind.i64.wrap (Z.sign * cmpN x.N y.N) = cmpZ Z Z' from cmpZ_same hpl HPX.out HPY.out)
      have HS4 := Lib.hid (HS.out.keep HE4.out.1)
      have OX4 := Lib.hid (fun V (hb : Below W4.heap.size W4 V) => (HE4.out.2 x HX.out.1).later hb)
      have OY4 := Lib.hid (fun V (hb : Below W4.heap.size W4 V) => (HE4.out.2 y HX.out.2).later hb)
      refine wp_region_facts 10 [23, 24, 25, 26, 27, 28, 29, 30, 31, 32] (fun i v V => match i with
          | 0 => v = .agg #[.bool b, .slice x.A x.n x.c, .int .i64 (plZ Z : Nat)]
          | 1 => v = .int .i64 Z.sign
          | 2 => v = .pointer (some ⟨g, 0, none⟩)
          | 3 => v = .pointer (some ⟨g, 1, none⟩)
          | 4 => v = .slice x.A x.n x.c
          | 5 => v = .pointer (some ⟨g', 0, none⟩)
          | 6 => v = .pointer (some ⟨g', 1, none⟩)
          | 7 => v = .slice y.A y.n y.c
          | 8 => v = .int .i64 (cmpN x.N y.N)
          | _ => v = .int .i64 (cmpZ Z Z')) (fun V => Below W4.heap.size W4 V) (by kernel_rfl) (by kernel_rfl) rfl (by decide) (by first | (simp; done) | (simp; done)) (Below.refl _ _).drew ?_ ?_ ?_
      · intro i v V V2 hf hb _
        match i, hf with
        | 0, hf => exact hf
        | 1, hf => exact hf
        | 2, hf => exact hf
        | 3, hf => exact hf
        | 4, hf => exact hf
        | 5, hf => exact hf
        | 6, hf => exact hf
        | 7, hf => exact hf
        | 8, hf => exact hf
        | _ + 9, hf => exact hf
      · intro i t ht a V hC hF hd
        match i, ht with
        | 0, ht =>
          cases ht
          have h5 : a.tmps[5]?.getD undef = .pointer (some ⟨g, 0, none⟩) := (hF.at_ 5 (by decide)).trans rfl
          obtain ⟨c00, c01, c02, -, -, -⟩ := (b5.out.below hC b5.out.lt).cells
          obtain ⟨c10, c11, c12, -, -, -⟩ := (b6.out.below hC b6.out.lt).cells
          exact step_value (v := .agg #[.bool b, .slice x.A x.n x.c, .int .i64 (plZ Z : Nat)]) rfl rfl (wanted_free rfl) (by go_simp) hC rfl
        | 1, ht =>
          cases ht
          have h23 : a.tmps[23]?.getD undef = .agg #[.bool b, .slice x.A x.n x.c, .int .i64 (plZ Z : Nat)] := (slot_eq a 23).symm.trans (hd 0 23 rfl (by kernel_rfl))
          refine step_call rfl rfl (wanted_free rfl) (call1_run ⟨_, rfl⟩ h23 (enters_of Tryz.func34 (by kernel_rfl) rfl)) ((sgn_any (W := V) (u := .bool b) (v := .slice x.A x.n x.c) (Z := Z) (HS4.out.keep hC)).mono ?_)
          rintro e2 V2 ⟨rfl, hb⟩
          exact ⟨_, rfl, rfl, hb, hC.trans (hb.mono hC.size)⟩
        | 2, ht =>
          cases ht
          have h5 : a.tmps[5]?.getD undef = .pointer (some ⟨g, 0, none⟩) := (hF.at_ 5 (by decide)).trans rfl
          exact step_value (v := .pointer (some ⟨g, 0, none⟩)) rfl rfl (wanted_free rfl) (by go_simp) hC rfl
        | 3, ht =>
          cases ht
          have h25 : a.tmps[25]?.getD undef = .pointer (some ⟨g, 0, none⟩) := (slot_eq a 25).symm.trans (hd 2 25 rfl (by kernel_rfl))
          exact step_value (v := .pointer (some ⟨g, 1, none⟩)) rfl rfl (wanted_free rfl) (by go_simp) hC rfl
        | 4, ht =>
          cases ht
          have h26 : a.tmps[26]?.getD undef = .pointer (some ⟨g, 1, none⟩) := (slot_eq a 26).symm.trans (hd 3 26 rfl (by kernel_rfl))
          obtain ⟨c00, c01, c02, -, -, -⟩ := (b5.out.below hC b5.out.lt).cells
          obtain ⟨c10, c11, c12, -, -, -⟩ := (b6.out.below hC b6.out.lt).cells
          exact step_value (v := .slice x.A x.n x.c) rfl rfl (wanted_free rfl) (by go_simp) hC rfl
        | 5, ht =>
          cases ht
          have h6 : a.tmps[6]?.getD undef = .pointer (some ⟨g', 0, none⟩) := (hF.at_ 6 (by decide)).trans rfl
          exact step_value (v := .pointer (some ⟨g', 0, none⟩)) rfl rfl (wanted_free rfl) (by go_simp) hC rfl
        | 6, ht =>
          cases ht
          have h28 : a.tmps[28]?.getD undef = .pointer (some ⟨g', 0, none⟩) := (slot_eq a 28).symm.trans (hd 5 28 rfl (by kernel_rfl))
          exact step_value (v := .pointer (some ⟨g', 1, none⟩)) rfl rfl (wanted_free rfl) (by go_simp) hC rfl
        | 7, ht =>
          cases ht
          have h29 : a.tmps[29]?.getD undef = .pointer (some ⟨g', 1, none⟩) := (slot_eq a 29).symm.trans (hd 6 29 rfl (by kernel_rfl))
          obtain ⟨c00, c01, c02, -, -, -⟩ := (b5.out.below hC b5.out.lt).cells
          obtain ⟨c10, c11, c12, -, -, -⟩ := (b6.out.below hC b6.out.lt).cells
          exact step_value (v := .slice y.A y.n y.c) rfl rfl (wanted_free rfl) (by go_simp) hC rfl
        | 8, ht =>
          cases ht
          have h27 : a.tmps[27]?.getD undef = .slice x.A x.n x.c := (slot_eq a 27).symm.trans (hd 4 27 rfl (by kernel_rfl))
          have h30 : a.tmps[30]?.getD undef = .slice y.A y.n y.c := (slot_eq a 30).symm.trans (hd 7 30 rfl (by kernel_rfl))
          have ox := OX4.out V hC
          have oy := OY4.out V hC
          refine step_call rfl rfl (wanted_free rfl) (call2_run ⟨_, rfl⟩ h27 h30 (enters_of Tryz.func41 (by kernel_rfl) rfl)) ((Cmp_any x.A y.A x.n y.n x.c y.c x.N y.N V ox.1 oy.1 (by have := ox.2.2.2; omega) (by have := oy.2.2.2; omega)).mono ?_)
          rintro e2 V2 ⟨rfl, hb⟩
          exact ⟨_, rfl, rfl, hb, hC.trans (hb.mono hC.size)⟩
        | 9, ht =>
          cases ht
          have h24 : a.tmps[24]?.getD undef = .int .i64 Z.sign := (slot_eq a 24).symm.trans (hd 1 24 rfl (by kernel_rfl))
          have h31 : a.tmps[31]?.getD undef = .int .i64 (cmpN x.N y.N) := (slot_eq a 31).symm.trans (hd 8 31 rfl (by kernel_rfl))
          have hm := HM.out
          exact step_value (v := .int .i64 (cmpZ Z Z')) rfl rfl (wanted_free rfl) (by go_simp) hC rfl
        | k + 10, ht => simp at ht
      · intro a2 V2 hC hF hf
        have p32 : a2.tmps[32]?.getD undef = .int .i64 (cmpZ Z Z') := (slot_eq a2 32).symm.trans (hf 9 32 rfl)
        have hdf : a2.defers = [] := hF.defers
        have hsz : a2.tmps.size = 33 := hF.size
        clear hf hF
        show wpList _ _ _ [_] a2 V2
        go_wp2
        refine bodyPost_ret (results_tmp rfl _ _ _) (by first | exact hdf | simp | simpa using hdf) ?_
        exact ⟨by simp [hsz] at p32 ⊢; exact p32, (HE4.out.step (hC.mono (Nat.le_refl _))).over HO.out⟩

theorem cmpZ_eq {Z Z' : Int} : (cmpZ Z Z' == 0) = decide (Z = Z') := by
  unfold cmpZ
  split
  · rw [decide_eq_false (by omega)]; rfl
  · split
    · rw [decide_eq_false (by omega)]; rfl
    · rw [decide_eq_true (by omega)]; rfl

set_option maxRecDepth 100000 in
set_option maxHeartbeats 1000000 in
theorem sameTold (hs0 : Signs w0) : SSay2Told w0 15 fun Z Z' => .bool (decide (Z = Z')) := fun w W e b x b' y Z Z' hB0 h hx hy lx ly hz hz' => by
  have HE := Lib.hid ((h.alloc (.cells #[.bool b, .slice x.A x.n x.c] 25)).alloc (.cells #[.bool b', .slice y.A y.n y.c] 25))
  have EC := Lib.hid (cmpTold hs0 w _ e b x b' y Z Z' (hB0.trans (((h.here.alloc (.cells #[.bool b, .slice x.A x.n x.c] 25)).alloc (.cells #[.bool b', .slice y.A y.n y.c] 25)).1.mono hB0.size)) HE.out hx hy lx ly hz hz')
  have HQ := Lib.hid (cmpZ_eq (Z := Z) (Z' := Z'))
  clear h hx hy hz hz' hB0 hs0
  go_enter Tryz.func15, Tryz.ntmps15
  go_wp2_with fail
  refine EC.out.mono ?_
  rintro e1 W2 ⟨rfl, hE2⟩
  have HE2 := Lib.hid hE2
  clear hE2
  go_wp2
  go_ret
  exact ⟨by rw [← HQ.out]; rfl, HE2.out⟩
end Go.Proofs.YtolldhfcnbbelaaGreatDoor
