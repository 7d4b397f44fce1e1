/- SintTells, over what the program's functions answer: integers as they are told, signs, order, sums, products, quotients, rests are the document's. -/
import Derived.Test.YtolldhfcnbbelaaGreatDoorGRefE
import Derived.Test.YtolldhfcnbbelaaGreatDoorGRefG
import Derived.Test.YtolldhfcnbbelaaGreatDoorLaw
namespace Go.Proofs.YtolldhfcnbbelaaGreatDoor
open Go Go.ChangeShapes Go.WideShapes Go.ChangeAt Go.RowKit Go.Deep

theorem le_sizeN {l : List Num} {z : Num} (h : z ∈ l) : z.n ≤ sizeN l := by
  unfold sizeN
  induction l with
  | nil => cases h
  | cons y l ih =>
    rw [List.map_cons, List.sum_cons]
    rcases List.mem_cons.1 h with rfl | h
    · omega
    · have := ih h; omega
theorem size5_L {l : List (Bool × Num)} (h : great5 (l.map Prod.snd) = false) : l.length ≤ 20 ∧ ∀ z ∈ l, z.2.n ≤ 60 := by
  obtain ⟨h1, h2⟩ := great5_false h
  refine ⟨by simpa using h1, fun z hz => Nat.le_trans (le_sizeN (List.mem_map.2 ⟨z, hz, rfl⟩)) h2⟩

set_option maxRecDepth 100000 in
set_option maxHeartbeats 8000000 in
theorem stells_any (w : World) (S : SintTold w) (bx : Bool) (x : Num) (by1 : Bool) (y : Num) (A : Option Addr) (c : Nat) (l : List (Bool × Num)) (n : Int) (hx : x.ok w w.heap.size) (hy : y.ok w w.heap.size) (hR : ZRds w w.heap.size A l) (hl : l.length ≤ 100000000000000) (hlc : l.length ≤ c) (hcm : c ≤ maxLen) (hn : -9223372036854775808 ≤ n ∧ n ≤ 9223372036854775807) :
    Calls Tryz.prog 3 #[.agg #[.bool bx, .slice x.A x.n x.c], .agg #[.bool by1, .slice y.A y.n y.c], .slice A l.length c, .int .i64 n] w fun e w' => e = .returned (.bool true) ∧ Below w.heap.size w w' := by
  obtain ⟨Za, hZa⟩ : ∃ Za, zOf bx x.N = Za := ⟨_, rfl⟩
  obtain ⟨Zb, hZb⟩ : ∃ Zb, zOf by1 y.N = Zb := ⟨_, rfl⟩
  have hE0 : Env w [x, y] w := Env.start (by simp [hx, hy])
  have HE := (hE0.alloc (.cells #[.bool bx, .slice x.A x.n x.c] 25)).alloc (.cells #[.bool by1, .slice y.A y.n y.c] 25)
  have P3 := (Box2.new w 25 (.bool bx) (.slice x.A x.n x.c)).alloc (.cells #[.bool by1, .slice y.A y.n y.c] 25)
  have P4 := Box2.new (w.alloc (.cells #[.bool bx, .slice x.A x.n x.c] 25)) 25 (.bool by1) (.slice y.A y.n y.c)
  rw [World.size_alloc] at P4
  obtain ⟨W1, hW1⟩ : ∃ W1, (w.alloc (.cells #[.bool bx, .slice x.A x.n x.c] 25)).alloc (.cells #[.bool by1, .slice y.A y.n y.c] 25) = W1 := ⟨_, rfl⟩
  rw [hW1] at HE P3 P4
  have EG := great5_E2 (b := bx) (b' := by1) HE.here (x := x) (y := y) (by simp) (by simp) rfl
  have H1 := Lib.hid HE.1
  have ROW := Lib.hid (fun V (hb : Below w.heap.size w V) => (hR.below hb).more hb.size)
  replace P3 := Lib.hid P3
  replace P4 := Lib.hid P4
  have S1 := S.later HE.1
  obtain ⟨c1, c2, -, -⟩ := P3.out.cells
  obtain ⟨c3, c4, -, -⟩ := P4.out.cells
  clear hE0 HE hR
  cases hg : great5 [x, y] with
  | true =>
    rw [hg] at EG
    replace EG := Lib.hid EG
    go_enter Tryz.func3, Tryz.ntmps3
    go_wp2_with fail
    clear hW1
    refine EG.out.mono ?_
    rintro e' W0 ⟨rfl, hE⟩
    go_wp2_with fail
    refine (wakes5_E S1 hE).mono ?_
    rintro e' W2 ⟨rfl, hE2⟩
    have HF := Lib.hid (H1.out.trans (hE2.1.mono H1.out.size))
    clear hE hE2
    go_wp2
    go_ret
    exact ⟨rfl, HF.out⟩
  | false =>
    obtain ⟨lx, ly⟩ := size5_2 hg
    rw [hg] at EG
    replace EG := Lib.hid EG
    cases hg2 : great5 (l.map Prod.snd) with
    | true =>
      go_enter Tryz.func3, Tryz.ntmps3
      go_wp2_with fail
      clear hW1
      refine EG.out.mono ?_
      rintro e' W0 ⟨rfl, hE⟩
      have EL := great5_EL hE (ROW.out W0 (H1.out.trans (hE.1.mono H1.out.size))) (c := c) hl
      rw [hg2] at EL
      replace EL := Lib.hid EL
      clear hE
      go_wp2_with fail
      refine EL.out.mono ?_
      rintro e' W2 ⟨rfl, hE2⟩
      go_wp2_with fail
      refine (wakes5_E S1 hE2).mono ?_
      rintro e' W3 ⟨rfl, hE3⟩
      have HF := Lib.hid (H1.out.trans (hE3.1.mono H1.out.size))
      clear hE2 hE3
      go_wp2
      go_ret
      exact ⟨rfl, HF.out⟩
    | false =>
      obtain ⟨ll, ln⟩ := size5_L hg2
      have HLL := Lib.hid (And.intro ll ln)
      have HXY := Lib.hid (And.intro lx ly)
      have HZ := Lib.hid (And.intro hZa hZb)
      have HN := Lib.hid hn
      have HCM := Lib.hid (And.intro hlc hcm)
      go_enter Tryz.func3, Tryz.ntmps3
      go_wp2_with fail
      clear hW1
      refine EG.out.mono ?_
      rintro e' W0 ⟨rfl, hE⟩
      have EL := great5_EL hE (ROW.out W0 (H1.out.trans (hE.1.mono H1.out.size))) (c := c) hl
      rw [hg2] at EL
      replace EL := Lib.hid EL
      clear hE c1 c2 c3 c4 hn hlc hcm hl hg hg2 ll ln lx ly EG hZa hZb
      go_wp2_with fail
      refine EL.out.mono ?_
      rintro e' W2 ⟨rfl, hE2⟩
      have B3 := Lib.hid (P3.out.below hE2.1 P3.out.lt)
      have B4 := Lib.hid (P4.out.below hE2.1 P4.out.lt)
      have S2 := S1.later hE2.1
      have H2 := Lib.hid (H1.out.trans (hE2.1.mono H1.out.size))
      have HE2 := Lib.hid hE2.here
      clear hE2 EL P3 P4
      obtain ⟨c1, c2, -, -⟩ := B3.out.cells
      go_wp2_with fail
      have ES := S2.small _ _ _ bx x Za HE2.out.1 HE2.out (by simp) (by have := HXY.out.1; omega) HZ.out.1
      obtain ⟨F, hF⟩ : ∃ F, (if fitsZ Za then Za else 0) = F := ⟨_, rfl⟩
      obtain ⟨B, hB⟩ : ∃ B, fitsZ Za = B := ⟨_, rfl⟩
      have hT : (Value.tuple #[.int .i64 (if fitsZ Za then Za else 0), .bool (fitsZ Za)]) = .tuple #[.int .i64 F, .bool B] := by rw [hF, hB]
      refine ES.mono ?_
      rintro e' W3 ⟨rfl, hE3⟩
      dsimp only
      rw [hT]
      have ES2 := rSmall5_E (b := bx) (Z := Za) hE3 (x := x) (by simp) HZ.out.1
      rw [hT] at ES2
      replace ES2 := Lib.hid ES2
      clear hT hF hB c1 c2 ES
      obtain ⟨c1, c2, -, -⟩ := (B3.out.below hE3.1 B3.out.lt).cells
      clear hE3
      go_wp2_with fail
      refine ES2.out.mono ?_
      rintro e' W4 ⟨rfl, hE4⟩
      clear c1 c2 ES2
      obtain ⟨c1, c2, -, -⟩ := (B3.out.below hE4.1 B3.out.lt).cells
      obtain ⟨c3, c4, -, -⟩ := (B4.out.below hE4.1 B4.out.lt).cells
      go_wp2_with fail
      obtain ⟨Q, hQ⟩ : ∃ Q, Za.fdiv Zb = Q := ⟨_, rfl⟩
      obtain ⟨R, hRr⟩ : ∃ R, (if Zb = 0 then 0 else Za.fmod Zb) = R := ⟨_, rfl⟩
      obtain ⟨E, hEr⟩ : ∃ E, (if Zb = 0 then (30 : Int) else 0) = E := ⟨_, rfl⟩
      have ED := S2.div _ _ _ bx x by1 y Za Zb hE4.1 hE4 (by simp) (by simp) (by have := HXY.out.1; omega) (by have := HXY.out.2; omega) HZ.out.1 HZ.out.2
      rw [hQ, hRr, hEr] at ED
      refine ED.mono ?_
      rintro e' W5 ⟨q, r, rfl, qN, qn, rN, rn, hE5⟩
      have hE6 := (hE5.alloc (.cells #[.bool (decide (Q < 0)), .slice q.A q.n q.c] 25)).alloc (.cells #[.bool (decide (R < 0)), .slice r.A r.n r.c] 25)
      have B13 := (Box2.new W5 25 (.bool (decide (Q < 0))) (.slice q.A q.n q.c)).alloc (.cells #[.bool (decide (R < 0)), .slice r.A r.n r.c] 25)
      have B14 := Box2.new (W5.alloc (.cells #[.bool (decide (Q < 0)), .slice q.A q.n q.c] 25)) 25 (.bool (decide (R < 0))) (.slice r.A r.n r.c)
      rw [World.size_alloc] at B14
      obtain ⟨W6, hW6⟩ : ∃ W6, (W5.alloc (.cells #[.bool (decide (Q < 0)), .slice q.A q.n q.c] 25)).alloc (.cells #[.bool (decide (R < 0)), .slice r.A r.n r.c] 25) = W6 := ⟨_, rfl⟩
      rw [hW6] at hE6 B13 B14
      have ED2 := rDiv5_E (b := bx) (b' := by1) (Z := Za) (Z' := Zb) hE6.here (x := x) (y := y) (by simp) (by simp) (by have := HXY.out.1; omega) (by have := HXY.out.2; omega) HZ.out.1 HZ.out.2
      rw [hQ, hRr, hEr] at ED2
      replace ED2 := Lib.hid ED2
      have S6 := S2.later hE6.1
      have H6 := Lib.hid (H2.out.trans (hE6.1.mono H2.out.size))
      replace B3 := Lib.hid (B3.out.below hE6.1 B3.out.lt)
      replace B4 := Lib.hid (B4.out.below hE6.1 B4.out.lt)
      replace B13 := Lib.hid B13
      replace B14 := Lib.hid B14
      replace qN := Lib.hid qN
      replace qn := Lib.hid qn
      replace rN := Lib.hid rN
      replace rn := Lib.hid rn
      clear ED hE4 hE5 hE6 c1 c2 c3 c4 hQ hRr hEr
      obtain ⟨c1, c2, -, -⟩ := B3.out.cells
      obtain ⟨c3, c4, -, -⟩ := B4.out.cells
      go_wp2_with fail
      clear hW6
      refine ED2.out.mono ?_
      rintro e' W7 ⟨q', r', rfl, q'N, q'n, r'N, r'n, hE7⟩
      have hE8 := (hE7.alloc (.cells #[.bool (decide (Q < 0)), .slice q'.A q'.n q'.c] 25)).alloc (.cells #[.bool (decide (R < 0)), .slice r'.A r'.n r'.c] 25)
      have B16 := (Box2.new W7 25 (.bool (decide (Q < 0))) (.slice q'.A q'.n q'.c)).alloc (.cells #[.bool (decide (R < 0)), .slice r'.A r'.n r'.c] 25)
      have B17 := Box2.new (W7.alloc (.cells #[.bool (decide (Q < 0)), .slice q'.A q'.n q'.c] 25)) 25 (.bool (decide (R < 0))) (.slice r'.A r'.n r'.c)
      rw [World.size_alloc] at B17
      obtain ⟨W8, hW8⟩ : ∃ W8, (W7.alloc (.cells #[.bool (decide (Q < 0)), .slice q'.A q'.n q'.c] 25)).alloc (.cells #[.bool (decide (R < 0)), .slice r'.A r'.n r'.c] 25) = W8 := ⟨_, rfl⟩
      rw [hW8] at hE8 B16 B17
      have S8 := S6.later hE8.1
      have HW := Lib.hid (H6.out.trans (hE8.1.mono H6.out.size))
      replace B3 := Lib.hid (B3.out.below hE8.1 B3.out.lt)
      replace B4 := Lib.hid (B4.out.below hE8.1 B4.out.lt)
      replace B13 := Lib.hid (B13.out.below hE8.1 B13.out.lt)
      replace B14 := Lib.hid (B14.out.below hE8.1 B14.out.lt)
      replace B16 := Lib.hid B16
      replace B17 := Lib.hid B17
      have HE8 := Lib.hid hE8.here
      replace q'N := Lib.hid q'N
      replace q'n := Lib.hid q'n
      replace r'N := Lib.hid r'N
      replace r'n := Lib.hid r'n
      clear hE7 hE8 ED2 c1 c2 c3 c4
      go_wp2
      clear hW8
      have OX := Lib.hid (fun V (hb : Below W8.heap.size W8 V) => (HE8.out.2 x (by simp)).later hb)
      have OY := Lib.hid (fun V (hb : Below W8.heap.size W8 V) => (HE8.out.2 y (by simp)).later hb)
      have RA := Lib.hid (fun V (hb : Below W8.heap.size W8 V) => (show RepZ Za (.agg #[.bool bx, .slice x.A x.n x.c]) V from ⟨bx, x, rfl, HZ.out.1, by have := HXY.out.1; omega, OX.out V hb⟩))
      have RB := Lib.hid (fun V (hb : Below W8.heap.size W8 V) => (show RepZ Zb (.agg #[.bool by1, .slice y.A y.n y.c]) V from ⟨by1, y, rfl, HZ.out.2, by have := HXY.out.2; omega, OY.out V hb⟩))
      refine wp_region_facts 50 [52, 53, 54, 55, 56, 57, 58, 59, 60, 61, 62, 63, 64, 65, 66, 67, 68, 69, 70, 71, 72, 73, 74, 75, 76, 77, 78, 79, 80, 81, 82, 83, 84, 85, 86, 87, 88, 89, 90, 91, 92, 93, 94, 95, 96, 97, 98, 99, 100, 101] (fun i v V => match i with
          | 0 => v = .int .i64 F
          | 1 => v = .int .i64 F
          | 2 => v = .bool false
          | 3 => v = .bool false
          | 4 => v = .bool B
          | 5 => v = .bool B
          | 6 => v = .bool false
          | 7 => v = .bool false
          | 8 => v = .bool false
          | 9 => v = .agg #[.bool (decide (Q < 0)), .slice q.A q.n q.c]
          | 10 => v = .agg #[.bool (decide (Q < 0)), .slice q'.A q'.n q'.c]
          | 11 => v = .bool true
          | 12 => v = .bool false
          | 13 => v = .bool false
          | 14 => v = .bool false
          | 15 => v = .agg #[.bool (decide (R < 0)), .slice r.A r.n r.c]
          | 16 => v = .agg #[.bool (decide (R < 0)), .slice r'.A r'.n r'.c]
          | 17 => v = .bool true
          | 18 => v = .bool false
          | 19 => v = .bool false
          | 20 => v = .bool false
          | 21 => v = .int .i64 E
          | 22 => v = .int .i64 E
          | 23 => v = .bool false
          | 24 => v = .bool false
          | 25 => v = .bool false
          | 26 => v = .agg #[.bool bx, .slice x.A x.n x.c]
          | 27 => v = .int .i64 Za.sign
          | 28 => v = .agg #[.bool bx, .slice x.A x.n x.c]
          | 29 => v = .int .i64 Za.sign
          | 30 => v = .bool false
          | 31 => v = .bool false
          | 32 => v = .bool false
          | 33 => v = .agg #[.bool bx, .slice x.A x.n x.c]
          | 34 => v = .agg #[.bool by1, .slice y.A y.n y.c]
          | 35 => v = .int .i64 (cmpZ Za Zb)
          | 36 => v = .agg #[.bool bx, .slice x.A x.n x.c]
          | 37 => v = .agg #[.bool by1, .slice y.A y.n y.c]
          | 38 => v = .int .i64 (cmpZ Za Zb)
          | 39 => v = .bool false
          | 40 => v = .bool false
          | 41 => v = .bool false
          | 42 => v = .agg #[.bool bx, .slice x.A x.n x.c]
          | 43 => v = .agg #[.bool by1, .slice y.A y.n y.c]
          | 44 => v = .bool (decide (Za = Zb))
          | 45 => v = .agg #[.bool bx, .slice x.A x.n x.c]
          | 46 => v = .agg #[.bool by1, .slice y.A y.n y.c]
          | 47 => v = .bool (decide (Za = Zb))
          | 48 => v = .bool false
          | _ => v = .bool false) (fun V => Below W8.heap.size W8 V) (by kernel_rfl) (by kernel_rfl) rfl (by decide) (by first | (simp; done) | (simp; done)) (Below.refl _ _).drew ?_ ?_ ?_
      · intro i v V V2 hf hb _
        match i, hf with
        | 0, hf => exact hf
        | 1, hf => exact hf
        | 2, hf => exact hf
        | 3, hf => exact hf
        | 4, hf => exact hf
        | 5, hf => exact hf
        | 6, hf => exact hf
        | 7, hf => exact hf
        | 8, hf => exact hf
        | 9, hf => exact hf
        | 10, hf => exact hf
        | 11, hf => exact hf
        | 12, hf => exact hf
        | 13, hf => exact hf
        | 14, hf => exact hf
        | 15, hf => exact hf
        | 16, hf => exact hf
        | 17, hf => exact hf
        | 18, hf => exact hf
        | 19, hf => exact hf
        | 20, hf => exact hf
        | 21, hf => exact hf
        | 22, hf => exact hf
        | 23, hf => exact hf
        | 24, hf => exact hf
        | 25, hf => exact hf
        | 26, hf => exact hf
        | 27, hf => exact hf
        | 28, hf => exact hf
        | 29, hf => exact hf
        | 30, hf => exact hf
        | 31, hf => exact hf
        | 32, hf => exact hf
        | 33, hf => exact hf
        | 34, hf => exact hf
        | 35, hf => exact hf
        | 36, hf => exact hf
        | 37, hf => exact hf
        | 38, hf => exact hf
        | 39, hf => exact hf
        | 40, hf => exact hf
        | 41, hf => exact hf
        | 42, hf => exact hf
        | 43, hf => exact hf
        | 44, hf => exact hf
        | 45, hf => exact hf
        | 46, hf => exact hf
        | 47, hf => exact hf
        | 48, hf => exact hf
        | _ + 49, hf => exact hf
      · intro i t ht a V hC hF hd
        match i, ht with
        | 0, ht =>
          cases ht
          have h9 : a.tmps[9]?.getD undef = .int .i64 F := (hF.at_ 9 (by decide)).trans rfl
          exact step_value (v := .int .i64 F) rfl rfl (wanted_free rfl) (by go_simp) hC rfl
        | 1, ht =>
          cases ht
          have h11 : a.tmps[11]?.getD undef = .int .i64 F := (hF.at_ 11 (by decide)).trans rfl
          exact step_value (v := .int .i64 F) rfl rfl (wanted_free rfl) (by go_simp) hC rfl
        | 2, ht =>
          cases ht
          have h52 : a.tmps[52]?.getD undef = .int .i64 F := (slot_eq a 52).symm.trans (hd 0 52 rfl (by kernel_rfl))
          have h53 : a.tmps[53]?.getD undef = .int .i64 F := (slot_eq a 53).symm.trans (hd 1 53 rfl (by kernel_rfl))
          exact step_value (v := .bool false) rfl rfl (wanted_free rfl) (by go_simp) hC rfl
        | 3, ht =>
          cases ht
          have h54 : a.tmps[54]?.getD undef = .bool false := (slot_eq a 54).symm.trans (hd 2 54 rfl (by kernel_rfl))
          exact step_value (v := .bool false) rfl rfl (wanted_free rfl) (by go_simp) hC rfl
        | 4, ht =>
          cases ht
          have gk : a.tmps.getD 55 undef = .bool false := hd 3 55 rfl (by kernel_rfl)
          have h10 : a.tmps[10]?.getD undef = .bool B := (hF.at_ 10 (by decide)).trans rfl
          exact step_value (v := .bool B) rfl rfl ((wanted_if rfl rfl rfl gk).trans rfl) (by go_simp) hC rfl
        | 5, ht =>
          cases ht
          have gk : a.tmps.getD 55 undef = .bool false := hd 3 55 rfl (by kernel_rfl)
          have h12 : a.tmps[12]?.getD undef = .bool B := (hF.at_ 12 (by decide)).trans rfl
          exact step_value (v := .bool B) rfl rfl ((wanted_if rfl rfl rfl gk).trans rfl) (by go_simp) hC rfl
        | 6, ht =>
          cases ht
          have gk : a.tmps.getD 55 undef = .bool false := hd 3 55 rfl (by kernel_rfl)
          have h56 : a.tmps[56]?.getD undef = .bool B := (slot_eq a 56).symm.trans (hd 4 56 rfl (by kernel_rfl))
          have h57 : a.tmps[57]?.getD undef = .bool B := (slot_eq a 57).symm.trans (hd 5 57 rfl (by kernel_rfl))
          exact step_value (v := .bool false) rfl rfl ((wanted_if rfl rfl rfl gk).trans rfl) (by go_simp) hC rfl
        | 7, ht =>
          cases ht
          have h55 : a.tmps[55]?.getD undef = .bool false := (slot_eq a 55).symm.trans (hd 3 55 rfl (by kernel_rfl))
          have h58 : a.tmps[58]?.getD undef = .bool false := (slot_eq a 58).symm.trans (hd 6 58 rfl (by kernel_rfl))
          exact step_value (v := .bool false) rfl rfl (wanted_free rfl) (by go_simp) hC rfl
        | 8, ht =>
          cases ht
          have h59 : a.tmps[59]?.getD undef = .bool false := (slot_eq a 59).symm.trans (hd 7 59 rfl (by kernel_rfl))
          exact step_value (v := .bool false) rfl rfl (wanted_free rfl) (by go_simp) hC rfl
        | 9, ht =>
          cases ht
          have gk : a.tmps.getD 60 undef = .bool false := hd 8 60 rfl (by kernel_rfl)
          have h13 : a.tmps[13]?.getD undef = .pointer (some ⟨W5.heap.size, 0, none⟩) := (hF.at_ 13 (by decide)).trans rfl
          obtain ⟨c00, c01, -, -⟩ := (B3.out.below hC B3.out.lt).cells
          obtain ⟨c10, c11, -, -⟩ := (B4.out.below hC B4.out.lt).cells
          obtain ⟨c20, c21, -, -⟩ := (B13.out.below hC B13.out.lt).cells
          obtain ⟨c30, c31, -, -⟩ := (B14.out.below hC B14.out.lt).cells
          obtain ⟨c40, c41, -, -⟩ := (B16.out.below hC B16.out.lt).cells
          obtain ⟨c50, c51, -, -⟩ := (B17.out.below hC B17.out.lt).cells
          exact step_value (v := .agg #[.bool (decide (Q < 0)), .slice q.A q.n q.c]) rfl rfl ((wanted_if rfl rfl rfl gk).trans rfl) (by go_simp) hC rfl
        | 10, ht =>
          cases ht
          have gk : a.tmps.getD 60 undef = .bool false := hd 8 60 rfl (by kernel_rfl)
          have h16 : a.tmps[16]?.getD undef = .pointer (some ⟨W7.heap.size, 0, none⟩) := (hF.at_ 16 (by decide)).trans rfl
          obtain ⟨c00, c01, -, -⟩ := (B3.out.below hC B3.out.lt).cells
          obtain ⟨c10, c11, -, -⟩ := (B4.out.below hC B4.out.lt).cells
          obtain ⟨c20, c21, -, -⟩ := (B13.out.below hC B13.out.lt).cells
          obtain ⟨c30, c31, -, -⟩ := (B14.out.below hC B14.out.lt).cells
          obtain ⟨c40, c41, -, -⟩ := (B16.out.below hC B16.out.lt).cells
          obtain ⟨c50, c51, -, -⟩ := (B17.out.below hC B17.out.lt).cells
          exact step_value (v := .agg #[.bool (decide (Q < 0)), .slice q'.A q'.n q'.c]) rfl rfl ((wanted_if rfl rfl rfl gk).trans rfl) (by go_simp) hC rfl
        | 11, ht =>
          cases ht
          have gk : a.tmps.getD 60 undef = .bool false := hd 8 60 rfl (by kernel_rfl)
          have h61 : a.tmps[61]?.getD undef = .agg #[.bool (decide (Q < 0)), .slice q.A q.n q.c] := (slot_eq a 61).symm.trans (hd 9 61 rfl (by kernel_rfl))
          have h62 : a.tmps[62]?.getD undef = .agg #[.bool (decide (Q < 0)), .slice q'.A q'.n q'.c] := (slot_eq a 62).symm.trans (hd 10 62 rfl (by kernel_rfl))
          exact fz_same rfl rfl ((wanted_if rfl rfl rfl gk).trans rfl) (fun V2 hb => hC.trans (hb.mono hC.size)) rfl (call2_run ⟨_, rfl⟩ h61 h62 (enters_of Tryz.func10 (by kernel_rfl) rfl)) (show RepT Q (.agg #[.bool (decide (Q < 0)), .slice q.A q.n q.c]) V from ⟨q, rfl, qN.out, qn.out, (HE8.out.2 q (by simp)).later hC⟩) (show RepT Q (.agg #[.bool (decide (Q < 0)), .slice q'.A q'.n q'.c]) V from ⟨q', rfl, q'N.out, q'n.out, (HE8.out.2 q' (by simp)).later hC⟩) rfl (fun _ => rfl)
        | 12, ht =>
          cases ht
          have gk : a.tmps.getD 60 undef = .bool false := hd 8 60 rfl (by kernel_rfl)
          have h63 : a.tmps[63]?.getD undef = .bool true := (slot_eq a 63).symm.trans (hd 11 63 rfl (by kernel_rfl))
          exact step_value (v := .bool false) rfl rfl ((wanted_if rfl rfl rfl gk).trans rfl) (by go_simp) hC rfl
        | 13, ht =>
          cases ht
          have h60 : a.tmps[60]?.getD undef = .bool false := (slot_eq a 60).symm.trans (hd 8 60 rfl (by kernel_rfl))
          have h64 : a.tmps[64]?.getD undef = .bool false := (slot_eq a 64).symm.trans (hd 12 64 rfl (by kernel_rfl))
          exact step_value (v := .bool false) rfl rfl (wanted_free rfl) (by go_simp) hC rfl
        | 14, ht =>
          cases ht
          have h65 : a.tmps[65]?.getD undef = .bool false := (slot_eq a 65).symm.trans (hd 13 65 rfl (by kernel_rfl))
          exact step_value (v := .bool false) rfl rfl (wanted_free rfl) (by go_simp) hC rfl
        | 15, ht =>
          cases ht
          have gk : a.tmps.getD 66 undef = .bool false := hd 14 66 rfl (by kernel_rfl)
          have h14 : a.tmps[14]?.getD undef = .pointer (some ⟨W5.heap.size + 1, 0, none⟩) := (hF.at_ 14 (by decide)).trans rfl
          obtain ⟨c00, c01, -, -⟩ := (B3.out.below hC B3.out.lt).cells
          obtain ⟨c10, c11, -, -⟩ := (B4.out.below hC B4.out.lt).cells
          obtain ⟨c20, c21, -, -⟩ := (B13.out.below hC B13.out.lt).cells
          obtain ⟨c30, c31, -, -⟩ := (B14.out.below hC B14.out.lt).cells
          obtain ⟨c40, c41, -, -⟩ := (B16.out.below hC B16.out.lt).cells
          obtain ⟨c50, c51, -, -⟩ := (B17.out.below hC B17.out.lt).cells
          exact step_value (v := .agg #[.bool (decide (R < 0)), .slice r.A r.n r.c]) rfl rfl ((wanted_if rfl rfl rfl gk).trans rfl) (by go_simp) hC rfl
        | 16, ht =>
          cases ht
          have gk : a.tmps.getD 66 undef = .bool false := hd 14 66 rfl (by kernel_rfl)
          have h17 : a.tmps[17]?.getD undef = .pointer (some ⟨W7.heap.size + 1, 0, none⟩) := (hF.at_ 17 (by decide)).trans rfl
          obtain ⟨c00, c01, -, -⟩ := (B3.out.below hC B3.out.lt).cells
          obtain ⟨c10, c11, -, -⟩ := (B4.out.below hC B4.out.lt).cells
          obtain ⟨c20, c21, -, -⟩ := (B13.out.below hC B13.out.lt).cells
          obtain ⟨c30, c31, -, -⟩ := (B14.out.below hC B14.out.lt).cells
          obtain ⟨c40, c41, -, -⟩ := (B16.out.below hC B16.out.lt).cells
          obtain ⟨c50, c51, -, -⟩ := (B17.out.below hC B17.out.lt).cells
          exact step_value (v := .agg #[.bool (decide (R < 0)), .slice r'.A r'.n r'.c]) rfl rfl ((wanted_if rfl rfl rfl gk).trans rfl) (by go_simp) hC rfl
        | 17, ht =>
          cases ht
          have gk : a.tmps.getD 66 undef = .bool false := hd 14 66 rfl (by kernel_rfl)
          have h67 : a.tmps[67]?.getD undef = .agg #[.bool (decide (R < 0)), .slice r.A r.n r.c] := (slot_eq a 67).symm.trans (hd 15 67 rfl (by kernel_rfl))
          have h68 : a.tmps[68]?.getD undef = .agg #[.bool (decide (R < 0)), .slice r'.A r'.n r'.c] := (slot_eq a 68).symm.trans (hd 16 68 rfl (by kernel_rfl))
          exact fz_same rfl rfl ((wanted_if rfl rfl rfl gk).trans rfl) (fun V2 hb => hC.trans (hb.mono hC.size)) rfl (call2_run ⟨_, rfl⟩ h67 h68 (enters_of Tryz.func10 (by kernel_rfl) rfl)) (show RepT R (.agg #[.bool (decide (R < 0)), .slice r.A r.n r.c]) V from ⟨r, rfl, rN.out, rn.out, (HE8.out.2 r (by simp)).later hC⟩) (show RepT R (.agg #[.bool (decide (R < 0)), .slice r'.A r'.n r'.c]) V from ⟨r', rfl, r'N.out, r'n.out, (HE8.out.2 r' (by simp)).later hC⟩) rfl (fun _ => rfl)
        | 18, ht =>
          cases ht
          have gk : a.tmps.getD 66 undef = .bool false := hd 14 66 rfl (by kernel_rfl)
          have h69 : a.tmps[69]?.getD undef = .bool true := (slot_eq a 69).symm.trans (hd 17 69 rfl (by kernel_rfl))
          exact step_value (v := .bool false) rfl rfl ((wanted_if rfl rfl rfl gk).trans rfl) (by go_simp) hC rfl
        | 19, ht =>
          cases ht
          have h66 : a.tmps[66]?.getD undef = .bool false := (slot_eq a 66).symm.trans (hd 14 66 rfl (by kernel_rfl))
          have h70 : a.tmps[70]?.getD undef = .bool false := (slot_eq a 70).symm.trans (hd 18 70 rfl (by kernel_rfl))
          exact step_value (v := .bool false) rfl rfl (wanted_free rfl) (by go_simp) hC rfl
        | 20, ht =>
          cases ht
          have h71 : a.tmps[71]?.getD undef = .bool false := (slot_eq a 71).symm.trans (hd 19 71 rfl (by kernel_rfl))
          exact step_value (v := .bool false) rfl rfl (wanted_free rfl) (by go_simp) hC rfl
        | 21, ht =>
          cases ht
          have gk : a.tmps.getD 72 undef = .bool false := hd 20 72 rfl (by kernel_rfl)
          have h15 : a.tmps[15]?.getD undef = .int .i64 E := (hF.at_ 15 (by decide)).trans rfl
          exact step_value (v := .int .i64 E) rfl rfl ((wanted_if rfl rfl rfl gk).trans rfl) (by go_simp) hC rfl
        | 22, ht =>
          cases ht
          have gk : a.tmps.getD 72 undef = .bool false := hd 20 72 rfl (by kernel_rfl)
          have h18 : a.tmps[18]?.getD undef = .int .i64 E := (hF.at_ 18 (by decide)).trans rfl
          exact step_value (v := .int .i64 E) rfl rfl ((wanted_if rfl rfl rfl gk).trans rfl) (by go_simp) hC rfl
        | 23, ht =>
          cases ht
          have gk : a.tmps.getD 72 undef = .bool false := hd 20 72 rfl (by kernel_rfl)
          have h73 : a.tmps[73]?.getD undef = .int .i64 E := (slot_eq a 73).symm.trans (hd 21 73 rfl (by kernel_rfl))
          have h74 : a.tmps[74]?.getD undef = .int .i64 E := (slot_eq a 74).symm.trans (hd 22 74 rfl (by kernel_rfl))
          exact step_value (v := .bool false) rfl rfl ((wanted_if rfl rfl rfl gk).trans rfl) (by go_simp) hC rfl
        | 24, ht =>
          cases ht
          have h72 : a.tmps[72]?.getD undef = .bool false := (slot_eq a 72).symm.trans (hd 20 72 rfl (by kernel_rfl))
          have h75 : a.tmps[75]?.getD undef = .bool false := (slot_eq a 75).symm.trans (hd 23 75 rfl (by kernel_rfl))
          exact step_value (v := .bool false) rfl rfl (wanted_free rfl) (by go_simp) hC rfl
        | 25, ht =>
          cases ht
          have h76 : a.tmps[76]?.getD undef = .bool false := (slot_eq a 76).symm.trans (hd 24 76 rfl (by kernel_rfl))
          exact step_value (v := .bool false) rfl rfl (wanted_free rfl) (by go_simp) hC rfl
        | 26, ht =>
          cases ht
          have gk : a.tmps.getD 77 undef = .bool false := hd 25 77 rfl (by kernel_rfl)
          have h4 : a.tmps[4]?.getD undef = .pointer (some ⟨w.heap.size, 0, none⟩) := (hF.at_ 4 (by decide)).trans rfl
          obtain ⟨c00, c01, -, -⟩ := (B3.out.below hC B3.out.lt).cells
          obtain ⟨c10, c11, -, -⟩ := (B4.out.below hC B4.out.lt).cells
          obtain ⟨c20, c21, -, -⟩ := (B13.out.below hC B13.out.lt).cells
          obtain ⟨c30, c31, -, -⟩ := (B14.out.below hC B14.out.lt).cells
          obtain ⟨c40, c41, -, -⟩ := (B16.out.below hC B16.out.lt).cells
          obtain ⟨c50, c51, -, -⟩ := (B17.out.below hC B17.out.lt).cells
          exact step_value (v := .agg #[.bool bx, .slice x.A x.n x.c]) rfl rfl ((wanted_if rfl rfl rfl gk).trans rfl) (by go_simp) hC rfl
        | 27, ht =>
          cases ht
          have gk : a.tmps.getD 77 undef = .bool false := hd 25 77 rfl (by kernel_rfl)
          have h78 : a.tmps[78]?.getD undef = .agg #[.bool bx, .slice x.A x.n x.c] := (slot_eq a 78).symm.trans (hd 26 78 rfl (by kernel_rfl))
          exact fz_say rfl rfl ((wanted_if rfl rfl rfl gk).trans rfl) (fun V2 hb => hC.trans (hb.mono hC.size)) (S8.later hC).sign (call1_run ⟨_, rfl⟩ h78 (enters_of Tryz.func11 (by kernel_rfl) rfl)) (RA.out V hC) rfl (fun _ => rfl)
        | 28, ht =>
          cases ht
          have gk : a.tmps.getD 77 undef = .bool false := hd 25 77 rfl (by kernel_rfl)
          have h4 : a.tmps[4]?.getD undef = .pointer (some ⟨w.heap.size, 0, none⟩) := (hF.at_ 4 (by decide)).trans rfl
          obtain ⟨c00, c01, -, -⟩ := (B3.out.below hC B3.out.lt).cells
          obtain ⟨c10, c11, -, -⟩ := (B4.out.below hC B4.out.lt).cells
          obtain ⟨c20, c21, -, -⟩ := (B13.out.below hC B13.out.lt).cells
          obtain ⟨c30, c31, -, -⟩ := (B14.out.below hC B14.out.lt).cells
          obtain ⟨c40, c41, -, -⟩ := (B16.out.below hC B16.out.lt).cells
          obtain ⟨c50, c51, -, -⟩ := (B17.out.below hC B17.out.lt).cells
          exact step_value (v := .agg #[.bool bx, .slice x.A x.n x.c]) rfl rfl ((wanted_if rfl rfl rfl gk).trans rfl) (by go_simp) hC rfl
        | 29, ht =>
          cases ht
          have gk : a.tmps.getD 77 undef = .bool false := hd 25 77 rfl (by kernel_rfl)
          have h80 : a.tmps[80]?.getD undef = .agg #[.bool bx, .slice x.A x.n x.c] := (slot_eq a 80).symm.trans (hd 28 80 rfl (by kernel_rfl))
          refine step_call rfl rfl ((wanted_if rfl rfl rfl gk).trans rfl) (call1_run ⟨_, rfl⟩ h80 (enters_of Tryz.func12 (by kernel_rfl) rfl)) ((rSign5_E (w := V) (W := V) (e := [x]) (x := x) (b := bx) (Z := Za) (Env.start (by simp only [List.mem_singleton, forall_eq]; exact OX.out V hC)) (by simp) HZ.out.1).mono ?_)
          rintro e2 V2 ⟨rfl, hE2⟩
          exact ⟨_, rfl, rfl, hE2.1, hC.trans (hE2.1.mono hC.size)⟩
        | 30, ht =>
          cases ht
          have gk : a.tmps.getD 77 undef = .bool false := hd 25 77 rfl (by kernel_rfl)
          have h79 : a.tmps[79]?.getD undef = .int .i64 Za.sign := (slot_eq a 79).symm.trans (hd 27 79 rfl (by kernel_rfl))
          have h81 : a.tmps[81]?.getD undef = .int .i64 Za.sign := (slot_eq a 81).symm.trans (hd 29 81 rfl (by kernel_rfl))
          exact step_value (v := .bool false) rfl rfl ((wanted_if rfl rfl rfl gk).trans rfl) (by go_simp) hC rfl
        | 31, ht =>
          cases ht
          have h77 : a.tmps[77]?.getD undef = .bool false := (slot_eq a 77).symm.trans (hd 25 77 rfl (by kernel_rfl))
          have h82 : a.tmps[82]?.getD undef = .bool false := (slot_eq a 82).symm.trans (hd 30 82 rfl (by kernel_rfl))
          exact step_value (v := .bool false) rfl rfl (wanted_free rfl) (by go_simp) hC rfl
        | 32, ht =>
          cases ht
          have h83 : a.tmps[83]?.getD undef = .bool false := (slot_eq a 83).symm.trans (hd 31 83 rfl (by kernel_rfl))
          exact step_value (v := .bool false) rfl rfl (wanted_free rfl) (by go_simp) hC rfl
        | 33, ht =>
          cases ht
          have gk : a.tmps.getD 84 undef = .bool false := hd 32 84 rfl (by kernel_rfl)
          have h4 : a.tmps[4]?.getD undef = .pointer (some ⟨w.heap.size, 0, none⟩) := (hF.at_ 4 (by decide)).trans rfl
          obtain ⟨c00, c01, -, -⟩ := (B3.out.below hC B3.out.lt).cells
          obtain ⟨c10, c11, -, -⟩ := (B4.out.below hC B4.out.lt).cells
          obtain ⟨c20, c21, -, -⟩ := (B13.out.below hC B13.out.lt).cells
          obtain ⟨c30, c31, -, -⟩ := (B14.out.below hC B14.out.lt).cells
          obtain ⟨c40, c41, -, -⟩ := (B16.out.below hC B16.out.lt).cells
          obtain ⟨c50, c51, -, -⟩ := (B17.out.below hC B17.out.lt).cells
          exact step_value (v := .agg #[.bool bx, .slice x.A x.n x.c]) rfl rfl ((wanted_if rfl rfl rfl gk).trans rfl) (by go_simp) hC rfl
        | 34, ht =>
          cases ht
          have gk : a.tmps.getD 84 undef = .bool false := hd 32 84 rfl (by kernel_rfl)
          have h5 : a.tmps[5]?.getD undef = .pointer (some ⟨w.heap.size + 1, 0, none⟩) := (hF.at_ 5 (by decide)).trans rfl
          obtain ⟨c00, c01, -, -⟩ := (B3.out.below hC B3.out.lt).cells
          obtain ⟨c10, c11, -, -⟩ := (B4.out.below hC B4.out.lt).cells
          obtain ⟨c20, c21, -, -⟩ := (B13.out.below hC B13.out.lt).cells
          obtain ⟨c30, c31, -, -⟩ := (B14.out.below hC B14.out.lt).cells
          obtain ⟨c40, c41, -, -⟩ := (B16.out.below hC B16.out.lt).cells
          obtain ⟨c50, c51, -, -⟩ := (B17.out.below hC B17.out.lt).cells
          exact step_value (v := .agg #[.bool by1, .slice y.A y.n y.c]) rfl rfl ((wanted_if rfl rfl rfl gk).trans rfl) (by go_simp) hC rfl
        | 35, ht =>
          cases ht
          have gk : a.tmps.getD 84 undef = .bool false := hd 32 84 rfl (by kernel_rfl)
          have h85 : a.tmps[85]?.getD undef = .agg #[.bool bx, .slice x.A x.n x.c] := (slot_eq a 85).symm.trans (hd 33 85 rfl (by kernel_rfl))
          have h86 : a.tmps[86]?.getD undef = .agg #[.bool by1, .slice y.A y.n y.c] := (slot_eq a 86).symm.trans (hd 34 86 rfl (by kernel_rfl))
          exact fz_say2 rfl rfl ((wanted_if rfl rfl rfl gk).trans rfl) (fun V2 hb => hC.trans (hb.mono hC.size)) (S8.later hC).cmp (call2_run ⟨_, rfl⟩ h85 h86 (enters_of Tryz.func13 (by kernel_rfl) rfl)) (RA.out V hC) (RB.out V hC) rfl (fun _ => rfl)
        | 36, ht =>
          cases ht
          have gk : a.tmps.getD 84 undef = .bool false := hd 32 84 rfl (by kernel_rfl)
          have h4 : a.tmps[4]?.getD undef = .pointer (some ⟨w.heap.size, 0, none⟩) := (hF.at_ 4 (by decide)).trans rfl
          obtain ⟨c00, c01, -, -⟩ := (B3.out.below hC B3.out.lt).cells
          obtain ⟨c10, c11, -, -⟩ := (B4.out.below hC B4.out.lt).cells
          obtain ⟨c20, c21, -, -⟩ := (B13.out.below hC B13.out.lt).cells
          obtain ⟨c30, c31, -, -⟩ := (B14.out.below hC B14.out.lt).cells
          obtain ⟨c40, c41, -, -⟩ := (B16.out.below hC B16.out.lt).cells
          obtain ⟨c50, c51, -, -⟩ := (B17.out.below hC B17.out.lt).cells
          exact step_value (v := .agg #[.bool bx, .slice x.A x.n x.c]) rfl rfl ((wanted_if rfl rfl rfl gk).trans rfl) (by go_simp) hC rfl
        | 37, ht =>
          cases ht
          have gk : a.tmps.getD 84 undef = .bool false := hd 32 84 rfl (by kernel_rfl)
          have h5 : a.tmps[5]?.getD undef = .pointer (some ⟨w.heap.size + 1, 0, none⟩) := (hF.at_ 5 (by decide)).trans rfl
          obtain ⟨c00, c01, -, -⟩ := (B3.out.below hC B3.out.lt).cells
          obtain ⟨c10, c11, -, -⟩ := (B4.out.below hC B4.out.lt).cells
          obtain ⟨c20, c21, -, -⟩ := (B13.out.below hC B13.out.lt).cells
          obtain ⟨c30, c31, -, -⟩ := (B14.out.below hC B14.out.lt).cells
          obtain ⟨c40, c41, -, -⟩ := (B16.out.below hC B16.out.lt).cells
          obtain ⟨c50, c51, -, -⟩ := (B17.out.below hC B17.out.lt).cells
          exact step_value (v := .agg #[.bool by1, .slice y.A y.n y.c]) rfl rfl ((wanted_if rfl rfl rfl gk).trans rfl) (by go_simp) hC rfl
        | 38, ht =>
          cases ht
          have gk : a.tmps.getD 84 undef = .bool false := hd 32 84 rfl (by kernel_rfl)
          have h88 : a.tmps[88]?.getD undef = .agg #[.bool bx, .slice x.A x.n x.c] := (slot_eq a 88).symm.trans (hd 36 88 rfl (by kernel_rfl))
          have h89 : a.tmps[89]?.getD undef = .agg #[.bool by1, .slice y.A y.n y.c] := (slot_eq a 89).symm.trans (hd 37 89 rfl (by kernel_rfl))
          refine step_call rfl rfl ((wanted_if rfl rfl rfl gk).trans rfl) (call2_run ⟨_, rfl⟩ h88 h89 (enters_of Tryz.func14 (by kernel_rfl) rfl)) ((rCmp5_E (w := V) (W := V) (e := [x, y]) (x := x) (y := y) (b := bx) (b' := by1) (Z := Za) (Z' := Zb) (Env.start (by have hx9 := OX.out V hC; have hy9 := OY.out V hC; simp [hx9, hy9])) (by simp) (by simp) (by have := HXY.out.1; omega) (by have := HXY.out.2; omega) HZ.out.1 HZ.out.2).mono ?_)
          rintro e2 V2 ⟨rfl, hE2⟩
          exact ⟨_, rfl, rfl, hE2.1, hC.trans (hE2.1.mono hC.size)⟩
        | 39, ht =>
          cases ht
          have gk : a.tmps.getD 84 undef = .bool false := hd 32 84 rfl (by kernel_rfl)
          have h87 : a.tmps[87]?.getD undef = .int .i64 (cmpZ Za Zb) := (slot_eq a 87).symm.trans (hd 35 87 rfl (by kernel_rfl))
          have h90 : a.tmps[90]?.getD undef = .int .i64 (cmpZ Za Zb) := (slot_eq a 90).symm.trans (hd 38 90 rfl (by kernel_rfl))
          exact step_value (v := .bool false) rfl rfl ((wanted_if rfl rfl rfl gk).trans rfl) (by go_simp) hC rfl
        | 40, ht =>
          cases ht
          have h84 : a.tmps[84]?.getD undef = .bool false := (slot_eq a 84).symm.trans (hd 32 84 rfl (by kernel_rfl))
          have h91 : a.tmps[91]?.getD undef = .bool false := (slot_eq a 91).symm.trans (hd 39 91 rfl (by kernel_rfl))
          exact step_value (v := .bool false) rfl rfl (wanted_free rfl) (by go_simp) hC rfl
        | 41, ht =>
          cases ht
          have h92 : a.tmps[92]?.getD undef = .bool false := (slot_eq a 92).symm.trans (hd 40 92 rfl (by kernel_rfl))
          exact step_value (v := .bool false) rfl rfl (wanted_free rfl) (by go_simp) hC rfl
        | 42, ht =>
          cases ht
          have gk : a.tmps.getD 93 undef = .bool false := hd 41 93 rfl (by kernel_rfl)
          have h4 : a.tmps[4]?.getD undef = .pointer (some ⟨w.heap.size, 0, none⟩) := (hF.at_ 4 (by decide)).trans rfl
          obtain ⟨c00, c01, -, -⟩ := (B3.out.below hC B3.out.lt).cells
          obtain ⟨c10, c11, -, -⟩ := (B4.out.below hC B4.out.lt).cells
          obtain ⟨c20, c21, -, -⟩ := (B13.out.below hC B13.out.lt).cells
          obtain ⟨c30, c31, -, -⟩ := (B14.out.below hC B14.out.lt).cells
          obtain ⟨c40, c41, -, -⟩ := (B16.out.below hC B16.out.lt).cells
          obtain ⟨c50, c51, -, -⟩ := (B17.out.below hC B17.out.lt).cells
          exact step_value (v := .agg #[.bool bx, .slice x.A x.n x.c]) rfl rfl ((wanted_if rfl rfl rfl gk).trans rfl) (by go_simp) hC rfl
        | 43, ht =>
          cases ht
          have gk : a.tmps.getD 93 undef = .bool false := hd 41 93 rfl (by kernel_rfl)
          have h5 : a.tmps[5]?.getD undef = .pointer (some ⟨w.heap.size + 1, 0, none⟩) := (hF.at_ 5 (by decide)).trans rfl
          obtain ⟨c00, c01, -, -⟩ := (B3.out.below hC B3.out.lt).cells
          obtain ⟨c10, c11, -, -⟩ := (B4.out.below hC B4.out.lt).cells
          obtain ⟨c20, c21, -, -⟩ := (B13.out.below hC B13.out.lt).cells
          obtain ⟨c30, c31, -, -⟩ := (B14.out.below hC B14.out.lt).cells
          obtain ⟨c40, c41, -, -⟩ := (B16.out.below hC B16.out.lt).cells
          obtain ⟨c50, c51, -, -⟩ := (B17.out.below hC B17.out.lt).cells
          exact step_value (v := .agg #[.bool by1, .slice y.A y.n y.c]) rfl rfl ((wanted_if rfl rfl rfl gk).trans rfl) (by go_simp) hC rfl
        | 44, ht =>
          cases ht
          have gk : a.tmps.getD 93 undef = .bool false := hd 41 93 rfl (by kernel_rfl)
          have h94 : a.tmps[94]?.getD undef = .agg #[.bool bx, .slice x.A x.n x.c] := (slot_eq a 94).symm.trans (hd 42 94 rfl (by kernel_rfl))
          have h95 : a.tmps[95]?.getD undef = .agg #[.bool by1, .slice y.A y.n y.c] := (slot_eq a 95).symm.trans (hd 43 95 rfl (by kernel_rfl))
          exact fz_say2 rfl rfl ((wanted_if rfl rfl rfl gk).trans rfl) (fun V2 hb => hC.trans (hb.mono hC.size)) (S8.later hC).same (call2_run ⟨_, rfl⟩ h94 h95 (enters_of Tryz.func15 (by kernel_rfl) rfl)) (RA.out V hC) (RB.out V hC) rfl (fun _ => rfl)
        | 45, ht =>
          cases ht
          have gk : a.tmps.getD 93 undef = .bool false := hd 41 93 rfl (by kernel_rfl)
          have h4 : a.tmps[4]?.getD undef = .pointer (some ⟨w.heap.size, 0, none⟩) := (hF.at_ 4 (by decide)).trans rfl
          obtain ⟨c00, c01, -, -⟩ := (B3.out.below hC B3.out.lt).cells
          obtain ⟨c10, c11, -, -⟩ := (B4.out.below hC B4.out.lt).cells
          obtain ⟨c20, c21, -, -⟩ := (B13.out.below hC B13.out.lt).cells
          obtain ⟨c30, c31, -, -⟩ := (B14.out.below hC B14.out.lt).cells
          obtain ⟨c40, c41, -, -⟩ := (B16.out.below hC B16.out.lt).cells
          obtain ⟨c50, c51, -, -⟩ := (B17.out.below hC B17.out.lt).cells
          exact step_value (v := .agg #[.bool bx, .slice x.A x.n x.c]) rfl rfl ((wanted_if rfl rfl rfl gk).trans rfl) (by go_simp) hC rfl
        | 46, ht =>
          cases ht
          have gk : a.tmps.getD 93 undef = .bool false := hd 41 93 rfl (by kernel_rfl)
          have h5 : a.tmps[5]?.getD undef = .pointer (some ⟨w.heap.size + 1, 0, none⟩) := (hF.at_ 5 (by decide)).trans rfl
          obtain ⟨c00, c01, -, -⟩ := (B3.out.below hC B3.out.lt).cells
          obtain ⟨c10, c11, -, -⟩ := (B4.out.below hC B4.out.lt).cells
          obtain ⟨c20, c21, -, -⟩ := (B13.out.below hC B13.out.lt).cells
          obtain ⟨c30, c31, -, -⟩ := (B14.out.below hC B14.out.lt).cells
          obtain ⟨c40, c41, -, -⟩ := (B16.out.below hC B16.out.lt).cells
          obtain ⟨c50, c51, -, -⟩ := (B17.out.below hC B17.out.lt).cells
          exact step_value (v := .agg #[.bool by1, .slice y.A y.n y.c]) rfl rfl ((wanted_if rfl rfl rfl gk).trans rfl) (by go_simp) hC rfl
        | 47, ht =>
          cases ht
          have gk : a.tmps.getD 93 undef = .bool false := hd 41 93 rfl (by kernel_rfl)
          have h97 : a.tmps[97]?.getD undef = .agg #[.bool bx, .slice x.A x.n x.c] := (slot_eq a 97).symm.trans (hd 45 97 rfl (by kernel_rfl))
          have h98 : a.tmps[98]?.getD undef = .agg #[.bool by1, .slice y.A y.n y.c] := (slot_eq a 98).symm.trans (hd 46 98 rfl (by kernel_rfl))
          refine step_call rfl rfl ((wanted_if rfl rfl rfl gk).trans rfl) (call2_run ⟨_, rfl⟩ h97 h98 (enters_of Tryz.func16 (by kernel_rfl) rfl)) ((rSame5_E (w := V) (W := V) (e := [x, y]) (x := x) (y := y) (b := bx) (b' := by1) (Z := Za) (Z' := Zb) (Env.start (by have hx9 := OX.out V hC; have hy9 := OY.out V hC; simp [hx9, hy9])) (by simp) (by simp) (by have := HXY.out.1; omega) (by have := HXY.out.2; omega) HZ.out.1 HZ.out.2).mono ?_)
          rintro e2 V2 ⟨rfl, hE2⟩
          exact ⟨_, rfl, rfl, hE2.1, hC.trans (hE2.1.mono hC.size)⟩
        | 48, ht =>
          cases ht
          have gk : a.tmps.getD 93 undef = .bool false := hd 41 93 rfl (by kernel_rfl)
          have h96 : a.tmps[96]?.getD undef = .bool (decide (Za = Zb)) := (slot_eq a 96).symm.trans (hd 44 96 rfl (by kernel_rfl))
          have h99 : a.tmps[99]?.getD undef = .bool (decide (Za = Zb)) := (slot_eq a 99).symm.trans (hd 47 99 rfl (by kernel_rfl))
          exact step_value (v := .bool false) rfl rfl ((wanted_if rfl rfl rfl gk).trans rfl) (by go_simp) hC rfl
        | 49, ht =>
          cases ht
          have h93 : a.tmps[93]?.getD undef = .bool false := (slot_eq a 93).symm.trans (hd 41 93 rfl (by kernel_rfl))
          have h100 : a.tmps[100]?.getD undef = .bool false := (slot_eq a 100).symm.trans (hd 48 100 rfl (by kernel_rfl))
          exact step_value (v := .bool false) rfl rfl (wanted_free rfl) (by go_simp) hC rfl
        | k + 50, ht => simp at ht
      · intro a7 V7 hC hF hf
        have e2 : a7.tmps[2]?.getD undef = .slice A l.length c := (hF.at_ 2 (by decide)).trans rfl
        have e3 : a7.tmps[3]?.getD undef = .int .i64 n := (hF.at_ 3 (by decide)).trans rfl
        have e4 : a7.tmps[4]?.getD undef = .pointer (some ⟨w.heap.size, 0, none⟩) := (hF.at_ 4 (by decide)).trans rfl
        have e5 : a7.tmps[5]?.getD undef = .pointer (some ⟨w.heap.size + 1, 0, none⟩) := (hF.at_ 5 (by decide)).trans rfl
        have hdf : a7.defers = [] := hF.defers
        have HSZ := Lib.hid (show a7.tmps.size = 147 from hF.size)
        have fc : a7.tmps[101]?.getD undef = .bool false := (slot_eq a7 101).symm.trans (hf 49 101 rfl)
        replace B3 := Lib.hid (B3.out.below hC B3.out.lt)
        replace B4 := Lib.hid (B4.out.below hC B4.out.lt)
        have S9 := S8.later hC
        replace HW := Lib.hid (HW.out.trans (hC.mono HW.out.size))
        replace OX := Lib.hid (fun V (hb : Below V7.heap.size V7 V) => OX.out V (hC.trans (hb.mono hC.size)))
        replace OY := Lib.hid (fun V (hb : Below V7.heap.size V7 V) => OY.out V (hC.trans (hb.mono hC.size)))
        replace RA := Lib.hid (fun V (hb : Below V7.heap.size V7 V) => RA.out V (hC.trans (hb.mono hC.size)))
        replace RB := Lib.hid (fun V (hb : Below V7.heap.size V7 V) => RB.out V (hC.trans (hb.mono hC.size)))
        have ROW7 := Lib.hid (fun V (hb : Below V7.heap.size V7 V) => ROW.out V (HW.out.trans (hb.mono HW.out.size)))
        clear hf hF hC
        show wpList _ _ _ [] a7 V7
        go_wp2
        refine wp_cond_false ((slot_eq a7 101).trans fc) ?_
        clear fc
        go_wp2
        refine wp_region_facts 45 [102, 103, 104, 105, 106, 107, 108, 109, 110, 111, 112, 113, 114, 115, 116, 117, 118, 119, 120, 121, 122, 123, 124, 125, 126, 127, 128, 129, 130, 131, 132, 133, 134, 135, 136, 137, 138, 139, 140, 141, 142, 143, 144, 145, 146] (fun i v V => match i with
            | 0 => v = .int .i64 n
            | 1 => RepT n v V
            | 2 => v = .int .i64 n
            | 3 => RepT n v V
            | 4 => v = .bool true
            | 5 => v = .bool true
            | 6 => v = .agg #[.bool bx, .slice x.A x.n x.c]
            | 7 => RepT Za v V
            | 8 => v = .agg #[.bool bx, .slice x.A x.n x.c]
            | 9 => RepT Za v V
            | 10 => v = .bool true
            | 11 => v = .bool true
            | 12 => v = .bool true
            | 13 => v = .agg #[.bool bx, .slice x.A x.n x.c]
            | 14 => RepT (-Za) v V
            | 15 => v = .agg #[.bool bx, .slice x.A x.n x.c]
            | 16 => RepT (-Za) v V
            | 17 => v = .bool true
            | 18 => v = .bool true
            | 19 => v = .bool true
            | 20 => v = .slice A l.length c
            | 21 => RepT (sumZ l) v V
            | 22 => v = .slice A l.length c
            | 23 => RepT (sumZ l) v V
            | 24 => v = .bool true
            | 25 => v = .bool true
            | 26 => v = .bool true
            | 27 => v = .slice A l.length c
            | 28 => RepT (prodZ l) v V
            | 29 => v = .slice A l.length c
            | 30 => RepT (prodZ l) v V
            | 31 => v = .bool true
            | 32 => v = .bool true
            | 33 => v = .bool true
            | 34 => v = .agg #[.bool bx, .slice x.A x.n x.c]
            | 35 => v = .agg #[.bool by1, .slice y.A y.n y.c]
            | 36 => RepT (Za - Zb) v V
            | 37 => v = .agg #[.bool bx, .slice x.A x.n x.c]
            | 38 => v = .agg #[.bool by1, .slice y.A y.n y.c]
            | 39 => RepT (Za - Zb) v V
            | 40 => v = .bool true
            | 41 => v = .bool true
            | 42 => v = .bool true
            | 43 => v = .bool true
            | _ => v = .bool true) (fun V => Below V7.heap.size V7 V) (by kernel_rfl) (by kernel_rfl) rfl (by decide) (by first | (simp; done) | (rw [HSZ.out]; decide)) (Below.refl _ _).drew ?_ ?_ ?_
        · intro i v V V2 hf hb _
          match i, hf with
          | 0, hf => exact hf
          | 1, hf => exact RepT.keep hf hb
          | 2, hf => exact hf
          | 3, hf => exact RepT.keep hf hb
          | 4, hf => exact hf
          | 5, hf => exact hf
          | 6, hf => exact hf
          | 7, hf => exact RepT.keep hf hb
          | 8, hf => exact hf
          | 9, hf => exact RepT.keep hf hb
          | 10, hf => exact hf
          | 11, hf => exact hf
          | 12, hf => exact hf
          | 13, hf => exact hf
          | 14, hf => exact RepT.keep hf hb
          | 15, hf => exact hf
          | 16, hf => exact RepT.keep hf hb
          | 17, hf => exact hf
          | 18, hf => exact hf
          | 19, hf => exact hf
          | 20, hf => exact hf
          | 21, hf => exact RepT.keep hf hb
          | 22, hf => exact hf
          | 23, hf => exact RepT.keep hf hb
          | 24, hf => exact hf
          | 25, hf => exact hf
          | 26, hf => exact hf
          | 27, hf => exact hf
          | 28, hf => exact RepT.keep hf hb
          | 29, hf => exact hf
          | 30, hf => exact RepT.keep hf hb
          | 31, hf => exact hf
          | 32, hf => exact hf
          | 33, hf => exact hf
          | 34, hf => exact hf
          | 35, hf => exact hf
          | 36, hf => exact RepT.keep hf hb
          | 37, hf => exact hf
          | 38, hf => exact hf
          | 39, hf => exact RepT.keep hf hb
          | 40, hf => exact hf
          | 41, hf => exact hf
          | 42, hf => exact hf
          | 43, hf => exact hf
          | _ + 44, hf => exact hf
        · intro i t ht a V hC hF hd
          match i, ht with
          | 0, ht =>
            cases ht
            have h3 : a.tmps[3]?.getD undef = .int .i64 n := (hF.at_ 3 (by decide)).trans e3
            exact step_value (v := .int .i64 n) rfl rfl (wanted_free rfl) (by go_simp) hC rfl
          | 1, ht =>
            cases ht
            have h102 : a.tmps[102]?.getD undef = .int .i64 n := (slot_eq a 102).symm.trans (hd 0 102 rfl (by kernel_rfl))
            refine step_call rfl rfl (wanted_free rfl) (call1_run ⟨_, rfl⟩ h102 (enters_of Tryz.func17 (by kernel_rfl) rfl)) (((S9.later hC).of V V [] n (Below.refl _ _) (Env.start (by simp)) HN.out).mono ?_)
            rintro e2 V2 ⟨u, rfl, u1, u2, hE2⟩
            exact ⟨_, rfl, ⟨u, rfl, u1, u2, hE2.2 u (by simp)⟩, hE2.1, hC.trans (hE2.1.mono hC.size)⟩
          | 2, ht =>
            cases ht
            have h3 : a.tmps[3]?.getD undef = .int .i64 n := (hF.at_ 3 (by decide)).trans e3
            exact step_value (v := .int .i64 n) rfl rfl (wanted_free rfl) (by go_simp) hC rfl
          | 3, ht =>
            cases ht
            have h104 : a.tmps[104]?.getD undef = .int .i64 n := (slot_eq a 104).symm.trans (hd 2 104 rfl (by kernel_rfl))
            refine step_call rfl rfl (wanted_free rfl) (call1_run ⟨_, rfl⟩ h104 (enters_of Tryz.func18 (by kernel_rfl) rfl)) ((rOf5_E (w := V) (W := V) (e := []) (n := n) (Env.start (by simp)) HN.out).mono ?_)
            rintro e2 V2 ⟨u, rfl, u1, u2, hE2⟩
            exact ⟨_, rfl, ⟨u, rfl, u1, u2, hE2.2 u (by simp)⟩, hE2.1, hC.trans (hE2.1.mono hC.size)⟩
          | 4, ht =>
            cases ht
            have r103 : RepT n (a.tmps.getD 103 undef) V := hd 1 103 rfl (by kernel_rfl)
            have h103 : a.tmps[103]?.getD undef = a.tmps.getD 103 undef := (slot_eq a 103).symm
            have r105 : RepT n (a.tmps.getD 105 undef) V := hd 3 105 rfl (by kernel_rfl)
            have h105 : a.tmps[105]?.getD undef = a.tmps.getD 105 undef := (slot_eq a 105).symm
            exact fz_same rfl rfl (wanted_free rfl) (fun V2 hb => hC.trans (hb.mono hC.size)) rfl (call2_run ⟨_, rfl⟩ h103 h105 (enters_of Tryz.func10 (by kernel_rfl) rfl)) r103 r105 rfl (fun _ => rfl)
          | 5, ht =>
            cases ht
            have h106 : a.tmps[106]?.getD undef = .bool true := (slot_eq a 106).symm.trans (hd 4 106 rfl (by kernel_rfl))
            exact step_value (v := .bool true) rfl rfl (wanted_free rfl) (by go_simp) hC rfl
          | 6, ht =>
            cases ht
            have gk : a.tmps.getD 107 undef = .bool true := hd 5 107 rfl (by kernel_rfl)
            have h4 : a.tmps[4]?.getD undef = .pointer (some ⟨w.heap.size, 0, none⟩) := (hF.at_ 4 (by decide)).trans e4
            obtain ⟨c00, c01, -, -⟩ := (B3.out.below hC B3.out.lt).cells
            obtain ⟨c10, c11, -, -⟩ := (B4.out.below hC B4.out.lt).cells
            exact step_value (v := .agg #[.bool bx, .slice x.A x.n x.c]) rfl rfl ((wanted_if rfl rfl rfl gk).trans rfl) (by go_simp) hC rfl
          | 7, ht =>
            cases ht
            have gk : a.tmps.getD 107 undef = .bool true := hd 5 107 rfl (by kernel_rfl)
            have h108 : a.tmps[108]?.getD undef = .agg #[.bool bx, .slice x.A x.n x.c] := (slot_eq a 108).symm.trans (hd 6 108 rfl (by kernel_rfl))
            exact fz_of1 (Z := Za) rfl rfl ((wanted_if rfl rfl rfl gk).trans rfl) (fun V2 hb => hC.trans (hb.mono hC.size)) (S9.later hC).norm (call1_run ⟨_, rfl⟩ h108 (enters_of Tryz.func19 (by kernel_rfl) rfl)) (RA.out V hC) rfl (fun _ _ h => h)
          | 8, ht =>
            cases ht
            have gk : a.tmps.getD 107 undef = .bool true := hd 5 107 rfl (by kernel_rfl)
            have h4 : a.tmps[4]?.getD undef = .pointer (some ⟨w.heap.size, 0, none⟩) := (hF.at_ 4 (by decide)).trans e4
            obtain ⟨c00, c01, -, -⟩ := (B3.out.below hC B3.out.lt).cells
            obtain ⟨c10, c11, -, -⟩ := (B4.out.below hC B4.out.lt).cells
            exact step_value (v := .agg #[.bool bx, .slice x.A x.n x.c]) rfl rfl ((wanted_if rfl rfl rfl gk).trans rfl) (by go_simp) hC rfl
          | 9, ht =>
            cases ht
            have gk : a.tmps.getD 107 undef = .bool true := hd 5 107 rfl (by kernel_rfl)
            have h110 : a.tmps[110]?.getD undef = .agg #[.bool bx, .slice x.A x.n x.c] := (slot_eq a 110).symm.trans (hd 8 110 rfl (by kernel_rfl))
            have EN := rNorm_E bx (w := V) (W := V) (e := [x]) (x := x) (Env.start (by simp only [List.mem_singleton, forall_eq]; exact OX.out V hC)) (by simp)
            rw [HZ.out.1] at EN
            refine step_call rfl rfl ((wanted_if rfl rfl rfl gk).trans rfl) (call1_run ⟨_, rfl⟩ h110 (enters_of Tryz.func20 (by kernel_rfl) rfl)) (EN.mono ?_)
            rintro e2 V2 ⟨u, rfl, u1, u2, hE2⟩
            exact ⟨_, rfl, ⟨u, rfl, u1, u2, hE2.2 u (by simp)⟩, hE2.1, hC.trans (hE2.1.mono hC.size)⟩
          | 10, ht =>
            cases ht
            have gk : a.tmps.getD 107 undef = .bool true := hd 5 107 rfl (by kernel_rfl)
            have r109 : RepT Za (a.tmps.getD 109 undef) V := hd 7 109 rfl (by kernel_rfl)
            have h109 : a.tmps[109]?.getD undef = a.tmps.getD 109 undef := (slot_eq a 109).symm
            have r111 : RepT Za (a.tmps.getD 111 undef) V := hd 9 111 rfl (by kernel_rfl)
            have h111 : a.tmps[111]?.getD undef = a.tmps.getD 111 undef := (slot_eq a 111).symm
            exact fz_same rfl rfl ((wanted_if rfl rfl rfl gk).trans rfl) (fun V2 hb => hC.trans (hb.mono hC.size)) rfl (call2_run ⟨_, rfl⟩ h109 h111 (enters_of Tryz.func10 (by kernel_rfl) rfl)) r109 r111 rfl (fun _ => rfl)
          | 11, ht =>
            cases ht
            have h107 : a.tmps[107]?.getD undef = .bool true := (slot_eq a 107).symm.trans (hd 5 107 rfl (by kernel_rfl))
            have h112 : a.tmps[112]?.getD undef = .bool true := (slot_eq a 112).symm.trans (hd 10 112 rfl (by kernel_rfl))
            exact step_value (v := .bool true) rfl rfl (wanted_free rfl) (by go_simp) hC rfl
          | 12, ht =>
            cases ht
            have h113 : a.tmps[113]?.getD undef = .bool true := (slot_eq a 113).symm.trans (hd 11 113 rfl (by kernel_rfl))
            exact step_value (v := .bool true) rfl rfl (wanted_free rfl) (by go_simp) hC rfl
          | 13, ht =>
            cases ht
            have gk : a.tmps.getD 114 undef = .bool true := hd 12 114 rfl (by kernel_rfl)
            have h4 : a.tmps[4]?.getD undef = .pointer (some ⟨w.heap.size, 0, none⟩) := (hF.at_ 4 (by decide)).trans e4
            obtain ⟨c00, c01, -, -⟩ := (B3.out.below hC B3.out.lt).cells
            obtain ⟨c10, c11, -, -⟩ := (B4.out.below hC B4.out.lt).cells
            exact step_value (v := .agg #[.bool bx, .slice x.A x.n x.c]) rfl rfl ((wanted_if rfl rfl rfl gk).trans rfl) (by go_simp) hC rfl
          | 14, ht =>
            cases ht
            have gk : a.tmps.getD 114 undef = .bool true := hd 12 114 rfl (by kernel_rfl)
            have h115 : a.tmps[115]?.getD undef = .agg #[.bool bx, .slice x.A x.n x.c] := (slot_eq a 115).symm.trans (hd 13 115 rfl (by kernel_rfl))
            exact fz_of1 (Z := -Za) rfl rfl ((wanted_if rfl rfl rfl gk).trans rfl) (fun V2 hb => hC.trans (hb.mono hC.size)) (S9.later hC).neg (call1_run ⟨_, rfl⟩ h115 (enters_of Tryz.func21 (by kernel_rfl) rfl)) (RA.out V hC) rfl (fun _ _ h => h)
          | 15, ht =>
            cases ht
            have gk : a.tmps.getD 114 undef = .bool true := hd 12 114 rfl (by kernel_rfl)
            have h4 : a.tmps[4]?.getD undef = .pointer (some ⟨w.heap.size, 0, none⟩) := (hF.at_ 4 (by decide)).trans e4
            obtain ⟨c00, c01, -, -⟩ := (B3.out.below hC B3.out.lt).cells
            obtain ⟨c10, c11, -, -⟩ := (B4.out.below hC B4.out.lt).cells
            exact step_value (v := .agg #[.bool bx, .slice x.A x.n x.c]) rfl rfl ((wanted_if rfl rfl rfl gk).trans rfl) (by go_simp) hC rfl
          | 16, ht =>
            cases ht
            have gk : a.tmps.getD 114 undef = .bool true := hd 12 114 rfl (by kernel_rfl)
            have h117 : a.tmps[117]?.getD undef = .agg #[.bool bx, .slice x.A x.n x.c] := (slot_eq a 117).symm.trans (hd 15 117 rfl (by kernel_rfl))
            refine step_call rfl rfl ((wanted_if rfl rfl rfl gk).trans rfl) (call1_run ⟨_, rfl⟩ h117 (enters_of Tryz.func22 (by kernel_rfl) rfl)) ((rNeg5_E (w := V) (W := V) (e := [x]) (x := x) (b := bx) (Z := Za) (Y := -Za) (Env.start (by simp only [List.mem_singleton, forall_eq]; exact OX.out V hC)) (by simp) HZ.out.1 rfl).mono ?_)
            rintro e2 V2 ⟨u, rfl, u1, u2, hE2⟩
            exact ⟨_, rfl, ⟨u, rfl, u1, u2, hE2.2 u (by simp)⟩, hE2.1, hC.trans (hE2.1.mono hC.size)⟩
          | 17, ht =>
            cases ht
            have gk : a.tmps.getD 114 undef = .bool true := hd 12 114 rfl (by kernel_rfl)
            have r116 : RepT (-Za) (a.tmps.getD 116 undef) V := hd 14 116 rfl (by kernel_rfl)
            have h116 : a.tmps[116]?.getD undef = a.tmps.getD 116 undef := (slot_eq a 116).symm
            have r118 : RepT (-Za) (a.tmps.getD 118 undef) V := hd 16 118 rfl (by kernel_rfl)
            have h118 : a.tmps[118]?.getD undef = a.tmps.getD 118 undef := (slot_eq a 118).symm
            exact fz_same rfl rfl ((wanted_if rfl rfl rfl gk).trans rfl) (fun V2 hb => hC.trans (hb.mono hC.size)) rfl (call2_run ⟨_, rfl⟩ h116 h118 (enters_of Tryz.func10 (by kernel_rfl) rfl)) r116 r118 rfl (fun _ => rfl)
          | 18, ht =>
            cases ht
            have h114 : a.tmps[114]?.getD undef = .bool true := (slot_eq a 114).symm.trans (hd 12 114 rfl (by kernel_rfl))
            have h119 : a.tmps[119]?.getD undef = .bool true := (slot_eq a 119).symm.trans (hd 17 119 rfl (by kernel_rfl))
            exact step_value (v := .bool true) rfl rfl (wanted_free rfl) (by go_simp) hC rfl
          | 19, ht =>
            cases ht
            have h120 : a.tmps[120]?.getD undef = .bool true := (slot_eq a 120).symm.trans (hd 18 120 rfl (by kernel_rfl))
            exact step_value (v := .bool true) rfl rfl (wanted_free rfl) (by go_simp) hC rfl
          | 20, ht =>
            cases ht
            have gk : a.tmps.getD 121 undef = .bool true := hd 19 121 rfl (by kernel_rfl)
            have h2 : a.tmps[2]?.getD undef = .slice A l.length c := (hF.at_ 2 (by decide)).trans e2
            exact step_value (v := .slice A l.length c) rfl rfl ((wanted_if rfl rfl rfl gk).trans rfl) (by go_simp) hC rfl
          | 21, ht =>
            cases ht
            have gk : a.tmps.getD 121 undef = .bool true := hd 19 121 rfl (by kernel_rfl)
            have h122 : a.tmps[122]?.getD undef = .slice A l.length c := (slot_eq a 122).symm.trans (hd 20 122 rfl (by kernel_rfl))
            exact fz_all (Z := sumZ l) (l := l.map zP) rfl rfl ((wanted_if rfl rfl rfl gk).trans rfl) (fun V2 hb => hC.trans (hb.mono hC.size)) (S9.later hC).add (call1_run ⟨_, rfl⟩ h122 (enters_of Tryz.func23 (by kernel_rfl) rfl)) ⟨A, c, l, rfl, ROW7.out V hC, rfl, fun z hz => by have := HLL.out.2 z hz; omega, HCM.out.1, HCM.out.2, by have := HLL.out.1; omega⟩ (fun ps h => by unfold sumZ; rw [h]) (fun _ _ h => h)
          | 22, ht =>
            cases ht
            have gk : a.tmps.getD 121 undef = .bool true := hd 19 121 rfl (by kernel_rfl)
            have h2 : a.tmps[2]?.getD undef = .slice A l.length c := (hF.at_ 2 (by decide)).trans e2
            exact step_value (v := .slice A l.length c) rfl rfl ((wanted_if rfl rfl rfl gk).trans rfl) (by go_simp) hC rfl
          | 23, ht =>
            cases ht
            have gk : a.tmps.getD 121 undef = .bool true := hd 19 121 rfl (by kernel_rfl)
            have h124 : a.tmps[124]?.getD undef = .slice A l.length c := (slot_eq a 124).symm.trans (hd 22 124 rfl (by kernel_rfl))
            refine step_call rfl rfl ((wanted_if rfl rfl rfl gk).trans rfl) (call1_run ⟨_, rfl⟩ h124 (enters_of Tryz.func24 (by kernel_rfl) rfl)) ((rAdd5_E (w := V) (W := V) (e := []) A c l (Env.start (by simp)) (ROW7.out V hC) (by have := HLL.out.1; omega) (fun z hz => by have := HLL.out.2 z hz; omega)).mono ?_)
            rintro e2 V2 ⟨u, rfl, u1, u2, hE2⟩
            exact ⟨_, rfl, ⟨u, rfl, u1, u2, hE2.2 u (by simp)⟩, hE2.1, hC.trans (hE2.1.mono hC.size)⟩
          | 24, ht =>
            cases ht
            have gk : a.tmps.getD 121 undef = .bool true := hd 19 121 rfl (by kernel_rfl)
            have r123 : RepT (sumZ l) (a.tmps.getD 123 undef) V := hd 21 123 rfl (by kernel_rfl)
            have h123 : a.tmps[123]?.getD undef = a.tmps.getD 123 undef := (slot_eq a 123).symm
            have r125 : RepT (sumZ l) (a.tmps.getD 125 undef) V := hd 23 125 rfl (by kernel_rfl)
            have h125 : a.tmps[125]?.getD undef = a.tmps.getD 125 undef := (slot_eq a 125).symm
            exact fz_same rfl rfl ((wanted_if rfl rfl rfl gk).trans rfl) (fun V2 hb => hC.trans (hb.mono hC.size)) rfl (call2_run ⟨_, rfl⟩ h123 h125 (enters_of Tryz.func10 (by kernel_rfl) rfl)) r123 r125 rfl (fun _ => rfl)
          | 25, ht =>
            cases ht
            have h121 : a.tmps[121]?.getD undef = .bool true := (slot_eq a 121).symm.trans (hd 19 121 rfl (by kernel_rfl))
            have h126 : a.tmps[126]?.getD undef = .bool true := (slot_eq a 126).symm.trans (hd 24 126 rfl (by kernel_rfl))
            exact step_value (v := .bool true) rfl rfl (wanted_free rfl) (by go_simp) hC rfl
          | 26, ht =>
            cases ht
            have h127 : a.tmps[127]?.getD undef = .bool true := (slot_eq a 127).symm.trans (hd 25 127 rfl (by kernel_rfl))
            exact step_value (v := .bool true) rfl rfl (wanted_free rfl) (by go_simp) hC rfl
          | 27, ht =>
            cases ht
            have gk : a.tmps.getD 128 undef = .bool true := hd 26 128 rfl (by kernel_rfl)
            have h2 : a.tmps[2]?.getD undef = .slice A l.length c := (hF.at_ 2 (by decide)).trans e2
            exact step_value (v := .slice A l.length c) rfl rfl ((wanted_if rfl rfl rfl gk).trans rfl) (by go_simp) hC rfl
          | 28, ht =>
            cases ht
            have gk : a.tmps.getD 128 undef = .bool true := hd 26 128 rfl (by kernel_rfl)
            have h129 : a.tmps[129]?.getD undef = .slice A l.length c := (slot_eq a 129).symm.trans (hd 27 129 rfl (by kernel_rfl))
            exact fz_all (Z := prodZ l) (l := l.map zP) rfl rfl ((wanted_if rfl rfl rfl gk).trans rfl) (fun V2 hb => hC.trans (hb.mono hC.size)) (S9.later hC).mul (call1_run ⟨_, rfl⟩ h129 (enters_of Tryz.func25 (by kernel_rfl) rfl)) ⟨A, c, l, rfl, ROW7.out V hC, rfl, fun z hz => by have := HLL.out.2 z hz; omega, HCM.out.1, HCM.out.2, by have := HLL.out.1; omega⟩ (fun ps h => by unfold prodZ; rw [h]) (fun _ _ h => h)
          | 29, ht =>
            cases ht
            have gk : a.tmps.getD 128 undef = .bool true := hd 26 128 rfl (by kernel_rfl)
            have h2 : a.tmps[2]?.getD undef = .slice A l.length c := (hF.at_ 2 (by decide)).trans e2
            exact step_value (v := .slice A l.length c) rfl rfl ((wanted_if rfl rfl rfl gk).trans rfl) (by go_simp) hC rfl
          | 30, ht =>
            cases ht
            have gk : a.tmps.getD 128 undef = .bool true := hd 26 128 rfl (by kernel_rfl)
            have h131 : a.tmps[131]?.getD undef = .slice A l.length c := (slot_eq a 131).symm.trans (hd 29 131 rfl (by kernel_rfl))
            refine step_call rfl rfl ((wanted_if rfl rfl rfl gk).trans rfl) (call1_run ⟨_, rfl⟩ h131 (enters_of Tryz.func26 (by kernel_rfl) rfl)) ((rMul5_E (w := V) (W := V) (e := []) A c l (Env.start (by simp)) (ROW7.out V hC) (by have := HLL.out.1; omega) (fun z hz => by have := HLL.out.2 z hz; omega)).mono ?_)
            rintro e2 V2 ⟨u, rfl, u1, u2, hE2⟩
            exact ⟨_, rfl, ⟨u, rfl, u1, u2, hE2.2 u (by simp)⟩, hE2.1, hC.trans (hE2.1.mono hC.size)⟩
          | 31, ht =>
            cases ht
            have gk : a.tmps.getD 128 undef = .bool true := hd 26 128 rfl (by kernel_rfl)
            have r130 : RepT (prodZ l) (a.tmps.getD 130 undef) V := hd 28 130 rfl (by kernel_rfl)
            have h130 : a.tmps[130]?.getD undef = a.tmps.getD 130 undef := (slot_eq a 130).symm
            have r132 : RepT (prodZ l) (a.tmps.getD 132 undef) V := hd 30 132 rfl (by kernel_rfl)
            have h132 : a.tmps[132]?.getD undef = a.tmps.getD 132 undef := (slot_eq a 132).symm
            exact fz_same rfl rfl ((wanted_if rfl rfl rfl gk).trans rfl) (fun V2 hb => hC.trans (hb.mono hC.size)) rfl (call2_run ⟨_, rfl⟩ h130 h132 (enters_of Tryz.func10 (by kernel_rfl) rfl)) r130 r132 rfl (fun _ => rfl)
          | 32, ht =>
            cases ht
            have h128 : a.tmps[128]?.getD undef = .bool true := (slot_eq a 128).symm.trans (hd 26 128 rfl (by kernel_rfl))
            have h133 : a.tmps[133]?.getD undef = .bool true := (slot_eq a 133).symm.trans (hd 31 133 rfl (by kernel_rfl))
            exact step_value (v := .bool true) rfl rfl (wanted_free rfl) (by go_simp) hC rfl
          | 33, ht =>
            cases ht
            have h134 : a.tmps[134]?.getD undef = .bool true := (slot_eq a 134).symm.trans (hd 32 134 rfl (by kernel_rfl))
            exact step_value (v := .bool true) rfl rfl (wanted_free rfl) (by go_simp) hC rfl
          | 34, ht =>
            cases ht
            have gk : a.tmps.getD 135 undef = .bool true := hd 33 135 rfl (by kernel_rfl)
            have h4 : a.tmps[4]?.getD undef = .pointer (some ⟨w.heap.size, 0, none⟩) := (hF.at_ 4 (by decide)).trans e4
            obtain ⟨c00, c01, -, -⟩ := (B3.out.below hC B3.out.lt).cells
            obtain ⟨c10, c11, -, -⟩ := (B4.out.below hC B4.out.lt).cells
            exact step_value (v := .agg #[.bool bx, .slice x.A x.n x.c]) rfl rfl ((wanted_if rfl rfl rfl gk).trans rfl) (by go_simp) hC rfl
          | 35, ht =>
            cases ht
            have gk : a.tmps.getD 135 undef = .bool true := hd 33 135 rfl (by kernel_rfl)
            have h5 : a.tmps[5]?.getD undef = .pointer (some ⟨w.heap.size + 1, 0, none⟩) := (hF.at_ 5 (by decide)).trans e5
            obtain ⟨c00, c01, -, -⟩ := (B3.out.below hC B3.out.lt).cells
            obtain ⟨c10, c11, -, -⟩ := (B4.out.below hC B4.out.lt).cells
            exact step_value (v := .agg #[.bool by1, .slice y.A y.n y.c]) rfl rfl ((wanted_if rfl rfl rfl gk).trans rfl) (by go_simp) hC rfl
          | 36, ht =>
            cases ht
            have gk : a.tmps.getD 135 undef = .bool true := hd 33 135 rfl (by kernel_rfl)
            have h136 : a.tmps[136]?.getD undef = .agg #[.bool bx, .slice x.A x.n x.c] := (slot_eq a 136).symm.trans (hd 34 136 rfl (by kernel_rfl))
            have h137 : a.tmps[137]?.getD undef = .agg #[.bool by1, .slice y.A y.n y.c] := (slot_eq a 137).symm.trans (hd 35 137 rfl (by kernel_rfl))
            exact fz_of2 (Z := Za - Zb) rfl rfl ((wanted_if rfl rfl rfl gk).trans rfl) (fun V2 hb => hC.trans (hb.mono hC.size)) (S9.later hC).sub (call2_run ⟨_, rfl⟩ h136 h137 (enters_of Tryz.func27 (by kernel_rfl) rfl)) (RA.out V hC) (RB.out V hC) rfl (fun _ _ h => h)
          | 37, ht =>
            cases ht
            have gk : a.tmps.getD 135 undef = .bool true := hd 33 135 rfl (by kernel_rfl)
            have h4 : a.tmps[4]?.getD undef = .pointer (some ⟨w.heap.size, 0, none⟩) := (hF.at_ 4 (by decide)).trans e4
            obtain ⟨c00, c01, -, -⟩ := (B3.out.below hC B3.out.lt).cells
            obtain ⟨c10, c11, -, -⟩ := (B4.out.below hC B4.out.lt).cells
            exact step_value (v := .agg #[.bool bx, .slice x.A x.n x.c]) rfl rfl ((wanted_if rfl rfl rfl gk).trans rfl) (by go_simp) hC rfl
          | 38, ht =>
            cases ht
            have gk : a.tmps.getD 135 undef = .bool true := hd 33 135 rfl (by kernel_rfl)
            have h5 : a.tmps[5]?.getD undef = .pointer (some ⟨w.heap.size + 1, 0, none⟩) := (hF.at_ 5 (by decide)).trans e5
            obtain ⟨c00, c01, -, -⟩ := (B3.out.below hC B3.out.lt).cells
            obtain ⟨c10, c11, -, -⟩ := (B4.out.below hC B4.out.lt).cells
            exact step_value (v := .agg #[.bool by1, .slice y.A y.n y.c]) rfl rfl ((wanted_if rfl rfl rfl gk).trans rfl) (by go_simp) hC rfl
          | 39, ht =>
            cases ht
            have gk : a.tmps.getD 135 undef = .bool true := hd 33 135 rfl (by kernel_rfl)
            have h139 : a.tmps[139]?.getD undef = .agg #[.bool bx, .slice x.A x.n x.c] := (slot_eq a 139).symm.trans (hd 37 139 rfl (by kernel_rfl))
            have h140 : a.tmps[140]?.getD undef = .agg #[.bool by1, .slice y.A y.n y.c] := (slot_eq a 140).symm.trans (hd 38 140 rfl (by kernel_rfl))
            refine step_call rfl rfl ((wanted_if rfl rfl rfl gk).trans rfl) (call2_run ⟨_, rfl⟩ h139 h140 (enters_of Tryz.func28 (by kernel_rfl) rfl)) ((rSub5_E (w := V) (W := V) (e := [x, y]) (x := x) (y := y) (b := bx) (b' := by1) (Z := Za) (Z' := Zb) (D := Za - Zb) (Env.start (by have hx9 := OX.out V hC; have hy9 := OY.out V hC; simp [hx9, hy9])) (by simp) (by simp) (by have := HXY.out.1; omega) (by have := HXY.out.2; omega) HZ.out.1 HZ.out.2 rfl).mono ?_)
            rintro e2 V2 ⟨u, rfl, u1, u2, hE2⟩
            exact ⟨_, rfl, ⟨u, rfl, u1, u2, hE2.2 u (by simp)⟩, hE2.1, hC.trans (hE2.1.mono hC.size)⟩
          | 40, ht =>
            cases ht
            have gk : a.tmps.getD 135 undef = .bool true := hd 33 135 rfl (by kernel_rfl)
            have r138 : RepT (Za - Zb) (a.tmps.getD 138 undef) V := hd 36 138 rfl (by kernel_rfl)
            have h138 : a.tmps[138]?.getD undef = a.tmps.getD 138 undef := (slot_eq a 138).symm
            have r141 : RepT (Za - Zb) (a.tmps.getD 141 undef) V := hd 39 141 rfl (by kernel_rfl)
            have h141 : a.tmps[141]?.getD undef = a.tmps.getD 141 undef := (slot_eq a 141).symm
            exact fz_same rfl rfl ((wanted_if rfl rfl rfl gk).trans rfl) (fun V2 hb => hC.trans (hb.mono hC.size)) rfl (call2_run ⟨_, rfl⟩ h138 h141 (enters_of Tryz.func10 (by kernel_rfl) rfl)) r138 r141 rfl (fun _ => rfl)
          | 41, ht =>
            cases ht
            have h135 : a.tmps[135]?.getD undef = .bool true := (slot_eq a 135).symm.trans (hd 33 135 rfl (by kernel_rfl))
            have h142 : a.tmps[142]?.getD undef = .bool true := (slot_eq a 142).symm.trans (hd 40 142 rfl (by kernel_rfl))
            exact step_value (v := .bool true) rfl rfl (wanted_free rfl) (by go_simp) hC rfl
          | 42, ht =>
            cases ht
            have h143 : a.tmps[143]?.getD undef = .bool true := (slot_eq a 143).symm.trans (hd 41 143 rfl (by kernel_rfl))
            exact step_value (v := .bool true) rfl rfl (wanted_free rfl) (by go_simp) hC rfl
          | 43, ht =>
            cases ht
            have gk : a.tmps.getD 144 undef = .bool true := hd 42 144 rfl (by kernel_rfl)
            refine step_call (f := 5) (args := #[]) rfl rfl ((wanted_if rfl rfl rfl gk).trans rfl) (by have := (enters_of Tryz.func5 (by kernel_rfl) rfl) #[] V; go_simp) ((wakes5_E (w := V) (e := []) (S9.later hC) (Env.start (by simp))).mono ?_)
            rintro e2 V2 ⟨rfl, hE2⟩
            exact ⟨_, rfl, rfl, hE2.1, hC.trans (hE2.1.mono hC.size)⟩
          | 44, ht =>
            cases ht
            have h144 : a.tmps[144]?.getD undef = .bool true := (slot_eq a 144).symm.trans (hd 42 144 rfl (by kernel_rfl))
            have h145 : a.tmps[145]?.getD undef = .bool true := (slot_eq a 145).symm.trans (hd 43 145 rfl (by kernel_rfl))
            exact step_value (v := .bool true) rfl rfl (wanted_free rfl) (by go_simp) hC rfl
          | k + 45, ht => simp at ht
        · intro a9 V9 hC hF hf
          have fr : a9.tmps[146]?.getD undef = .bool true := (slot_eq a9 146).symm.trans (hf 44 146 rfl)
          have hdf9 : a9.defers = [] := hF.defers.trans hdf
          have HSZ9 := Lib.hid (show a9.tmps.size = 147 from hF.size.trans HSZ.out)
          have HF := Lib.hid (HW.out.trans (hC.mono HW.out.size))
          clear hf hF hC
          show wpList _ _ _ [_] a9 V9
          go_wp2
          refine bodyPost_ret (results_tmp rfl _ _ _) (by first | exact hdf9 | simp | simpa using hdf9) ?_
          exact ⟨by have := HSZ9.out; simp [this], HF.out⟩
end Go.Proofs.YtolldhfcnbbelaaGreatDoor
