/- Contract of package digits' places: a number's places of nine digits, by halving, handed on from loop to loop. -/
import Derived.Shelf.Abstract
import Derived.Shelf.RegionOpen
import Derived.OwnWalkIn
import Derived.TacticsInMore
import Derived.LoopNIn
import Derived.LoopIn
import Derived.Sort.QuietIn
import Derived.Test.YtaancfhbmjkoaaaGreatDoorPlacesM
import Derived.Test.YtaancfhbmjkoaaaGreatDoorGQuotB
import Derived.Test.YtaancfhbmjkoaaaGreatDoorGNatA
import Derived.Test.YtaancfhbmjkoaaaGreatDoorNSmall
import Derived.Test.YtaancfhbmjkoaaaGreatDoorFactsN
namespace Go.Proofs.YtaancfhbmjkoaaaGreatDoor
open Go Go.RowKit
attribute [local go_sem] Oper.semAt_some

set_option maxHeartbeats 1000000 in
theorem places_any (x : Num) (A : Option Addr) (n c : Nat) (w : World) :
    Calls Tryz.prog 33 #[.slice x.A x.n x.c, .slice A n c] w fun e w' =>
      e = .returned (.func (.func 50) #[] #[.pointer (some ⟨w.heap.size + 1, 0, none⟩), .pointer (some ⟨w.heap.size, 0, none⟩)]) ∧
      w' = (w.alloc (.cells #[.slice x.A x.n x.c] 23)).alloc (.cells #[.slice A n c] 26) := by
  go_enter Tryz.func33, Tryz.ntmps33
  go_wp2
  go_ret
  exact ⟨rfl, rfl⟩

theorem idx_two (u v : Value) (w : World) : (Instr.index 87 (.agg #[u, v]) (.int .i64 0)).run Tryz.prog w = .ok u w ∧ (Instr.index 87 (.agg #[u, v]) (.int .i64 1)).run Tryz.prog w = .ok v w := by
  constructor <;> simp [Instr.index, run_underlying Tryz.underlying87, asIntOf, go_sem]
theorem idx_zero (u v : Value) (w : World) : (Instr.index 87 (.agg #[u, v]) (.int .i64 0)).run Tryz.prog w = .ok u w := (idx_two u v w).1
theorem idx_one (u v : Value) (w : World) : (Instr.index 87 (.agg #[u, v]) (.int .i64 1)).run Tryz.prog w = .ok v w := (idx_two u v w).2
attribute [local go_sem] idx_zero idx_one
/-- What the iterator of 'places' reads. -/
structure PSrc (b : Nat) (W : World) (pp pa : Nat) (A : Option Addr) (c : Nat) (l : List Num) (x : Num) : Prop where
  bp : BoxO b W pp (.slice A l.length c)
  ba : BoxO b W pa (.slice x.A x.n x.c)
  row : RdsO b W A l
  num : NumO b W x
  pows : ∀ k (h : k < l.length), l[k].N = P9 k ∧ l[k].n ≤ 10000
  lc : l.length ≤ c ∧ c ≤ maxLen
  lt : x.N < P9 l.length
  lx : x.n ≤ 10000
theorem PSrc.rnd {b : Nat} {W W' : World} {pp pa : Nat} {A : Option Addr} {c : Nat} {l : List Num} {x : Num} (h : PSrc b W pp pa A c l x) (r : Rnd b W W') : PSrc b W' pp pa A c l x :=
  ⟨h.bp.rnd r, h.ba.rnd r, h.row.rnd r, h.num.rnd r, h.pows, h.lc, h.lt, h.lx⟩

theorem psrc_half {b m : Nat} {V : World} {pp pa : Nat} {A : Option Addr} {c : Nat} {q : List Num} {x h : Num} (hB : Bok b V) (hS : PSrc b V pp pa A c q x) (hq : q.length = m + 1) (hh : NumO b V h) (hlt : h.N < P9 m) (hl : h.n ≤ 10000) :
    Rnd b V ((V.alloc (.cells #[.slice h.A h.n h.c] 23)).alloc (.cells #[.slice A m c] 26)) ∧
    PSrc b ((V.alloc (.cells #[.slice h.A h.n h.c] 23)).alloc (.cells #[.slice A m c] 26)) (V.heap.size + 1) V.heap.size A c (q.take m) h := by
  have g1 := World.grownBy_alloc V (.cells #[.slice h.A h.n h.c] 23) none
  have t1 := hB.turn g1 (fun r e => by cases e)
  have g2 := World.grownBy_alloc (V.alloc (.cells #[.slice h.A h.n h.c] 23)) (.cells #[.slice A m c] 26) none
  have t2 := t1.1.turn g2 (fun r e => by cases e)
  have hR := (hB.grown g1).trans (t1.1.grown g2)
  have hlen : (q.take m).length = m := by rw [List.length_take]; omega
  have c1 := ((Boxed.new V 23 (.slice h.A h.n h.c)).alloc (.cells #[.slice A m c] 26)).cell
  have c2 := (Boxed.new (V.alloc (.cells #[.slice h.A h.n h.c] 23)) 26 (.slice A m c)).cell
  rw [World.size_alloc] at c2
  have ho : ∀ k, V.heap.size ≤ k → Out b ((V.alloc (.cells #[.slice h.A h.n h.c] 23)).alloc (.cells #[.slice A m c] 26)) k := fun k hk => ⟨by have := hB.1; omega, fun e => by rw [t2.2, t1.2] at e; have := hB.row_lt _ e; omega⟩
  refine ⟨hR, ⟨by simp, ho _ (by omega), by rw [hlen]; exact c2⟩, ⟨by simp; omega, ho _ (Nat.le_refl _), c1⟩, (hS.row.rnd hR).take m, hh.rnd hR, fun k hk => ?_, ⟨by rw [hlen]; have := hS.lc.1; omega, hS.lc.2⟩, by rw [hlen]; exact hlt, hl⟩
  have hk' : k < q.length := by omega
  have e : (q.take m)[k] = q[k] := List.getElem_take ..
  rw [e]
  exact hS.pows k hk'

set_option maxRecDepth 100000 in
set_option maxHeartbeats 2000000 in
theorem places_nil (b : Nat) (w0 : World) (pp pa : Nat) (A : Option Addr) (c : Nat) (x : Num) (hS : PSrc b w0 pp pa A c [] x) :
    TellsOn b Tryz.prog 50 #[.pointer (some ⟨pp, 0, none⟩), .pointer (some ⟨pa, 0, none⟩)] (placesOf 0 x.N) w0 := by
  intro l N J pre W hN hR hJ hJb hY h0
  have HS := hS.rnd hR
  have hlt : x.N < 1000000000 := by have := HS.lt; rw [← P9_zero]; exact this
  have hb0 := hJb _ _ h0
  have h1 : J pre (W.alloc (.cells #[.func (.yield l) #[] #[]] 84)) := hJ.alloc _ h0
  have hR1 : Rnd b W (W.alloc (.cells #[.func (.yield l) #[] #[]] 84)) := hb0.grown (World.grownBy_alloc _ _ none)
  have HS1 := HS.rnd hR1
  have hc1 := HS1.bp.cell
  have hc2 := HS1.ba.cell
  have hc3 := (Boxed.new W 84 (.func (.yield l) #[] #[])).cell
  refine callsIn_of_wp Tryz.func50 rfl trivial ?_ rfl
  simp only [Tryz.ntmps50, List.size_toArray, List.length_cons, List.length_nil, Nat.reduceAdd, Nat.reduceSub, Array.replicate_succ, Array.replicate_zero, List.push_toArray, List.append_toArray, List.nil_append, List.cons_append]
  obtain ⟨hn1, hn2, hn3, hn4⟩ := HS1.num.ok
  have ES := Small_yes (W.alloc (.cells #[.func (.yield l) #[] #[]] 84)) _ _ _ _ _ hn1 hn2 (by simpa [maxLen] using hn3) (show x.N < 18446744073709551616 by omega)
  obtain ⟨fn, tmps, assign, body, hy, hRd⟩ := yield_any (F := Fence.wide) (m' := 8) rfl (hY pre x.N _ h1 hlt (by have h := hN; simp only [placesOf, List.length_singleton] at h; omega))
  have hw : IntKind.u32.wrap ((x.N : Nat) : Int) = (x.N : Nat) := by unfold IntKind.wrap; simp [IntKind.signed, IntKind.bits]; omega
  clear hS HS HS1 hY hn1 hn2 hn3 hn4
  gi_wp2_with (refine ⟨trivial, ?_⟩; gi_at_call 51; refine (callsIn_wide.2 ES).mono ?_; rintro e w' ⟨rfl, rfl⟩)
  refine hRd.mono ?_
  rintro e W3 ⟨rfl, hJ3, hR3⟩
  have HR3 := Lib.hid (hR1.trans hR3)
  clear hR3 hR1
  gi_wp2
  exact bodyPost_ret (results_none rfl _ _ _) rfl ⟨⟨_, rfl⟩, hJ3, HR3.out⟩

set_option maxRecDepth 100000 in
set_option maxHeartbeats 4000000 in
theorem places_step (b m : Nat) (hmb : m ≤ 1000) (ih : ∀ (w0 : World) (pp pa : Nat) (A : Option Addr) (c : Nat) (l : List Num) (x : Num), l.length = m → PSrc b w0 pp pa A c l x →
      TellsOn b Tryz.prog 50 #[.pointer (some ⟨pp, 0, none⟩), .pointer (some ⟨pa, 0, none⟩)] (placesOf m x.N) w0)
    (w0 : World) (pp pa : Nat) (A : Option Addr) (c : Nat) (q : List Num) (x : Num) (hq : q.length = m + 1) (hS : PSrc b w0 pp pa A c q x) :
    TellsOn b Tryz.prog 50 #[.pointer (some ⟨pp, 0, none⟩), .pointer (some ⟨pa, 0, none⟩)] (placesOf (m + 1) x.N) w0 := by
  intro l N J pre W hN hR hJ hJb hY h0
  have HS := hS.rnd hR
  have hb0 := hJb _ _ h0
  have h1 : J pre (W.alloc (.cells #[.func (.yield l) #[] #[]] 84)) := hJ.alloc _ h0
  have hR1 : Rnd b W (W.alloc (.cells #[.func (.yield l) #[] #[]] 84)) := hb0.grown (World.grownBy_alloc _ _ none)
  have hY1 : BoxO b (W.alloc (.cells #[.func (.yield l) #[] #[]] 84)) W.heap.size (.func (.yield l) #[] #[]) :=
    ⟨by simp, ⟨by have := hb0.1; omega, fun e => by rw [(hb0.turn (World.grownBy_alloc W _ none) (fun r e => by cases e)).2] at e; have := hb0.row_lt _ e; omega⟩, (Boxed.new W 84 (.func (.yield l) #[] #[])).cell⟩
  have HS1 := HS.rnd hR1
  obtain ⟨W1, hW1⟩ : ∃ W1, W.alloc (.cells #[.func (.yield l) #[] #[]] 84) = W1 := ⟨_, rfl⟩
  have hs1 : W1.heap.size = W.heap.size + 1 := by rw [← hW1]; simp
  have hm : ((m : Nat) : Int) + 1 - 1 = m := by omega
  have hm0 : decide ((m : Int) < 0) = false := by simp
  rw [hW1] at h1 hR1 hY1 HS1
  have hc1 := HS1.bp.cell
  have hc2 := HS1.ba.cell
  rw [hq] at hc1
  obtain ⟨⟨ad, rfl, had, hado, hc4⟩, hn4⟩ := HS1.row m (by omega)
  obtain ⟨hp1, hp2⟩ := HS1.pows m (by omega)
  obtain ⟨y, hy⟩ : ∃ y, q[m]'(by omega) = y := ⟨_, rfl⟩
  rw [hy] at hc4 hn4 hp1 hp2
  have OX := Lib.hid HS1.num.ok
  have OY := Lib.hid hn4.ok
  have LAD : Hid ((ad.add m).block < W1.heap.size) := Lib.hid (by rw [add_block]; exact had)
  have H1 := Lib.hid h1
  have HR1 := Lib.hid hR1
  have HY1 := Lib.hid hY1
  have HSh := Lib.hid HS1
  have HYY := Lib.hid hY
  have HP1 := Lib.hid hp1
  clear hS HS HS1 h1 hR1 hY1 hY hR hp1 h0 hn4 had hado hy
  have hN2 : pre.length + (2 ^ m + 2 ^ m) ≤ N := by rw [places_length, Nat.pow_succ] at hN; omega
  refine callsIn_of_wp_marks Tryz.func50 rfl trivial ?_ rfl
  simp only [Tryz.ntmps50, List.size_toArray, List.length_cons, List.length_nil, Nat.reduceAdd, Nat.reduceSub, Array.replicate_succ, Array.replicate_zero, List.push_toArray, List.append_toArray, List.nil_append, List.cons_append]
  gi_wp2_with fail
  refine wpIn_wide.2 ?_
  have LPA := Lib.hid HSh.out.ba.lt
  have LPP := Lib.hid HSh.out.bp.lt
  have EDV := Lib.hid (fun V (hC : Below W1.heap.size W1 V) => show Calls Tryz.prog 52 #[.slice x.A x.n x.c, .slice y.A y.n y.c] V (Gives2 V (x.N / y.N) (x.N % y.N) fun a b => .tuple #[a, b, .int .i64 0]) by
    have h := div_any x.A y.A x.n y.n x.c y.c x.N y.N V (OX.out.later hC).1 (OY.out.later hC).1 OX.out.2.1 OX.out.2.2.1 OY.out.2.1 OY.out.2.2.1 (by have := HSh.out.lx; omega) (by omega)
    have hM : y.N ≠ 0 := by rw [HP1.out]; have := P9_pos m; omega
    unfold DivPost at h
    rwa [restN_pos hM, zeroE_pos hM] at h)
  refine wp_region_facts 13 [28, 29, 30, 31, 32, 33, 27, 34, 35, 36, 7, 8, 9] (fun i v V => match i with
      | 0 => v = .slice x.A x.n x.c
      | 1 => v = .slice (some ad) (m + 1) c
      | 2 => v = .int .i64 (m : Nat)
      | 3 => v = .pointer (some (ad.add m))
      | 4 => v = .slice y.A y.n y.c
      | 5 => RepT2 W1.heap.size (x.N / y.N) (x.N % y.N) v V
      | 6 => RepT2 W1.heap.size (x.N / y.N) (x.N % y.N) v V
      | 7 => RepQ W1.heap.size (x.N / y.N) v V
      | 8 => RepQ W1.heap.size (x.N % y.N) v V
      | 9 => v = .int .i64 0
      | 10 => RepQ W1.heap.size (x.N / y.N) v V
      | 11 => RepQ W1.heap.size (x.N % y.N) v V
      | _ => v = .int .i64 0) (fun V => Below W1.heap.size W1 V) (by kernel_rfl) (by kernel_rfl) rfl (by decide) (by first | (simp; done) | (simp; done)) (Below.refl _ _).drew ?_ ?_ ?_
  · intro i v V V2 hf hb _
    match i, hf with
    | 0, hf => exact hf
    | 1, hf => exact hf
    | 2, hf => exact hf
    | 3, hf => exact hf
    | 4, hf => exact hf
    | 5, hf => exact RepT2.keep hf hb
    | 6, hf => exact RepT2.keep hf hb
    | 7, hf => exact RepQ.keep hf hb
    | 8, hf => exact RepQ.keep hf hb
    | 9, hf => exact hf
    | 10, hf => exact RepQ.keep hf hb
    | 11, hf => exact RepQ.keep hf hb
    | _ + 12, hf => exact hf
  · intro i t ht a V hC hF hd
    match i, ht with
    | 0, ht =>
      cases ht
      have h2 : a.tmps[2]?.getD undef = .pointer (some ⟨pa, 0, none⟩) := (hF.at_ 2 (by decide)).trans rfl
      have k1 := (hC.cell (p := ⟨pa, 0, none⟩) LPA.out).trans hc2
      have k2 := (hC.cell (p := ⟨pp, 0, none⟩) LPP.out).trans hc1
      have k3 := (hC.cell (p := ad.add m) LAD.out).trans hc4
      have k4 : m < m + 1 := by omega
      exact step_value (v := .slice x.A x.n x.c) rfl rfl (wanted_free rfl) (by go_simp) hC rfl
    | 1, ht =>
      cases ht
      have h1 : a.tmps[1]?.getD undef = .pointer (some ⟨pp, 0, none⟩) := (hF.at_ 1 (by decide)).trans rfl
      have k1 := (hC.cell (p := ⟨pa, 0, none⟩) LPA.out).trans hc2
      have k2 := (hC.cell (p := ⟨pp, 0, none⟩) LPP.out).trans hc1
      have k3 := (hC.cell (p := ad.add m) LAD.out).trans hc4
      have k4 : m < m + 1 := by omega
      exact step_value (v := .slice (some ad) (m + 1) c) rfl rfl (wanted_free rfl) (by go_simp) hC rfl
    | 2, ht =>
      cases ht
      have h4 : a.tmps[4]?.getD undef = .int .i64 (m : Nat) := (hF.at_ 4 (by decide)).trans rfl
      exact step_value (v := .int .i64 (m : Nat)) rfl rfl (wanted_free rfl) (by go_simp) hC rfl
    | 3, ht =>
      cases ht
      have h29 : a.tmps[29]?.getD undef = .slice (some ad) (m + 1) c := (slot_eq a 29).symm.trans (hd 1 29 rfl (by kernel_rfl))
      have h30 : a.tmps[30]?.getD undef = .int .i64 (m : Nat) := (slot_eq a 30).symm.trans (hd 2 30 rfl (by kernel_rfl))
      have k1 := (hC.cell (p := ⟨pa, 0, none⟩) LPA.out).trans hc2
      have k2 := (hC.cell (p := ⟨pp, 0, none⟩) LPP.out).trans hc1
      have k3 := (hC.cell (p := ad.add m) LAD.out).trans hc4
      have k4 : m < m + 1 := by omega
      exact step_value (v := .pointer (some (ad.add m))) rfl rfl (wanted_free rfl) (by go_simp; intro h; exfalso; omega) hC rfl
    | 4, ht =>
      cases ht
      have h31 : a.tmps[31]?.getD undef = .pointer (some (ad.add m)) := (slot_eq a 31).symm.trans (hd 3 31 rfl (by kernel_rfl))
      have k1 := (hC.cell (p := ⟨pa, 0, none⟩) LPA.out).trans hc2
      have k2 := (hC.cell (p := ⟨pp, 0, none⟩) LPP.out).trans hc1
      have k3 := (hC.cell (p := ad.add m) LAD.out).trans hc4
      have k4 : m < m + 1 := by omega
      exact step_value (v := .slice y.A y.n y.c) rfl rfl (wanted_free rfl) (by go_simp) hC rfl
    | 5, ht =>
      cases ht
      have h28 : a.tmps[28]?.getD undef = .slice x.A x.n x.c := (slot_eq a 28).symm.trans (hd 0 28 rfl (by kernel_rfl))
      have h32 : a.tmps[32]?.getD undef = .slice y.A y.n y.c := (slot_eq a 32).symm.trans (hd 4 32 rfl (by kernel_rfl))
      refine step_call rfl rfl (wanted_free rfl) (call2_run ⟨_, rfl⟩ h28 h32 (enters_of Tryz.func52 (by kernel_rfl) rfl)) ((EDV.out V hC).mono ?_)
      rintro e2 V2 ⟨A3, c3, A4, c4, rfl, x1, x2, y1, y2, x3, y3, x4⟩
      have hsz := hC.size
      exact ⟨_, rfl, ⟨_, _, rfl, ⟨A3, c3, rfl, x1, x2, x3.from hsz⟩, ⟨A4, c4, rfl, y1, y2, y3.from hsz⟩⟩, x4, hC.trans (x4.mono hsz)⟩
    | 6, ht =>
      cases ht
      have r33 : RepT2 W1.heap.size (x.N / y.N) (x.N % y.N) (a.tmps.getD 33 undef) V := hd 5 33 rfl (by kernel_rfl)
      have h33 : a.tmps[33]?.getD undef = a.tmps.getD 33 undef := (slot_eq a 33).symm
      obtain ⟨v1, v2, hv, q1, q2⟩ := r33
      rw [hv] at h33
      exact step_value (v := .tuple #[v1, v2, .int .i64 0]) rfl rfl (wanted_free rfl) (by go_simp) hC ⟨v1, v2, rfl, q1, q2⟩
    | 7, ht =>
      cases ht
      have r27 : RepT2 W1.heap.size (x.N / y.N) (x.N % y.N) (a.tmps.getD 27 undef) V := hd 6 27 rfl (by kernel_rfl)
      have h27 : a.tmps[27]?.getD undef = a.tmps.getD 27 undef := (slot_eq a 27).symm
      obtain ⟨v1, v2, hv, q1, q2⟩ := r27
      rw [hv] at h27
      exact step_value (v := v1) rfl rfl (wanted_free rfl) (by go_simp) hC q1
    | 8, ht =>
      cases ht
      have r27 : RepT2 W1.heap.size (x.N / y.N) (x.N % y.N) (a.tmps.getD 27 undef) V := hd 6 27 rfl (by kernel_rfl)
      have h27 : a.tmps[27]?.getD undef = a.tmps.getD 27 undef := (slot_eq a 27).symm
      obtain ⟨v1, v2, hv, q1, q2⟩ := r27
      rw [hv] at h27
      exact step_value (v := v2) rfl rfl (wanted_free rfl) (by go_simp) hC q2
    | 9, ht =>
      cases ht
      have r27 : RepT2 W1.heap.size (x.N / y.N) (x.N % y.N) (a.tmps.getD 27 undef) V := hd 6 27 rfl (by kernel_rfl)
      have h27 : a.tmps[27]?.getD undef = a.tmps.getD 27 undef := (slot_eq a 27).symm
      obtain ⟨v1, v2, hv, q1, q2⟩ := r27
      rw [hv] at h27
      exact step_value (v := .int .i64 0) rfl rfl (wanted_free rfl) (by go_simp) hC rfl
    | 10, ht =>
      cases ht
      have r34 : RepQ W1.heap.size (x.N / y.N) (a.tmps.getD 34 undef) V := hd 7 34 rfl (by kernel_rfl)
      have h34 : a.tmps[34]?.getD undef = a.tmps.getD 34 undef := (slot_eq a 34).symm
      obtain ⟨A5, c5, e5, q1, q2, q3⟩ := r34
      rw [e5] at h34
      exact step_value (v := .slice A5 (lenL (x.N / y.N)) c5) rfl rfl (wanted_free rfl) (by go_simp) hC ⟨A5, c5, rfl, q1, q2, q3⟩
    | 11, ht =>
      cases ht
      have r35 : RepQ W1.heap.size (x.N % y.N) (a.tmps.getD 35 undef) V := hd 8 35 rfl (by kernel_rfl)
      have h35 : a.tmps[35]?.getD undef = a.tmps.getD 35 undef := (slot_eq a 35).symm
      obtain ⟨A5, c5, e5, q1, q2, q3⟩ := r35
      rw [e5] at h35
      exact step_value (v := .slice A5 (lenL (x.N % y.N)) c5) rfl rfl (wanted_free rfl) (by go_simp) hC ⟨A5, c5, rfl, q1, q2, q3⟩
    | 12, ht =>
      cases ht
      have h36 : a.tmps[36]?.getD undef = .int .i64 0 := (slot_eq a 36).symm.trans (hd 9 36 rfl (by kernel_rfl))
      exact step_value (v := .int .i64 0) rfl rfl (wanted_free rfl) (by go_simp) hC rfl
    | k + 13, ht => simp at ht
  · intro a2 V2 hC hF hf
    obtain ⟨u1, u2, p33, _, _⟩ := (hf 5 33 rfl : RepT2 W1.heap.size (x.N / y.N) (x.N % y.N) (a2.tmps.getD 33 undef) V2)
    obtain ⟨u3, u4, p27, _, _⟩ := (hf 6 27 rfl : RepT2 W1.heap.size (x.N / y.N) (x.N % y.N) (a2.tmps.getD 27 undef) V2)
    obtain ⟨A5, c5, p34, _, _, _⟩ := (hf 7 34 rfl : RepQ W1.heap.size (x.N / y.N) (a2.tmps.getD 34 undef) V2)
    obtain ⟨A6, c6, p35, _, _, _⟩ := (hf 8 35 rfl : RepQ W1.heap.size (x.N % y.N) (a2.tmps.getD 35 undef) V2)
    obtain ⟨A3, c3, p7, x1, x2, x3⟩ := (hf 10 7 rfl : RepQ W1.heap.size (x.N / y.N) (a2.tmps.getD 7 undef) V2)
    obtain ⟨A4, c4, p8, y1, y2, y3⟩ := (hf 11 8 rfl : RepQ W1.heap.size (x.N % y.N) (a2.tmps.getD 8 undef) V2)
    have hlit := act_eq (a := a2) (.func (.yield l) #[] #[] :: .pointer (some ⟨pp, 0, none⟩) :: .pointer (some ⟨pa, 0, none⟩) :: .pointer (some ⟨W.heap.size, 0, none⟩) :: .int .i64 (m : Nat) :: undef :: undef :: .slice A3 (lenL (x.N / y.N)) c3 :: .slice A4 (lenL (x.N % y.N)) c4 :: .int .i64 0 :: undef :: undef :: undef :: .slice (some ad) (m + 1) c :: .int .i64 ((m : Int) + 1) :: .int .i64 (m : Nat) :: .int .i64 (m : Nat) :: .bool false :: undef :: undef :: undef :: undef :: undef :: undef :: undef :: undef :: undef :: .tuple #[u3, u4, .int .i64 0] :: .slice x.A x.n x.c :: .slice (some ad) (m + 1) c :: .int .i64 (m : Nat) :: .pointer (some (ad.add m)) :: .slice y.A y.n y.c :: .tuple #[u1, u2, .int .i64 0] :: .slice A5 (lenL (x.N / y.N)) c5 :: .slice A6 (lenL (x.N % y.N)) c6 :: .int .i64 0 :: undef :: undef :: undef :: undef :: undef :: undef :: undef :: undef :: undef :: undef :: undef :: undef :: undef :: undef :: undef :: undef :: undef :: []) (by simpa using hF.size) hF.defers (fun i hi => match i, hi with
      | 0, _ => (hF.same 0 (by decide)).trans rfl
      | 1, _ => (hF.same 1 (by decide)).trans rfl
      | 2, _ => (hF.same 2 (by decide)).trans rfl
      | 3, _ => (hF.same 3 (by decide)).trans rfl
      | 4, _ => (hF.same 4 (by decide)).trans rfl
      | 5, _ => (hF.same 5 (by decide)).trans rfl
      | 6, _ => (hF.same 6 (by decide)).trans rfl
      | 7, _ => p7
      | 8, _ => p8
      | 9, _ => (hf 12 9 rfl : a2.tmps.getD 9 undef = _)
      | 10, _ => (hF.same 10 (by decide)).trans rfl
      | 11, _ => (hF.same 11 (by decide)).trans rfl
      | 12, _ => (hF.same 12 (by decide)).trans rfl
      | 13, _ => (hF.same 13 (by decide)).trans rfl
      | 14, _ => (hF.same 14 (by decide)).trans rfl
      | 15, _ => (hF.same 15 (by decide)).trans rfl
      | 16, _ => (hF.same 16 (by decide)).trans rfl
      | 17, _ => (hF.same 17 (by decide)).trans rfl
      | 18, _ => (hF.same 18 (by decide)).trans rfl
      | 19, _ => (hF.same 19 (by decide)).trans rfl
      | 20, _ => (hF.same 20 (by decide)).trans rfl
      | 21, _ => (hF.same 21 (by decide)).trans rfl
      | 22, _ => (hF.same 22 (by decide)).trans rfl
      | 23, _ => (hF.same 23 (by decide)).trans rfl
      | 24, _ => (hF.same 24 (by decide)).trans rfl
      | 25, _ => (hF.same 25 (by decide)).trans rfl
      | 26, _ => (hF.same 26 (by decide)).trans rfl
      | 27, _ => p27
      | 28, _ => (hf 0 28 rfl : a2.tmps.getD 28 undef = _)
      | 29, _ => (hf 1 29 rfl : a2.tmps.getD 29 undef = _)
      | 30, _ => (hf 2 30 rfl : a2.tmps.getD 30 undef = _)
      | 31, _ => (hf 3 31 rfl : a2.tmps.getD 31 undef = _)
      | 32, _ => (hf 4 32 rfl : a2.tmps.getD 32 undef = _)
      | 33, _ => p33
      | 34, _ => p34
      | 35, _ => p35
      | 36, _ => (hf 9 36 rfl : a2.tmps.getD 36 undef = _)
      | 37, _ => (hF.same 37 (by decide)).trans rfl
      | 38, _ => (hF.same 38 (by decide)).trans rfl
      | 39, _ => (hF.same 39 (by decide)).trans rfl
      | 40, _ => (hF.same 40 (by decide)).trans rfl
      | 41, _ => (hF.same 41 (by decide)).trans rfl
      | 42, _ => (hF.same 42 (by decide)).trans rfl
      | 43, _ => (hF.same 43 (by decide)).trans rfl
      | 44, _ => (hF.same 44 (by decide)).trans rfl
      | 45, _ => (hF.same 45 (by decide)).trans rfl
      | 46, _ => (hF.same 46 (by decide)).trans rfl
      | 47, _ => (hF.same 47 (by decide)).trans rfl
      | 48, _ => (hF.same 48 (by decide)).trans rfl
      | 49, _ => (hF.same 49 (by decide)).trans rfl
      | 50, _ => (hF.same 50 (by decide)).trans rfl
      | 51, _ => (hF.same 51 (by decide)).trans rfl
      | 52, _ => (hF.same 52 (by decide)).trans rfl
      | 53, _ => (hF.same 53 (by decide)).trans rfl
      | _ + 54, h => absurd h (by simp only [List.length_cons, List.length_nil]; omega))
    subst hlit
    have X3 := Lib.hid x3
    have Y3 := Lib.hid y3
    clear hf hF x3 y3 p33 p27 p34 p35 p7 p8
    show wpList _ _ _ [] _ V2
    have hg1 := grown_of_below (r := none) hC
    have hJ2 : J pre V2 := hJ _ _ _ _ H1.out hg1 (fun r e => by cases e)
    have hB1 := hJb _ _ H1.out
    have hR12 := hB1.grown hg1
    have hrow := (hB1.turn hg1 (fun r e => by cases e)).2
    have HS2 := HSh.out.rnd hR12
    have HY2 := Lib.hid (HY1.out.rnd hR12)
    have HR2 := Lib.hid (HR1.out.trans hR12)
    have hdl : lenL (x.N / y.N) ≤ 10000 := Nat.le_trans (lenL_mono (Nat.div_le_self _ _)) (Nat.le_trans (lenL_le.2 OX.out.1.1) HSh.out.lx)
    have hml : lenL (x.N % y.N) ≤ 10000 := Nat.le_trans (lenL_mono (Nat.mod_le _ _)) (Nat.le_trans (lenL_le.2 OX.out.1.1) HSh.out.lx)
    have HH := Lib.hid (NumO.fresh (c := c3) X3.out (Nat.le_refl _) x1 x2 (by omega) hB1 hrow)
    have HL := Lib.hid (NumO.fresh (c := c4) Y3.out (Nat.le_refl _) y1 y2 (by omega) hB1 hrow)
    have hxlt : x.N < P9 m * P9 m := by have := HSh.out.lt; rwa [hq, P9_succ] at this
    have HQ1 : Hid (x.N / y.N < P9 m) := Lib.hid (by rw [HP1.out, Nat.div_lt_iff_lt_mul (P9_pos m)]; exact hxlt)
    have HQ2 : Hid (x.N % y.N < P9 m) := Lib.hid (by rw [HP1.out]; exact Nat.mod_lt _ (P9_pos m))
    have hs2 : W.heap.size < V2.heap.size := by have := hC.size; omega
    have hmc : m + 1 ≤ c ∧ c ≤ maxLen := by have := HSh.out.lc; rwa [hq] at this
    have c12 := HS2.bp.cell
    rw [hq] at c12
    have HJ2 := Lib.hid hJ2
    have HSS := Lib.hid HS2
    clear hg1 hB1 hR12 hrow HS2 hJ2 X3 Y3 EDV hc1 hc2 hc4 H1 HR1 HY1 OX OY LAD LPA LPP hC HSh hxlt
    go_wp2_with fail
    gi_wp2_with fail
    refine wpIn_loop_rounds 3 ?_
    rw [roundsIn_succ]
    gi_wp2_with (refine ⟨trivial, ?_⟩; gi_at_call 33; refine (callsIn_wide.2 (places_any ⟨A3, lenL (x.N / y.N), c3, x.N / y.N⟩ _ _ _ _)).mono ?_; rintro e w' ⟨rfl, rfl⟩)
    obtain ⟨hr3, hp3⟩ := psrc_half (hJb _ _ HJ2.out) HSS.out hq HH.out HQ1.out hdl
    obtain ⟨W3, hW3⟩ : ∃ W3, (V2.alloc (.cells #[.slice A3 (lenL (x.N / y.N)) c3] 23)).alloc (.cells #[.slice (some ad) m c] 26) = W3 := ⟨_, rfl⟩
    simp only [hW3] at hr3 hp3 ⊢
    have hz3 := hr3.size
    have hj3 : J (pre) W3 := by rw [← hW3]; exact hJ.alloc _ (hJ.alloc _ HJ2.out)
    have hy3 := HY2.out.rnd hr3
    refine wpIn_rangeFunc_on (b := b) N (xs := placesOf m (x.N / y.N)) (pre := pre) (w0 := W3) rfl rfl (gf := 50) (lb := #[.pointer (some ⟨V2.heap.size + 1, 0, none⟩), .pointer (some ⟨V2.heap.size, 0, none⟩)]) rfl (enters_of Tryz.func50 (by kernel_rfl) rfl) rfl (by rw [places_length]; omega)
      (fun s V => J s V ∧ Rnd b W3 V) (fun s A B row h hg hr => ⟨hJ _ _ _ _ h.1 hg (fun r e => ⟨by have := (hr r e).1; omega, (hr r e).2⟩), h.2.turn (hJb _ _ h.1) hg hr⟩) (fun s A h => hJb s A h.1) ⟨hj3, Rnd.refl _ _⟩ (Rnd.refl _ _) (ih W3 _ _ _ _ (q.take m) ⟨A3, lenL (x.N / y.N), c3, x.N / y.N⟩ (by rw [List.length_take]; omega) hp3) ?round3 ?done3
    case round3 =>
      clear hW3 hp3 hj3
      intro l2 s x' V hl2 _ hx' hsN
      gi_wp2
      refine ⟨trivial, fun V' hI' => ?_⟩
      obtain ⟨hJ', hR'⟩ := hI'
      have hcy := (hy3.rnd hR').cell
      obtain ⟨fn, tmps, assign, body, hy, hRd⟩ := HYY.out s x' V' hJ' hx' hsN
      have HRd := Lib.hid hRd
      have HR' := Lib.hid hR'
      clear hy3 hRd hR' hr3
      gi_wp2
      refine (round_on HRd.out).mono ?_
      rintro e V3 ⟨rfl, hJ3, hR3⟩
      gi_wp2
      exact ⟨⟨hJ3, HR'.out.trans hR3⟩, hR3⟩
    case done3 =>
      intro D V hD hI hRV hK
      have HJV := Lib.hid hI.1
      have hrv := hr3.trans hRV
      have HRV := Lib.hid (HR2.out.trans hrv)
      have HSV := Lib.hid (HSS.out.rnd hrv)
      have HYV := Lib.hid (HY2.out.rnd hrv)
      have HLV := Lib.hid (HL.out.rnd hrv)
      have HK1 := Lib.hid hK
      have hDl : D < V.heap.size := (Array.getElem?_eq_some_iff.1 hK).1
      have hsV := hrv.size
      have c13 := HSV.out.bp.cell
      rw [hq] at c13
      clear hI hrv hr3 hp3 hy3 hj3 hW3 hRV hK HSS HY2 HL HJ2 HR2 c12
      gi_wp2_with fail
      rw [roundsIn_succ]
      gi_wp2_with (refine ⟨trivial, ?_⟩; gi_at_call 33; refine (callsIn_wide.2 (places_any ⟨A4, lenL (x.N % y.N), c4, x.N % y.N⟩ _ _ _ _)).mono ?_; rintro e w' ⟨rfl, rfl⟩)
      obtain ⟨hr4, hp4⟩ := psrc_half (hJb _ _ HJV.out) HSV.out hq HLV.out HQ2.out hml
      obtain ⟨W4, hW4⟩ : ∃ W4, (V.alloc (.cells #[.slice A4 (lenL (x.N % y.N)) c4] 23)).alloc (.cells #[.slice (some ad) m c] 26) = W4 := ⟨_, rfl⟩
      simp only [hW4] at hr4 hp4 ⊢
      have hz4 := hr4.size
      have hj4 : J (pre ++ placesOf m (x.N / y.N)) W4 := by rw [← hW4]; exact hJ.alloc _ (hJ.alloc _ HJV.out)
      have hy4 := HYV.out.rnd hr4
      refine wpIn_rangeFunc_on (b := b) N (xs := placesOf m (x.N % y.N)) (pre := pre ++ placesOf m (x.N / y.N)) (w0 := W4) rfl rfl (gf := 50) (lb := #[.pointer (some ⟨V.heap.size + 1, 0, none⟩), .pointer (some ⟨V.heap.size, 0, none⟩)]) rfl (enters_of Tryz.func50 (by kernel_rfl) rfl) rfl (by rw [List.length_append, places_length, places_length]; omega)
        (fun s V => J s V ∧ Rnd b W4 V) (fun s A B row h hg hr => ⟨hJ _ _ _ _ h.1 hg (fun r e => ⟨by have := (hr r e).1; omega, (hr r e).2⟩), h.2.turn (hJb _ _ h.1) hg hr⟩) (fun s A h => hJb s A h.1) ⟨hj4, Rnd.refl _ _⟩ (Rnd.refl _ _) (ih W4 _ _ _ _ (q.take m) ⟨A4, lenL (x.N % y.N), c4, x.N % y.N⟩ (by rw [List.length_take]; omega) hp4) ?round4 ?done4
      case round4 =>
        clear hW4 hp4 hj4
        intro l2 s x' V hl2 _ hx' hsN
        gi_wp2
        refine ⟨trivial, fun V' hI' => ?_⟩
        obtain ⟨hJ', hR'⟩ := hI'
        have hcy := (hy4.rnd hR').cell
        obtain ⟨fn, tmps, assign, body, hy, hRd⟩ := HYY.out s x' V' hJ' hx' hsN
        have HRd := Lib.hid hRd
        have HR' := Lib.hid hR'
        clear hy4 hRd hR' hr4
        gi_wp2
        refine (round_on HRd.out).mono ?_
        rintro e V3 ⟨rfl, hJ3, hR3⟩
        gi_wp2
        exact ⟨⟨hJ3, HR'.out.trans hR3⟩, hR3⟩
      case done4 =>
        intro D2 V4 hD2 hI hRV hK
        have HJ4 := Lib.hid hI.1
        have hrv := hr4.trans hRV
        have HR4 := Lib.hid (HRV.out.trans hrv)
        have HK2 := Lib.hid hK
        have HK3 := Lib.hid (((hrv.keep D hDl ((hJb _ _ HJV.out).out_of HK1.out rfl)).1).trans HK1.out)
        have hs4 := hrv.size
        have hD2l : D2 < V4.heap.size := (Array.getElem?_eq_some_iff.1 hK).1
        clear hI hrv hr4 hp4 hy4 hj4 hW4 hRV hK HSV HYV HLV HJV HRV HK1 c13
        gi_wp2_with fail
        rw [roundsIn_succ]
        gi_wp2_with fail
        have hne : D ≠ D2 := by omega
        have hk4 : (V4.putObj D2 (.deferred none)).heap[D]? = some (.deferred (some [])) := (World.putObj_heap_other hne).trans HK3.out
        have hWD : W.heap.size ≤ D := by omega
        have hWD2 : W.heap.size ≤ D2 := by omega
        have hj1 := hJ.putObj (.deferred none) HJ4.out hWD2 HK2.out rfl
        have hj2 := hJ.putObj (.deferred none) hj1 hWD hk4 rfl
        have hq1 := HR4.out.turn (hJb _ _ HJ4.out) (grownBy_putObj' V4 D2 (.deferred none)) (fun r e => by cases e; exact ⟨hWD2, _, HK2.out, rfl⟩)
        have hq2 := hq1.turn (hJb _ _ hj1) (grownBy_putObj' _ D (.deferred none)) (fun r e => by cases e; exact ⟨hWD, _, hk4, rfl⟩)
        have hpl : placesOf (m + 1) x.N = placesOf m (x.N / y.N) ++ placesOf m (x.N % y.N) := by rw [HP1.out]; rfl
        refine ⟨by simp, .inl ⟨_, _, rfl, run_takeDeferred HK2.out, by simp, .inl ⟨_, _, rfl, run_takeDeferred hk4, ?_⟩⟩⟩
        exact ⟨_, results_none rfl _ _ _, ⟨_, rfl⟩, by rw [hpl, ← List.append_assoc]; exact hj2, hq2⟩

theorem places_tells (b m : Nat) (hmb : m ≤ 1000) : ∀ (w0 : World) (pp pa : Nat) (A : Option Addr) (c : Nat) (l : List Num) (x : Num), l.length = m → PSrc b w0 pp pa A c l x →
    TellsOn b Tryz.prog 50 #[.pointer (some ⟨pp, 0, none⟩), .pointer (some ⟨pa, 0, none⟩)] (placesOf m x.N) w0 := by
  induction m with
  | zero =>
    intro w0 pp pa A c l x hl hS
    obtain rfl := List.eq_nil_of_length_eq_zero hl
    exact places_nil b w0 pp pa A c x hS
  | succ m ih => exact fun w0 pp pa A c l x hl hS => places_step b m (by omega) (ih (by omega)) w0 pp pa A c l x hl hS
end Go.Proofs.YtaancfhbmjkoaaaGreatDoor
