/- Contract of package prod's byHalves: three products of halves for four. -/
import Derived.Deep.RegionWith
import Derived.StillTailTactics
import Derived.Test.YtfijbocblmhdbaaGNatB
import Derived.Test.YtfijbocblmhdbaaPBy
namespace Go.Proofs.Ytfijbocblmhdbaa
open Go Go.RowKit

/-- A literal of two values lies at g. -/
def Lit (W : World) (g : Nat) (a b : Value) : Prop := W.cell? ⟨g, 0, none⟩ = some a ∧ W.cell? ⟨g, 1, none⟩ = some b ∧ g < W.heap.size
theorem Lit.new (W : World) (t : TypeId) (a b : Value) : Lit (W.alloc (.cells #[a, b] t)) W.heap.size a b := by
  have h := World.alloc_heap_new' W (.cells #[a, b] t)
  exact ⟨by simp only [World.cell?, h]; rfl, by simp only [World.cell?, h]; rfl, by simp⟩
theorem Lit.later {W W' : World} {g : Nat} {a b : Value} (h : Lit W g a b) (hb : Below W.heap.size W W') : Lit W' g a b :=
  ⟨(hb.cell (p := ⟨g, 0, none⟩) h.2.2).trans h.1, (hb.cell (p := ⟨g, 1, none⟩) h.2.2).trans h.2.1, Nat.lt_of_lt_of_le h.2.2 hb.size⟩
theorem Lit.alloc {W : World} {g : Nat} {a b : Value} (h : Lit W g a b) (o : Obj) : Lit (W.alloc o) g a b := h.later ((Below.refl _ W).alloc (Nat.le_refl _) o)
theorem Lit.drew {W : World} {g : Nat} {a b : Value} (h : Lit W g a b) : Lit W.drew g a b := h

/-- The sum of two numbers that lie in a literal. -/
theorem add_two {w W : World} {g : Nat} {x y : Num} (hx : x.ok w w.heap.size) (hy : y.ok w w.heap.size) (hB : Below w.heap.size w W) (hl : Lit W g (.slice x.A x.n x.c) (.slice y.A y.n y.c)) :
    Calls Try.prog 54 #[.slice (some ⟨g, 0, none⟩) 2 2] W (Gives W (x.N + y.N)) := by
  have hR : Rds W W.heap.size (some ⟨g, 0, none⟩) [x, y] := fun k hk => by
    match k, hk with
    | 0, _ => exact ⟨⟨_, rfl, hl.2.2, by rw [add_new]; exact hl.1⟩, hx.later hB⟩
    | 1, _ => exact ⟨⟨_, rfl, hl.2.2, by rw [add_new]; exact hl.2.1⟩, hy.later hB⟩
  have := Add_any W (some ⟨g, 0, none⟩) 2 [x, y] hR (by simp)
  simpa [sumN] using this

theorem halves_sum {N0 N1 M0 M1 q : Nat} : N0 * M0 + Bw ^ q * ((N0 + N1) * (M0 + M1) - (N0 * M0 + N1 * M1)) + Bw ^ (2 * q) * (N1 * M1) = (N0 + Bw ^ q * N1) * (M0 + Bw ^ q * M1) := by
  rw [show (N0 + N1) * (M0 + M1) - (N0 * M0 + N1 * M1) = N0 * M1 + N1 * M0 by rw [Nat.add_mul, Nat.mul_add, Nat.mul_add]; omega]
  rw [show 2 * q = q + q by omega, pow_add_mul, Nat.add_mul, Nat.mul_add, Nat.mul_add, Nat.mul_add]
  have e1 : N0 * (Bw ^ q * M1) = Bw ^ q * (N0 * M1) := by ac_rfl
  have e2 : Bw ^ q * N1 * M0 = Bw ^ q * (N1 * M0) := by ac_rfl
  have e3 : Bw ^ q * N1 * (Bw ^ q * M1) = Bw ^ q * Bw ^ q * (N1 * M1) := by ac_rfl
  rw [e1, e2, e3]
  omega
theorem len_of_mul {D q m : Nat} (h : Bw ^ q * D < Bw ^ m) (hq : q ≤ m) : lenL D ≤ m - q := by
  rw [lenL_le]
  rw [show m = q + (m - q) by omega, pow_add_mul] at h
  exact Nat.lt_of_mul_lt_mul_left h
theorem halves_le {N0 N1 M0 M1 : Nat} : N0 * M0 + N1 * M1 ≤ (N0 + N1) * (M0 + M1) := by
  rw [Nat.add_mul, Nat.mul_add, Nat.mul_add]; omega
theorem halves_of (N q : Nat) : N % Bw ^ q + Bw ^ q * (N / Bw ^ q) = N := Nat.mod_add_div N _

set_option maxRecDepth 100000 in
set_option maxHeartbeats 8000000 in
theorem byHalves_any (bx m : Nat) (HP : ProdAt bx m) (A A' : Option Addr) (n n' c c' N M : Nat) (w : World) (hbx : Boxed w bx 34 (.func (.func 49) #[] #[.pointer (some ⟨bx, 0, none⟩)])) (hn : n ≤ 1000000000000) (h2 : 2 ≤ n') (h3 : n' ≤ n) (h4 : n < 2 * n') (hm : n + 3 < m) (h : Rd w w.heap.size A n N) (h' : Rd w w.heap.size A' n' M)
    (hnc : n ≤ c) (hcb : c ≤ 9223372036854775807) (hnc' : n' ≤ c') (hcb' : c' ≤ 9223372036854775807) :
    Calls Try.prog 52 #[.slice A n c, .slice A' n' c', .func (.func 49) #[] #[.pointer (some ⟨bx, 0, none⟩)]] w (Gives w (N * M)) := by
  obtain ⟨ad, rfl, _, _⟩ := h.at_ (k := 0) (by omega)
  obtain ⟨ad', rfl, _, _⟩ := h'.at_ (k := 0) (by omega)
  obtain ⟨q, hq⟩ : ∃ q, (n + 1) / 2 = q := ⟨_, rfl⟩
  have hqi : ((n : Int) + 1) / 2 = (q : Int) := by omega
  have hq1 : q ≤ n := by omega
  have hq2 : q ≤ n' := by omega
  have hq3 : 2 * q ≤ n + 1 := by omega
  have hq4 : n ≤ 2 * q := by omega
  have hA0 := Lib.hid (h.low hq1)
  have hA1 := Lib.hid (h.high hq1)
  have hB0 := Lib.hid (h'.low hq2)
  obtain ⟨Bh, hBh⟩ : ∃ Bh, (if c' = q then some ad' else some (ad'.add q)) = Bh := ⟨_, rfl⟩
  have hB1 : Hid (Rd w w.heap.size Bh (n' - q) (M / Bw ^ q)) := by
    have := h'.high hq2
    rw [← hBh]
    split
    · exact this.empty (by omega)
    · exact this
  have hqn : q < n := by omega
  have hqc0 : ¬ c = q := by omega
  have hqc : q ≤ c := by omega
  have hqc' : q ≤ c' := by omega
  clear hq
  obtain ⟨N0, hN0⟩ : ∃ N0, N % Bw ^ q = N0 := ⟨_, rfl⟩
  obtain ⟨N1, hN1⟩ : ∃ N1, N / Bw ^ q = N1 := ⟨_, rfl⟩
  obtain ⟨M0, hM0⟩ : ∃ M0, M % Bw ^ q = M0 := ⟨_, rfl⟩
  obtain ⟨M1, hM1⟩ : ∃ M1, M / Bw ^ q = M1 := ⟨_, rfl⟩
  rw [hN0] at hA0
  rw [hN1] at hA1
  rw [hM0] at hB0
  rw [hM1] at hB1
  have l0 := lenL_le.2 hA0.out.1
  have l1 := lenL_le.2 hA1.out.1
  have l2 := lenL_le.2 hB0.out.1
  have l3 := lenL_le.2 hB1.out.1
  have EL := Lib.hid (fun (W : World) (hB : Below w.heap.size w W) => HP W (some ad) (some ad') q q c c' N0 M0 (boxed_below hbx hB hbx.lt) ((hA0.out.below hB).more hB.size) ((hB0.out.below hB).more hB.size) (by omega) hcb (by omega) hcb' (by omega) (by omega) (by omega))
  have EH := Lib.hid (fun (W : World) (hB : Below w.heap.size w W) => HP W (some (ad.add q)) Bh (n - q) (n' - q) (c - q) (c' - q) N1 M1 (boxed_below hbx hB hbx.lt) ((hA1.out.below hB).more hB.size) ((hB1.out.below hB).more hB.size) (by omega) (by omega) (by omega) (by omega) (by omega) (by omega) (by omega))
  have HN := Lib.hid hN0
  have HN' := Lib.hid hN1
  have HM := Lib.hid hM0
  have HM' := Lib.hid hM1
  clear hN0 hN1 hM0 hM1
  go_enter Try.func52, Try.ntmps52
  go_wp2
  go_region_with (go_at_call 49; refine (EL.out _ (Below.drew (Below.refl _ w))).mono ?_; rintro e wa ⟨Al, cl, rfl, a1, a2, a3, a4⟩)
  simp only [List.getElem_toArray, List.getElem_cons_succ, List.getElem_cons_zero, Act.put, List.setIfInBounds_toArray, List.set_cons_zero, List.set_cons_succ]
  have hBa : Below w.heap.size w wa := (Below.drew (Below.refl _ w)).trans a4
  have HL := Lib.hid (show Fr wa w.heap.size wa.heap.size Al (lenL (N0 * M0)) (N0 * M0) from a3)
  clear a3 a4
  go_wp2
  go_region_with (go_at_call 49; refine (EH.out _ hBa.drew).mono ?_; rintro e wb ⟨Ah, ch, rfl, b1, b2, b3, b4⟩)
  simp only [List.getElem_toArray, List.getElem_cons_succ, List.getElem_cons_zero, Act.put, List.setIfInBounds_toArray, List.set_cons_zero, List.set_cons_succ]
  have hBb : Below w.heap.size w wb := hBa.trans ((below_drew b4).mono hBa.size)
  have HL2 := Lib.hid (HL.out.keep (below_drew b4))
  have HH := Lib.hid (show Fr wb wa.heap.size wb.heap.size Ah (lenL (N1 * M1)) (N1 * M1) from b3)
  have hab : wa.heap.size ≤ wb.heap.size := (below_drew b4).size
  clear b3 b4 HL
  go_wp2
  have xa0 : (Num.mk (some ad) q c N0).ok w w.heap.size := ⟨hA0.out, hqc, by simpa [maxLen] using hcb, by show q ≤ 35184372087808; omega⟩
  have xa1 : (Num.mk (some (ad.add q)) (n - q) (c - q) N1).ok w w.heap.size := ⟨hA1.out, by simp only; omega, by simp only [maxLen]; omega, by simp only; omega⟩
  have xb0 : (Num.mk (some ad') q c' M0).ok w w.heap.size := ⟨hB0.out, hqc', by simpa [maxLen] using hcb', by show q ≤ 35184372087808; omega⟩
  have xb1 : (Num.mk Bh (n' - q) (c' - q) M1).ok w w.heap.size := ⟨hB1.out, by simp only; omega, by simp only [maxLen]; omega, by simp only; omega⟩
  have HSum := Lib.hid (show N0 * M0 + Bw ^ q * ((N0 + N1) * (M0 + M1) - (N0 * M0 + N1 * M1)) + Bw ^ (2 * q) * (N1 * M1) = N * M by rw [halves_sum, ← HN.out, ← HN'.out, ← HM.out, ← HM'.out, halves_of, halves_of])
  have lS : lenL (N0 + N1) ≤ q + 1 := lenL_add hA0.out.1 (lt_pow_of hA1.out.1 (by omega))
  have lT : lenL (M0 + M1) ≤ q + 1 := lenL_add hB0.out.1 (lt_pow_of hB1.out.1 (by omega))
  have hT := Lib.hid (show N * M < Bw ^ (n + n') from prod_lt h.1 h'.1)
  have hpow0 : 0 + Bw ^ 0 * (N0 * M0) = N0 * M0 := by rw [Nat.pow_zero, Nat.one_mul, Nat.zero_add]
  have HT3 := Lib.hid (show 0 + Bw ^ 0 * (N0 * M0) + Bw ^ q * ((N0 + N1) * (M0 + M1) - (N0 * M0 + N1 * M1)) + Bw ^ (2 * q) * (N1 * M1) = N * M by rw [hpow0]; exact HSum.out)
  have HT2 := Lib.hid (show 0 + Bw ^ 0 * (N0 * M0) + Bw ^ q * ((N0 + N1) * (M0 + M1) - (N0 * M0 + N1 * M1)) < Bw ^ (n + n') by have := HT3.out; have := hT.out; omega)
  have HT1 := Lib.hid (show 0 + Bw ^ 0 * (N0 * M0) < Bw ^ (n + n') by have := HT2.out; omega)
  have HD := Lib.hid (show Bw ^ q * ((N0 + N1) * (M0 + M1) - (N0 * M0 + N1 * M1)) < Bw ^ (n + n') by have := HT2.out; omega)
  have lD := len_of_mul HD.out (by omega : q ≤ n + n')
  have lL : lenL (N0 * M0) ≤ q + q := lenL_le.2 (prod_lt hA0.out.1 hB0.out.1)
  have lH : lenL (N1 * M1) ≤ (n - q) + (n' - q) := lenL_le.2 (prod_lt hA1.out.1 hB1.out.1)
  have lS2 : lenL (N0 * M0 + N1 * M1) ≤ q + q + 1 := lenL_add (prod_lt hA0.out.1 hB0.out.1) (lt_pow_of (prod_lt hA1.out.1 hB1.out.1) (by omega))
  have lP : lenL ((N0 + N1) * (M0 + M1)) ≤ (q + 1) + (q + 1) := lenL_le.2 (prod_lt (lenL_le.1 lS) (lenL_le.1 lT))
  have EA1 := Lib.hid (fun (W : World) (g : Nat) (hb : Buf W g (n + n') 0) (hr : Rn W g Al (lenL (N0 * M0)) (N0 * M0)) (hg : g < W.heap.size) => addAt_any W g (n + n') (n + n') 0 (lenL (N0 * M0)) cl 0 (N0 * M0) Al hb HT1.out (by omega) (by omega) (by omega) hr hg)
  have EA2 := Lib.hid (fun (W : World) (g : Nat) (Ad : Option Addr) (cd : Nat) (hb : Buf W g (n + n') (0 + Bw ^ 0 * (N0 * M0))) (hr : Rn W g Ad (lenL ((N0 + N1) * (M0 + M1) - (N0 * M0 + N1 * M1))) ((N0 + N1) * (M0 + M1) - (N0 * M0 + N1 * M1))) (hg : g < W.heap.size) => addAt_any W g (n + n') (n + n') q (lenL ((N0 + N1) * (M0 + M1) - (N0 * M0 + N1 * M1))) cd (0 + Bw ^ 0 * (N0 * M0)) ((N0 + N1) * (M0 + M1) - (N0 * M0 + N1 * M1)) Ad hb HT2.out (by omega) (by omega) (by omega) hr hg)
  have EA3 := Lib.hid (fun (W : World) (g : Nat) (hb : Buf W g (n + n') (0 + Bw ^ 0 * (N0 * M0) + Bw ^ q * ((N0 + N1) * (M0 + M1) - (N0 * M0 + N1 * M1)))) (hr : Rn W g Ah (lenL (N1 * M1)) (N1 * M1)) (hg : g < W.heap.size) => addAt_any W g (n + n') (n + n') (2 * q) (lenL (N1 * M1)) ch (0 + Bw ^ 0 * (N0 * M0) + Bw ^ q * ((N0 + N1) * (M0 + M1) - (N0 * M0 + N1 * M1))) (N1 * M1) Ah hb (by rw [HT3.out]; exact hT.out) (by omega) (by omega) (by omega) hr hg)
  rw [HT3.out] at EA3
  rw [show ((0 : Nat) : Int) = 0 from rfl] at EA1
  rw [show ((2 * q : Nat) : Int) = 2 * (q : Int) from by omega] at EA3
  have HLE := Lib.hid (halves_le (N0 := N0) (N1 := N1) (M0 := M0) (M1 := M1))
  clear hpow0
  refine wp_region_any (by kernel_rfl) ?_
  change wpAny _ _ _ _ _ _ _ (World.drew _)
  refine wpAny_take (i := 0) (v := _) rfl (by kernel_rfl) (by kernel_rfl) (by kernel_rfl) (fun _ _ _ h => h) (Or.inl ⟨by rfl, fun w => BigFrame.run_move (.tmp 2) rfl w⟩) ?_
  simp only [Act.eval, List.getElem_toArray, List.getElem_cons_zero, Act.put, List.setIfInBounds_toArray, List.set_cons_zero, List.set_cons_succ]
  refine wpAny_take (i := 1) (v := _) rfl (by kernel_rfl) (by kernel_rfl) (by kernel_rfl) (fun _ _ _ h => h) (Or.inl ⟨by rfl, fun w => BigFrame.run_move (.tmp 0) rfl w⟩) ?_
  simp only [Act.eval, List.getElem_toArray, List.getElem_cons_succ, List.getElem_cons_zero, Act.put, List.setIfInBounds_toArray, List.set_cons_zero, List.set_cons_succ]
  refine wpAny_take (i := 2) (v := _) rfl (by kernel_rfl) (by kernel_rfl) (by kernel_rfl) (fun _ _ _ h => h) (Or.inl ⟨by rfl, fun w => BigFrame.run_move (.tmp 7) rfl w⟩) ?_
  simp only [Act.eval, List.getElem_toArray, List.getElem_cons_succ, List.getElem_cons_zero, Act.put, List.setIfInBounds_toArray, List.set_cons_zero, List.set_cons_succ]
  refine wpAny_take (i := 3) (v := .slice (some ad) q c) rfl (by kernel_rfl) (by kernel_rfl) (by kernel_rfl) (fun _ _ _ h => h) (Or.inl ⟨by rfl, fun w => by go_simp⟩) ?_
  simp only [List.getElem_toArray, List.getElem_cons_succ, List.getElem_cons_zero, Act.put, List.setIfInBounds_toArray, List.set_cons_zero, List.set_cons_succ]
  refine wpAny_take (i := 4) (v := _) rfl (by kernel_rfl) (by kernel_rfl) (by kernel_rfl) (fun _ _ _ h => h) (Or.inl ⟨by rfl, fun w => BigFrame.run_move (.tmp 0) rfl w⟩) ?_
  simp only [Act.eval, List.getElem_toArray, List.getElem_cons_succ, List.getElem_cons_zero, Act.put, List.setIfInBounds_toArray, List.set_cons_zero, List.set_cons_succ]
  refine wpAny_take (i := 5) (v := _) rfl (by kernel_rfl) (by kernel_rfl) (by kernel_rfl) (fun _ _ _ h => h) (Or.inl ⟨by rfl, fun w => BigFrame.run_move (.tmp 7) rfl w⟩) ?_
  simp only [Act.eval, List.getElem_toArray, List.getElem_cons_succ, List.getElem_cons_zero, Act.put, List.setIfInBounds_toArray, List.set_cons_zero, List.set_cons_succ]
  refine wpAny_take (i := 6) (v := .slice (some (ad.add q)) (n - q) (c - q)) rfl (by kernel_rfl) (by kernel_rfl) (by kernel_rfl) (fun _ _ _ h => h) (Or.inl ⟨by rfl, fun w => by go_simp⟩) ?_
  simp only [List.getElem_toArray, List.getElem_cons_succ, List.getElem_cons_zero, Act.put, List.setIfInBounds_toArray, List.set_cons_zero, List.set_cons_succ]
  refine wpAny_take (i := 9) (v := _) rfl (by kernel_rfl) (by kernel_rfl) (by kernel_rfl) (fun _ _ _ h => h) (Or.inl ⟨by rfl, fun w => BigFrame.run_move (.tmp 1) rfl w⟩) ?_
  simp only [Act.eval, List.getElem_toArray, List.getElem_cons_succ, List.getElem_cons_zero, Act.put, List.setIfInBounds_toArray, List.set_cons_zero, List.set_cons_succ]
  refine wpAny_take (i := 10) (v := _) rfl (by kernel_rfl) (by kernel_rfl) (by kernel_rfl) (fun _ _ _ h => h) (Or.inl ⟨by rfl, fun w => BigFrame.run_move (.tmp 7) rfl w⟩) ?_
  simp only [Act.eval, List.getElem_toArray, List.getElem_cons_succ, List.getElem_cons_zero, Act.put, List.setIfInBounds_toArray, List.set_cons_zero, List.set_cons_succ]
  refine wpAny_take (i := 11) (v := .slice (some ad') q c') rfl (by kernel_rfl) (by kernel_rfl) (by kernel_rfl) (fun _ _ _ h => h) (Or.inl ⟨by rfl, fun w => by go_simp⟩) ?_
  simp only [List.getElem_toArray, List.getElem_cons_succ, List.getElem_cons_zero, Act.put, List.setIfInBounds_toArray, List.set_cons_zero, List.set_cons_succ]
  refine wpAny_take (i := 12) (v := _) rfl (by kernel_rfl) (by kernel_rfl) (by kernel_rfl) (fun _ _ _ h => h) (Or.inl ⟨by rfl, fun w => BigFrame.run_move (.tmp 1) rfl w⟩) ?_
  simp only [Act.eval, List.getElem_toArray, List.getElem_cons_succ, List.getElem_cons_zero, Act.put, List.setIfInBounds_toArray, List.set_cons_zero, List.set_cons_succ]
  refine wpAny_take (i := 13) (v := _) rfl (by kernel_rfl) (by kernel_rfl) (by kernel_rfl) (fun _ _ _ h => h) (Or.inl ⟨by rfl, fun w => BigFrame.run_move (.tmp 7) rfl w⟩) ?_
  simp only [Act.eval, List.getElem_toArray, List.getElem_cons_succ, List.getElem_cons_zero, Act.put, List.setIfInBounds_toArray, List.set_cons_zero, List.set_cons_succ]
  refine wpAny_take (i := 14) (v := .slice Bh (n' - q) (c' - q)) rfl (by kernel_rfl) (by kernel_rfl) (by kernel_rfl) (fun _ _ _ h => h) (Or.inl ⟨by rfl, fun w => by go_simp⟩) ?_
  simp only [List.getElem_toArray, List.getElem_cons_succ, List.getElem_cons_zero, Act.put, List.setIfInBounds_toArray, List.set_cons_zero, List.set_cons_succ]
  refine wpAny_ready (rs := [7, 15]) (by kernel_rfl) (by simp) ?_
  refine AllReady.cons rfl (fun K hK => ?_) ?_
  · go_simp
    refine hK _ _ ?_
    clear hK K
    refine wpAny_ready (rs := [8, 15]) (by kernel_rfl) (by simp) ?_
    refine AllReady.cons rfl (fun K hK => ?_) ?_
    · go_simp
      have kU : Below wb.heap.size wb (wb.alloc (Obj.cells #[Value.slice (some ad) q c, Value.slice (some (ad.add q)) (n - q) (c - q)] 23)).drew := ((Below.refl _ wb).alloc (Nat.le_refl _) _).drew
      have lit1 := (Lit.new wb 23 (.slice (some ad) q c) (.slice (some (ad.add q)) (n - q) (c - q))).drew
      refine (add_two (x := Num.mk (some ad) q c N0) (y := Num.mk (some (ad.add q)) (n - q) (c - q) N1) xa0 xa1 (hBb.trans (kU.mono hBb.size)) lit1).mono ?_
      rintro e w1 ⟨As, cs, rfl, s1, s2, s3, s4⟩
      dsimp only at s1 s3
      have k1 : Below wb.heap.size wb w1 := kU.trans (s4.mono kU.size)
      replace s3 := s3.from kU.size
      clear s4 lit1 kU
      refine hK _ _ ?_
      clear hK K
      refine wpAny_ready (rs := [15]) (by kernel_rfl) (by simp) ?_
      refine AllReady.cons rfl (fun K hK => ?_) ?_
      · go_simp
        refine hK _ _ ?_
        clear hK K
        refine wpAny_ready (rs := [16]) (by kernel_rfl) (by simp) ?_
        refine AllReady.cons rfl (fun K hK => ?_) ?_
        · go_simp
          have lit2 := Lit.new w1 23 (.slice (some ad') q c') (.slice Bh (n' - q) (c' - q))
          replace s3 := (s3.keep ((Below.refl w1.heap.size w1).alloc (Nat.le_refl _) (Obj.cells #[Value.slice (some ad') q c', Value.slice Bh (n' - q) (c' - q)] 23))).more (hi' := (w1.alloc (Obj.cells #[Value.slice (some ad') q c', Value.slice Bh (n' - q) (c' - q)] 23)).heap.size) (by simp)
          replace k1 := k1.alloc k1.size (Obj.cells #[Value.slice (some ad') q c', Value.slice Bh (n' - q) (c' - q)] 23)
          generalize hV : w1.alloc (Obj.cells #[Value.slice (some ad') q c', Value.slice Bh (n' - q) (c' - q)] 23) = V at *
          refine (add_two (x := Num.mk (some ad') q c' M0) (y := Num.mk Bh (n' - q) (c' - q) M1) xb0 xb1 (hBb.trans (k1.mono hBb.size)) lit2).mono ?_
          rintro e w2 ⟨At, ct, rfl, t1, t2, t3, t4⟩
          dsimp only at t1 t3
          have k2 : Below wb.heap.size wb w2 := k1.trans (t4.mono k1.size)
          replace s3 := s3.keep t4
          replace s3 := s3.more t4.size
          replace t3 := t3.from k1.size
          clear t4 lit2 k1 hV
          refine hK _ _ ?_
          clear hK K
          refine wpAny_ready (rs := [17]) (by kernel_rfl) (by simp) ?_
          refine AllReady.cons rfl (fun K hK => ?_) ?_
          · go_simp
            have EM := Lib.hid (HP w2 As At (lenL (N0 + N1)) (lenL (M0 + M1)) cs ct (N0 + N1) (M0 + M1) (boxed_below hbx (hBb.trans (k2.mono hBb.size)) hbx.lt) s3.rd t3.rd s1 (by simpa [maxLen] using s2) t1 (by simpa [maxLen] using t2) (by omega) (by omega) (by omega))
            clear s3 t3
            refine EM.out.mono ?_
            rintro e w3 ⟨Am, cm, rfl, m1, m2, m3, m4⟩
            have k3 : Below wb.heap.size wb w3 := k2.trans (m4.mono k2.size)
            clear m4 k2 EM
            refine hK _ _ ?_
            clear hK K
            refine wpAny_take (i := 18) (v := _) rfl (by kernel_rfl) (by kernel_rfl) (by kernel_rfl) (fun _ _ _ h => h) (Or.inl ⟨by rfl, fun w => BigFrame.run_assign (.tmp 49) rfl w⟩) ?_
            simp only [Act.eval, List.getElem_toArray, List.getElem_cons_succ, List.getElem_cons_zero, Act.put, List.setIfInBounds_toArray, List.set_cons_zero, List.set_cons_succ]
            refine wpAny_done (by kernel_rfl) ?_ _
            have rl : (Num.mk Al (lenL (N0 * M0)) cl (N0 * M0)).ok w3 w3.heap.size := ⟨(((HL2.out.rd.more hab).below k3).more k3.size), a1, a2, by show lenL (N0 * M0) ≤ 35184372087808; omega⟩
            have rh : (Num.mk Ah (lenL (N1 * M1)) ch (N1 * M1)).ok w3 w3.heap.size := ⟨((HH.out.rd.below k3).more k3.size), b1, b2, by show lenL (N1 * M1) ≤ 35184372087808; omega⟩
            have ES := Lib.hid (add_two rl rh ((Below.refl _ w3).alloc (Nat.le_refl _) (Obj.cells #[Value.slice Al (lenL (N0 * M0)) cl, Value.slice Ah (lenL (N1 * M1)) ch] 23)) (Lit.new w3 23 (.slice Al (lenL (N0 * M0)) cl) (.slice Ah (lenL (N1 * M1)) ch)))
            go_wp2_with fail
            refine ES.out.mono ?_
            rintro e w4 ⟨Au, cu, rfl, u1, u2, u3, u4⟩
            try dsimp only at u1 u3
            have k4 : Below w3.heap.size w3 w4 := ((Below.refl _ w3).alloc (Nat.le_refl _) _).trans (u4.mono (by simp))
            have ED := Lib.hid (Sub_yes w4 Am Au (lenL ((N0 + N1) * (M0 + M1))) (lenL (N0 * M0 + N1 * M1)) cm cu ((N0 + N1) * (M0 + M1)) (N0 * M0 + N1 * M1) ((m3.rd.below k4).more k4.size) u3.rd (by omega) (by omega) m1 m2 HLE.out)
            clear u3 u4 m3 ES
            go_wp2_with fail
            refine ED.out.mono ?_
            rintro e w5 ⟨Ad, cd, rfl, d1, d2, d3, d4⟩
            have k5 : Below w3.heap.size w3 w5 := k4.trans (d4.mono k4.size)
            have hw5 : Below w.heap.size w w5 := hBb.trans ((k3.trans (k5.mono k3.size)).mono hBb.size)
            obtain ⟨w6, hmk, hF6, hb6, hs6⟩ := made_any w5 (n + n') (by omega)
            rw [show (((n + n' : Nat)) : Int) = (n : Int) + (n' : Int) from by omega] at hmk
            have HB6 := Lib.hid (Buf.of_fr hF6)
            have hg6 : w5.heap.size < w6.heap.size := by omega
            have E1 := Lib.hid (EA1.out w6 w5.heap.size HB6.out ((((rl.1.below k5).more k5.size).below hb6).rn (Nat.le_refl _)) hg6)
            have RD := Lib.hid ((d3.rd.below hb6).rn (Nat.le_refl _))
            have RH := Lib.hid (((rh.1.below k5).more k5.size).below hb6 |>.rn (Nat.le_refl _))
            have hw6 : Below w.heap.size w w6 := hw5.trans (hb6.mono hw5.size)
            clear hF6 hs6 d3 d4 ED
            go_wp2_with fail
            refine E1.out.mono ?_
            rintro e w7 ⟨⟨v7, rfl⟩, hG7, hb7⟩
            have hg7 := Nat.lt_of_lt_of_le hg6 hG7.size
            have E2 := Lib.hid (EA2.out w7 w5.heap.size Ad cd hb7 (RD.out.grown hG7) hg7)
            clear hmk E1 hb7
            go_wp2_with fail
            refine E2.out.mono ?_
            rintro e w8 ⟨⟨v8, rfl⟩, hG8, hb8⟩
            have hg8 := Nat.lt_of_lt_of_le hg7 hG8.size
            have E3 := Lib.hid (EA3.out w8 w5.heap.size hb8 ((RH.out.grown hG7).grown hG8) hg8)
            clear E2 hb8
            go_wp2_with fail
            refine E3.out.mono ?_
            rintro e w9 ⟨⟨v9, rfl⟩, hG9, hb9⟩
            have hg9 := Nat.lt_of_lt_of_le hg8 hG9.size
            have hF9 : Fr w9 w.heap.size w9.heap.size (some ⟨w5.heap.size, 0, none⟩) (n + n') (N * M) := hb9.fr hT.out hw5.size hg9
            have E4 := Lib.hid (pcut_any w9 _ _ (n + n') (n + n') (N * M) hF9.rd (Nat.le_refl _) (by omega))
            have hw9 := Lib.hid (hw6.trans ((below_of_grown (hG7.trans (hG8.trans hG9)) (Nat.le_of_lt hg6)).mono hw5.size))
            clear E3 hb9
            go_wp2_with fail
            refine E4.out.mono ?_
            rintro e w' ⟨rfl, rfl⟩
            go_wp2
            go_ret
            exact gives_cut hF9 (by simp only [maxLen]; omega) hw9.out
          exact AllReady.nil
        exact AllReady.nil
      exact AllReady.nil
    refine AllReady.cons rfl (fun K hK => ?_) ?_
    · go_simp
      refine hK _ _ ?_
      clear hK K
      refine wpAny_ready (rs := [8]) (by kernel_rfl) (by simp) ?_
      refine AllReady.cons rfl (fun K hK => ?_) ?_
      · go_simp
        have kU : Below wb.heap.size wb ((wb.alloc (Obj.cells #[Value.slice (some ad) q c, Value.slice (some (ad.add q)) (n - q) (c - q)] 23)).alloc (Obj.cells #[Value.slice (some ad') q c', Value.slice Bh (n' - q) (c' - q)] 23)).drew := (((Below.refl _ wb).alloc (Nat.le_refl _) _).alloc (by simp) _).drew
        have lit1 := ((Lit.new wb 23 (.slice (some ad) q c) (.slice (some (ad.add q)) (n - q) (c - q))).alloc (Obj.cells #[Value.slice (some ad') q c', Value.slice Bh (n' - q) (c' - q)] 23)).drew
        have lit2 := (Lit.new (wb.alloc (Obj.cells #[Value.slice (some ad) q c, Value.slice (some (ad.add q)) (n - q) (c - q)] 23)) 23 (.slice (some ad') q c') (.slice Bh (n' - q) (c' - q))).drew
        rw [World.size_alloc] at lit2
        refine (add_two (x := Num.mk (some ad) q c N0) (y := Num.mk (some (ad.add q)) (n - q) (c - q) N1) xa0 xa1 (hBb.trans (kU.mono hBb.size)) lit1).mono ?_
        rintro e w1 ⟨As, cs, rfl, s1, s2, s3, s4⟩
        dsimp only at s1 s3
        have k1 : Below wb.heap.size wb w1 := kU.trans (s4.mono kU.size)
        replace lit2 := lit2.later s4
        replace s3 := s3.from kU.size
        clear s4 lit1 kU
        refine hK _ _ ?_
        clear hK K
        refine wpAny_ready (rs := [16]) (by kernel_rfl) (by simp) ?_
        refine AllReady.cons rfl (fun K hK => ?_) ?_
        · go_simp
          generalize hV : w1 = V at *
          refine (add_two (x := Num.mk (some ad') q c' M0) (y := Num.mk Bh (n' - q) (c' - q) M1) xb0 xb1 (hBb.trans (k1.mono hBb.size)) lit2).mono ?_
          rintro e w2 ⟨At, ct, rfl, t1, t2, t3, t4⟩
          dsimp only at t1 t3
          have k2 : Below wb.heap.size wb w2 := k1.trans (t4.mono k1.size)
          replace s3 := s3.keep t4
          replace s3 := s3.more t4.size
          replace t3 := t3.from k1.size
          clear t4 lit2 k1 hV
          refine hK _ _ ?_
          clear hK K
          refine wpAny_ready (rs := [17]) (by kernel_rfl) (by simp) ?_
          refine AllReady.cons rfl (fun K hK => ?_) ?_
          · go_simp
            have EM := Lib.hid (HP w2 As At (lenL (N0 + N1)) (lenL (M0 + M1)) cs ct (N0 + N1) (M0 + M1) (boxed_below hbx (hBb.trans (k2.mono hBb.size)) hbx.lt) s3.rd t3.rd s1 (by simpa [maxLen] using s2) t1 (by simpa [maxLen] using t2) (by omega) (by omega) (by omega))
            clear s3 t3
            refine EM.out.mono ?_
            rintro e w3 ⟨Am, cm, rfl, m1, m2, m3, m4⟩
            have k3 : Below wb.heap.size wb w3 := k2.trans (m4.mono k2.size)
            clear m4 k2 EM
            refine hK _ _ ?_
            clear hK K
            refine wpAny_take (i := 18) (v := _) rfl (by kernel_rfl) (by kernel_rfl) (by kernel_rfl) (fun _ _ _ h => h) (Or.inl ⟨by rfl, fun w => BigFrame.run_assign (.tmp 49) rfl w⟩) ?_
            simp only [Act.eval, List.getElem_toArray, List.getElem_cons_succ, List.getElem_cons_zero, Act.put, List.setIfInBounds_toArray, List.set_cons_zero, List.set_cons_succ]
            refine wpAny_done (by kernel_rfl) ?_ _
            have rl : (Num.mk Al (lenL (N0 * M0)) cl (N0 * M0)).ok w3 w3.heap.size := ⟨(((HL2.out.rd.more hab).below k3).more k3.size), a1, a2, by show lenL (N0 * M0) ≤ 35184372087808; omega⟩
            have rh : (Num.mk Ah (lenL (N1 * M1)) ch (N1 * M1)).ok w3 w3.heap.size := ⟨((HH.out.rd.below k3).more k3.size), b1, b2, by show lenL (N1 * M1) ≤ 35184372087808; omega⟩
            have ES := Lib.hid (add_two rl rh ((Below.refl _ w3).alloc (Nat.le_refl _) (Obj.cells #[Value.slice Al (lenL (N0 * M0)) cl, Value.slice Ah (lenL (N1 * M1)) ch] 23)) (Lit.new w3 23 (.slice Al (lenL (N0 * M0)) cl) (.slice Ah (lenL (N1 * M1)) ch)))
            go_wp2_with fail
            refine ES.out.mono ?_
            rintro e w4 ⟨Au, cu, rfl, u1, u2, u3, u4⟩
            try dsimp only at u1 u3
            have k4 : Below w3.heap.size w3 w4 := ((Below.refl _ w3).alloc (Nat.le_refl _) _).trans (u4.mono (by simp))
            have ED := Lib.hid (Sub_yes w4 Am Au (lenL ((N0 + N1) * (M0 + M1))) (lenL (N0 * M0 + N1 * M1)) cm cu ((N0 + N1) * (M0 + M1)) (N0 * M0 + N1 * M1) ((m3.rd.below k4).more k4.size) u3.rd (by omega) (by omega) m1 m2 HLE.out)
            clear u3 u4 m3 ES
            go_wp2_with fail
            refine ED.out.mono ?_
            rintro e w5 ⟨Ad, cd, rfl, d1, d2, d3, d4⟩
            have k5 : Below w3.heap.size w3 w5 := k4.trans (d4.mono k4.size)
            have hw5 : Below w.heap.size w w5 := hBb.trans ((k3.trans (k5.mono k3.size)).mono hBb.size)
            obtain ⟨w6, hmk, hF6, hb6, hs6⟩ := made_any w5 (n + n') (by omega)
            rw [show (((n + n' : Nat)) : Int) = (n : Int) + (n' : Int) from by omega] at hmk
            have HB6 := Lib.hid (Buf.of_fr hF6)
            have hg6 : w5.heap.size < w6.heap.size := by omega
            have E1 := Lib.hid (EA1.out w6 w5.heap.size HB6.out ((((rl.1.below k5).more k5.size).below hb6).rn (Nat.le_refl _)) hg6)
            have RD := Lib.hid ((d3.rd.below hb6).rn (Nat.le_refl _))
            have RH := Lib.hid (((rh.1.below k5).more k5.size).below hb6 |>.rn (Nat.le_refl _))
            have hw6 : Below w.heap.size w w6 := hw5.trans (hb6.mono hw5.size)
            clear hF6 hs6 d3 d4 ED
            go_wp2_with fail
            refine E1.out.mono ?_
            rintro e w7 ⟨⟨v7, rfl⟩, hG7, hb7⟩
            have hg7 := Nat.lt_of_lt_of_le hg6 hG7.size
            have E2 := Lib.hid (EA2.out w7 w5.heap.size Ad cd hb7 (RD.out.grown hG7) hg7)
            clear hmk E1 hb7
            go_wp2_with fail
            refine E2.out.mono ?_
            rintro e w8 ⟨⟨v8, rfl⟩, hG8, hb8⟩
            have hg8 := Nat.lt_of_lt_of_le hg7 hG8.size
            have E3 := Lib.hid (EA3.out w8 w5.heap.size hb8 ((RH.out.grown hG7).grown hG8) hg8)
            clear E2 hb8
            go_wp2_with fail
            refine E3.out.mono ?_
            rintro e w9 ⟨⟨v9, rfl⟩, hG9, hb9⟩
            have hg9 := Nat.lt_of_lt_of_le hg8 hG9.size
            have hF9 : Fr w9 w.heap.size w9.heap.size (some ⟨w5.heap.size, 0, none⟩) (n + n') (N * M) := hb9.fr hT.out hw5.size hg9
            have E4 := Lib.hid (pcut_any w9 _ _ (n + n') (n + n') (N * M) hF9.rd (Nat.le_refl _) (by omega))
            have hw9 := Lib.hid (hw6.trans ((below_of_grown (hG7.trans (hG8.trans hG9)) (Nat.le_of_lt hg6)).mono hw5.size))
            clear E3 hb9
            go_wp2_with fail
            refine E4.out.mono ?_
            rintro e w' ⟨rfl, rfl⟩
            go_wp2
            go_ret
            exact gives_cut hF9 (by simp only [maxLen]; omega) hw9.out
          exact AllReady.nil
        exact AllReady.nil
      exact AllReady.nil
    exact AllReady.nil
  refine AllReady.cons rfl (fun K hK => ?_) ?_
  · go_simp
    refine hK _ _ ?_
    clear hK K
    refine wpAny_ready (rs := [7]) (by kernel_rfl) (by simp) ?_
    refine AllReady.cons rfl (fun K hK => ?_) ?_
    · go_simp
      refine hK _ _ ?_
      clear hK K
      refine wpAny_ready (rs := [8]) (by kernel_rfl) (by simp) ?_
      refine AllReady.cons rfl (fun K hK => ?_) ?_
      · go_simp
        have kU : Below wb.heap.size wb ((wb.alloc (Obj.cells #[Value.slice (some ad') q c', Value.slice Bh (n' - q) (c' - q)] 23)).alloc (Obj.cells #[Value.slice (some ad) q c, Value.slice (some (ad.add q)) (n - q) (c - q)] 23)).drew := (((Below.refl _ wb).alloc (Nat.le_refl _) _).alloc (by simp) _).drew
        have lit1 := (Lit.new (wb.alloc (Obj.cells #[Value.slice (some ad') q c', Value.slice Bh (n' - q) (c' - q)] 23)) 23 (.slice (some ad) q c) (.slice (some (ad.add q)) (n - q) (c - q))).drew
        rw [World.size_alloc] at lit1
        have lit2 := ((Lit.new wb 23 (.slice (some ad') q c') (.slice Bh (n' - q) (c' - q))).alloc (Obj.cells #[Value.slice (some ad) q c, Value.slice (some (ad.add q)) (n - q) (c - q)] 23)).drew
        refine (add_two (x := Num.mk (some ad) q c N0) (y := Num.mk (some (ad.add q)) (n - q) (c - q) N1) xa0 xa1 (hBb.trans (kU.mono hBb.size)) lit1).mono ?_
        rintro e w1 ⟨As, cs, rfl, s1, s2, s3, s4⟩
        dsimp only at s1 s3
        have k1 : Below wb.heap.size wb w1 := kU.trans (s4.mono kU.size)
        replace lit2 := lit2.later s4
        replace s3 := s3.from kU.size
        clear s4 lit1 kU
        refine hK _ _ ?_
        clear hK K
        refine wpAny_ready (rs := [16]) (by kernel_rfl) (by simp) ?_
        refine AllReady.cons rfl (fun K hK => ?_) ?_
        · go_simp
          generalize hV : w1 = V at *
          refine (add_two (x := Num.mk (some ad') q c' M0) (y := Num.mk Bh (n' - q) (c' - q) M1) xb0 xb1 (hBb.trans (k1.mono hBb.size)) lit2).mono ?_
          rintro e w2 ⟨At, ct, rfl, t1, t2, t3, t4⟩
          dsimp only at t1 t3
          have k2 : Below wb.heap.size wb w2 := k1.trans (t4.mono k1.size)
          replace s3 := s3.keep t4
          replace s3 := s3.more t4.size
          replace t3 := t3.from k1.size
          clear t4 lit2 k1 hV
          refine hK _ _ ?_
          clear hK K
          refine wpAny_ready (rs := [17]) (by kernel_rfl) (by simp) ?_
          refine AllReady.cons rfl (fun K hK => ?_) ?_
          · go_simp
            have EM := Lib.hid (HP w2 As At (lenL (N0 + N1)) (lenL (M0 + M1)) cs ct (N0 + N1) (M0 + M1) (boxed_below hbx (hBb.trans (k2.mono hBb.size)) hbx.lt) s3.rd t3.rd s1 (by simpa [maxLen] using s2) t1 (by simpa [maxLen] using t2) (by omega) (by omega) (by omega))
            clear s3 t3
            refine EM.out.mono ?_
            rintro e w3 ⟨Am, cm, rfl, m1, m2, m3, m4⟩
            have k3 : Below wb.heap.size wb w3 := k2.trans (m4.mono k2.size)
            clear m4 k2 EM
            refine hK _ _ ?_
            clear hK K
            refine wpAny_take (i := 18) (v := _) rfl (by kernel_rfl) (by kernel_rfl) (by kernel_rfl) (fun _ _ _ h => h) (Or.inl ⟨by rfl, fun w => BigFrame.run_assign (.tmp 49) rfl w⟩) ?_
            simp only [Act.eval, List.getElem_toArray, List.getElem_cons_succ, List.getElem_cons_zero, Act.put, List.setIfInBounds_toArray, List.set_cons_zero, List.set_cons_succ]
            refine wpAny_done (by kernel_rfl) ?_ _
            have rl : (Num.mk Al (lenL (N0 * M0)) cl (N0 * M0)).ok w3 w3.heap.size := ⟨(((HL2.out.rd.more hab).below k3).more k3.size), a1, a2, by show lenL (N0 * M0) ≤ 35184372087808; omega⟩
            have rh : (Num.mk Ah (lenL (N1 * M1)) ch (N1 * M1)).ok w3 w3.heap.size := ⟨((HH.out.rd.below k3).more k3.size), b1, b2, by show lenL (N1 * M1) ≤ 35184372087808; omega⟩
            have ES := Lib.hid (add_two rl rh ((Below.refl _ w3).alloc (Nat.le_refl _) (Obj.cells #[Value.slice Al (lenL (N0 * M0)) cl, Value.slice Ah (lenL (N1 * M1)) ch] 23)) (Lit.new w3 23 (.slice Al (lenL (N0 * M0)) cl) (.slice Ah (lenL (N1 * M1)) ch)))
            go_wp2_with fail
            refine ES.out.mono ?_
            rintro e w4 ⟨Au, cu, rfl, u1, u2, u3, u4⟩
            try dsimp only at u1 u3
            have k4 : Below w3.heap.size w3 w4 := ((Below.refl _ w3).alloc (Nat.le_refl _) _).trans (u4.mono (by simp))
            have ED := Lib.hid (Sub_yes w4 Am Au (lenL ((N0 + N1) * (M0 + M1))) (lenL (N0 * M0 + N1 * M1)) cm cu ((N0 + N1) * (M0 + M1)) (N0 * M0 + N1 * M1) ((m3.rd.below k4).more k4.size) u3.rd (by omega) (by omega) m1 m2 HLE.out)
            clear u3 u4 m3 ES
            go_wp2_with fail
            refine ED.out.mono ?_
            rintro e w5 ⟨Ad, cd, rfl, d1, d2, d3, d4⟩
            have k5 : Below w3.heap.size w3 w5 := k4.trans (d4.mono k4.size)
            have hw5 : Below w.heap.size w w5 := hBb.trans ((k3.trans (k5.mono k3.size)).mono hBb.size)
            obtain ⟨w6, hmk, hF6, hb6, hs6⟩ := made_any w5 (n + n') (by omega)
            rw [show (((n + n' : Nat)) : Int) = (n : Int) + (n' : Int) from by omega] at hmk
            have HB6 := Lib.hid (Buf.of_fr hF6)
            have hg6 : w5.heap.size < w6.heap.size := by omega
            have E1 := Lib.hid (EA1.out w6 w5.heap.size HB6.out ((((rl.1.below k5).more k5.size).below hb6).rn (Nat.le_refl _)) hg6)
            have RD := Lib.hid ((d3.rd.below hb6).rn (Nat.le_refl _))
            have RH := Lib.hid (((rh.1.below k5).more k5.size).below hb6 |>.rn (Nat.le_refl _))
            have hw6 : Below w.heap.size w w6 := hw5.trans (hb6.mono hw5.size)
            clear hF6 hs6 d3 d4 ED
            go_wp2_with fail
            refine E1.out.mono ?_
            rintro e w7 ⟨⟨v7, rfl⟩, hG7, hb7⟩
            have hg7 := Nat.lt_of_lt_of_le hg6 hG7.size
            have E2 := Lib.hid (EA2.out w7 w5.heap.size Ad cd hb7 (RD.out.grown hG7) hg7)
            clear hmk E1 hb7
            go_wp2_with fail
            refine E2.out.mono ?_
            rintro e w8 ⟨⟨v8, rfl⟩, hG8, hb8⟩
            have hg8 := Nat.lt_of_lt_of_le hg7 hG8.size
            have E3 := Lib.hid (EA3.out w8 w5.heap.size hb8 ((RH.out.grown hG7).grown hG8) hg8)
            clear E2 hb8
            go_wp2_with fail
            refine E3.out.mono ?_
            rintro e w9 ⟨⟨v9, rfl⟩, hG9, hb9⟩
            have hg9 := Nat.lt_of_lt_of_le hg8 hG9.size
            have hF9 : Fr w9 w.heap.size w9.heap.size (some ⟨w5.heap.size, 0, none⟩) (n + n') (N * M) := hb9.fr hT.out hw5.size hg9
            have E4 := Lib.hid (pcut_any w9 _ _ (n + n') (n + n') (N * M) hF9.rd (Nat.le_refl _) (by omega))
            have hw9 := Lib.hid (hw6.trans ((below_of_grown (hG7.trans (hG8.trans hG9)) (Nat.le_of_lt hg6)).mono hw5.size))
            clear E3 hb9
            go_wp2_with fail
            refine E4.out.mono ?_
            rintro e w' ⟨rfl, rfl⟩
            go_wp2
            go_ret
            exact gives_cut hF9 (by simp only [maxLen]; omega) hw9.out
          exact AllReady.nil
        exact AllReady.nil
      exact AllReady.nil
    exact AllReady.nil
  exact AllReady.nil
end Go.Proofs.Ytfijbocblmhdbaa
