/- Contract of package prod's Mul: a closure that calls itself, over rows, pieces and halves. -/
import Derived.Laws.EntriesVeiled
import Derived.Test.YtolldhfcnbbelaaGreatDoorGProdD
namespace Go.Proofs.YtolldhfcnbbelaaGreatDoor
open Go Go.RowKit

theorem cutA_rd {W : World} {hi n N : Nat} {A : Option Addr} (h : Rd W hi A n N) : Rd W hi (cutA N A) (lenL N) N := h.cut

/-- How the three ways part. -/
theorem not_two {a b : Nat} (h : ¬ 2 * b ≤ a) : a < 2 * b := by omega

set_option maxRecDepth 100000 in
set_option maxHeartbeats 4000000 in
theorem mul1_sorted (bx m : Nat) (HP : ProdAt bx m) (w : World) (A A' : Option Addr) (n n' N M : Nat) (hbx : Boxed w bx 65 (.func (.func 82) #[] #[.pointer (some ⟨bx, 0, none⟩)]))
    (h : Rd w w.heap.size A n N) (h' : Rd w w.heap.size A' n' M) (hn : n ≤ 1000000000000) (hn' : n' ≤ 1000000000000) (hle : n' ≤ n) (hm : n + n' ≤ m) :
    (n' < 80 → Calls Tryz.prog 83 #[.slice A n n, .slice A' n' n'] w (Gives w (N * M))) ∧
    (80 ≤ n' → 2 * n' ≤ n → Calls Tryz.prog 84 #[.slice A n n, .slice A' n' n', .func (.func 82) #[] #[.pointer (some ⟨bx, 0, none⟩)]] w (Gives w (N * M))) ∧
    (80 ≤ n' → n < 2 * n' → Calls Tryz.prog 85 #[.slice A n n, .slice A' n' n', .func (.func 82) #[] #[.pointer (some ⟨bx, 0, none⟩)]] w (Gives w (N * M))) :=
  ⟨fun _ => byRows_any A A' n n' n n' N M w hn hn' h h',
   fun h1 h2 => byPieces_any bx m HP A A' n n' n n' N M w hbx hn hn' (by omega) (by omega) h h' (Nat.le_refl _) (by omega) (Nat.le_refl _) (by omega),
   fun h1 h2 => byHalves_any bx m HP A A' n n' n n' N M w hbx hn (by omega) hle h2 (by omega) h h' (Nat.le_refl _) (by omega) (Nat.le_refl _) (by omega)⟩

set_option maxRecDepth 100000 in
set_option maxHeartbeats 4000000 in
theorem mul1_step (bx m : Nat) (HP : ProdAt bx m) : ProdAt bx (m + 1) := by
  intro w A A' n n' c c' N M hbx h h' hnc hcb hnc' hcb' hn hn' hm
  have E1 := Lib.hid (pcut_any w _ A n c N h hnc hcb)
  have E2 := Lib.hid (pcut_any w _ A' n' c' M h' hnc' hcb')
  have l1 := lenL_le.2 h.1
  have l2 := lenL_le.2 h'.1
  have hcb0 := hbx.cell
  have S1 := Lib.hid (fun hle => mul1_sorted bx m HP w (cutA N A) (cutA M A') (lenL N) (lenL M) N M hbx h.cut h'.cut (by omega) (by omega) hle (by omega))
  have S2 := Lib.hid (fun hle => mul1_sorted bx m HP w (cutA M A') (cutA N A) (lenL M) (lenL N) M N hbx h'.cut h.cut (by omega) (by omega) hle (by omega))
  rw [Nat.mul_comm M N] at S2
  obtain ⟨a, ha⟩ : ∃ a, lenL N = a := ⟨_, rfl⟩
  obtain ⟨b, hb⟩ : ∃ b, lenL M = b := ⟨_, rfl⟩
  obtain ⟨B, hB⟩ : ∃ B, cutA N A = B := ⟨_, rfl⟩
  obtain ⟨B', hB'⟩ : ∃ B', cutA M A' = B' := ⟨_, rfl⟩
  rw [ha, hb, hB, hB'] at S1 S2
  rw [ha, hB] at E1
  rw [hb, hB'] at E2
  have hab : a ≤ 1000000000000 := by omega
  have hbb : b ≤ 1000000000000 := by omega
  clear ha hb hB hB' h h' hbx l1 l2 hm
  by_cases hlt : a < b
  · obtain ⟨T1, T2, T3⟩ := S2.out (by omega)
    by_cases h80 : a < 80
    · have T := Lib.hid (T1 h80)
      clear T1 T2 T3 S1 S2
      go_enter Tryz.func82, Tryz.ntmps82
      go_wp2_with (first
        | (go_at_call 69; (with_reducible refine E1.out.mono ?_); rintro e w' ⟨rfl, rfl⟩)
        | (go_at_call 69; (with_reducible refine E2.out.mono ?_); rintro e w' ⟨rfl, rfl⟩))
      refine T.out.mono ?_
      rintro e w' ⟨A2, c2, rfl, g1, g2, g3, g4⟩
      go_wp2
      go_ret
      exact ⟨A2, c2, rfl, g1, g2, g3, g4⟩
    · by_cases h2 : 2 * a ≤ b
      · have T := Lib.hid (T2 (by omega) h2)
        clear T1 T2 T3 S1 S2
        go_enter Tryz.func82, Tryz.ntmps82
        go_wp2_with (first
          | (go_at_call 69; (with_reducible refine E1.out.mono ?_); rintro e w' ⟨rfl, rfl⟩)
          | (go_at_call 69; (with_reducible refine E2.out.mono ?_); rintro e w' ⟨rfl, rfl⟩))
        refine T.out.mono ?_
        rintro e w' ⟨A2, c2, rfl, g1, g2, g3, g4⟩
        go_wp2
        go_ret
        exact ⟨A2, c2, rfl, g1, g2, g3, g4⟩
      · have T := Lib.hid (T3 (by omega) (not_two h2))
        clear T1 T2 T3 S1 S2
        go_enter Tryz.func82, Tryz.ntmps82
        go_wp2_with (first
          | (go_at_call 69; (with_reducible refine E1.out.mono ?_); rintro e w' ⟨rfl, rfl⟩)
          | (go_at_call 69; (with_reducible refine E2.out.mono ?_); rintro e w' ⟨rfl, rfl⟩))
        refine T.out.mono ?_
        rintro e w' ⟨A2, c2, rfl, g1, g2, g3, g4⟩
        go_wp2
        go_ret
        exact ⟨A2, c2, rfl, g1, g2, g3, g4⟩
  · obtain ⟨T1, T2, T3⟩ := S1.out (by omega)
    by_cases h80 : b < 80
    · have T := Lib.hid (T1 h80)
      clear T1 T2 T3 S1 S2
      go_enter Tryz.func82, Tryz.ntmps82
      go_wp2_with (first
        | (go_at_call 69; (with_reducible refine E1.out.mono ?_); rintro e w' ⟨rfl, rfl⟩)
        | (go_at_call 69; (with_reducible refine E2.out.mono ?_); rintro e w' ⟨rfl, rfl⟩))
      refine T.out.mono ?_
      rintro e w' ⟨A2, c2, rfl, g1, g2, g3, g4⟩
      go_wp2
      go_ret
      exact ⟨A2, c2, rfl, g1, g2, g3, g4⟩
    · by_cases h2 : 2 * b ≤ a
      · have T := Lib.hid (T2 (by omega) h2)
        clear T1 T2 T3 S1 S2
        go_enter Tryz.func82, Tryz.ntmps82
        go_wp2_with (first
          | (go_at_call 69; (with_reducible refine E1.out.mono ?_); rintro e w' ⟨rfl, rfl⟩)
          | (go_at_call 69; (with_reducible refine E2.out.mono ?_); rintro e w' ⟨rfl, rfl⟩))
        refine T.out.mono ?_
        rintro e w' ⟨A2, c2, rfl, g1, g2, g3, g4⟩
        go_wp2
        go_ret
        exact ⟨A2, c2, rfl, g1, g2, g3, g4⟩
      · have T := Lib.hid (T3 (by omega) (not_two h2))
        clear T1 T2 T3 S1 S2
        go_enter Tryz.func82, Tryz.ntmps82
        go_wp2_with (first
          | (go_at_call 69; (with_reducible refine E1.out.mono ?_); rintro e w' ⟨rfl, rfl⟩)
          | (go_at_call 69; (with_reducible refine E2.out.mono ?_); rintro e w' ⟨rfl, rfl⟩))
        refine T.out.mono ?_
        rintro e w' ⟨A2, c2, rfl, g1, g2, g3, g4⟩
        go_wp2
        go_ret
        exact ⟨A2, c2, rfl, g1, g2, g3, g4⟩

/-- The closure, whatever the numbers are. -/
theorem prodAt_all' (bx m : Nat) : ProdAt bx m := by
  induction m with
  | zero => intro w A A' n n' c c' N M _ _ _ _ _ _ _ _ _ h; omega
  | succ m ih => exact mul1_step bx m ih

set_option maxHeartbeats 1000000 in
theorem pMul_any (w : World) (A A' : Option Addr) (n n' c c' N M : Nat) (h : Rd w w.heap.size A n N) (h' : Rd w w.heap.size A' n' M) (hnc : n ≤ c) (hcb : c ≤ maxLen) (hnc' : n' ≤ c') (hcb' : c' ≤ maxLen) (hn : n ≤ 1000000000000) (hn' : n' ≤ 1000000000000) :
    Calls Tryz.prog 68 #[.slice A n c, .slice A' n' c'] w (Gives w (N * M)) := by
  have hcb : c ≤ 9223372036854775807 := by simpa [maxLen] using hcb
  have hcb' : c' ≤ 9223372036854775807 := by simpa [maxLen] using hcb'
  have bx := Boxed.new w 65 (.func (.func 82) #[] #[.pointer (some ⟨w.heap.size, 0, none⟩)])
  have hB : Below w.heap.size w (w.alloc (.cells #[.func (.func 82) #[] #[.pointer (some ⟨w.heap.size, 0, none⟩)]] 65)) := (Below.refl _ w).alloc (Nat.le_refl _) _
  have E := Lib.hid (prodAt_all' w.heap.size (lenL N + lenL M + 1) _ A A' n n' c c' N M bx ((h.below hB).more hB.size) ((h'.below hB).more hB.size) hnc hcb hnc' hcb' hn hn' (by omega))
  go_enter Tryz.func68, Tryz.ntmps68
  go_wp2_with fail
  refine E.out.mono ?_
  intro e w' hg
  obtain ⟨A2, c2, rfl, g1, g2, g3, g4⟩ := hg.alloc
  go_wp2
  go_ret
  exact ⟨A2, c2, rfl, g1, g2, g3, g4⟩
end Go.Proofs.YtolldhfcnbbelaaGreatDoor

/- Contracts of package prod's All (a closure that calls itself on halves of a list) and By. Written by tools/mk_pall.py. -/
namespace Go.Proofs.YtolldhfcnbbelaaGreatDoor
open Go Go.RowKit

theorem prodN_lenK {l : List Num} {K : Nat} (h : ∀ z ∈ l, z.N < Bw ^ z.n ∧ z.n ≤ K) : lenL (prodN l) ≤ K * l.length + 1 := by
  rw [lenL_le]
  induction l with
  | nil => show 1 < Bw ^ (K * 0 + 1); rw [Nat.mul_zero, Nat.zero_add, Nat.pow_one]; decide
  | cons z l ih =>
    have h1 := h z (by simp)
    have h2 := ih (fun y hy => h y (by simp [hy]))
    have h3 := prod_lt (lt_pow_of h1.1 h1.2) h2
    have e : prodN (z :: l) = z.N * prodN l := by simp [prodN]
    rw [e, List.length_cons, Nat.mul_add, Nat.mul_one, show K * l.length + K + 1 = K + (K * l.length + 1) by omega]
    exact h3
theorem prodN_cut (l : List Num) (k : Nat) : prodN (l.take k) * prodN (l.drop k) = prodN l := by rw [← prodN_append, List.take_append_drop]
/-- What the closure is to answer, of lists shorter than m. -/
def AllAt (bx m : Nat) : Prop := ∀ (w : World) (A : Option Addr) (c : Nat) (l : List Num), Boxed w bx 86 (.func (.func 67) #[] #[.pointer (some ⟨bx, 0, none⟩)]) → Rds w w.heap.size A l → l.length ≤ c → c ≤ 9223372036854775807 → l.length < m → l.length ≤ 1000000 → (∀ z ∈ l, z.n ≤ 100000) →
  Calls Tryz.prog 67 #[.slice A l.length c, .pointer (some ⟨bx, 0, none⟩)] w (Gives w (prodN l))

set_option maxRecDepth 100000 in
set_option maxHeartbeats 4000000 in
theorem all1_step (bx m : Nat) (HP : AllAt bx m) : AllAt bx (m + 1) := by
  intro w A c l hbx hR hnc hcb hm hl hz
  rcases Nat.lt_or_ge l.length 2 with h2 | h2
  · rcases Nat.eq_zero_or_pos l.length with h0 | h0
    · have E := Lib.hid (Of_any w 1 (by omega))
      have HS := Lib.hid (show prodN l = 1 by rw [List.length_eq_zero_iff.1 h0]; rfl)
      rw [h0]
      clear h0 h2 hl hm hnc
      go_enter Tryz.func67, Tryz.ntmps67
      go_wp2_with fail
      refine E.out.mono ?_
      rintro e w' ⟨A2, c2, rfl, g1, g2, g3, g4⟩
      go_wp2
      go_ret
      rw [HS.out]
      exact ⟨A2, c2, rfl, g1, g2, g3, g4⟩
    · have h1 : l.length = 1 := by omega
      obtain ⟨⟨ad, rfl, -, hc⟩, hr, hr1, hr2, hr3⟩ := hR 0 (by omega)
      have E := Lib.hid (Trim_any w _ _ _ _ hr hr1 hr2 hr3)
      have HS := Lib.hid (show prodN l = l[0].N by
        obtain ⟨z, rfl⟩ := List.length_eq_one_iff.1 h1
        simp [prodN])
      rw [h1] at hnc ⊢
      rw [Addr.add_zero'] at hc
      obtain ⟨z, hz0⟩ : ∃ z, l[0] = z := ⟨_, rfl⟩
      rw [hz0] at hc E HS
      clear hz0 hr hr1 hr2 hr3 h0 h2 hl hm hR
      go_enter Tryz.func67, Tryz.ntmps67
      go_wp2_with fail
      refine E.out.mono ?_
      rintro e w' ⟨A2, c2, rfl, g1, g2, g3, g4⟩
      go_wp2
      go_ret
      rw [HS.out]
      exact ⟨A2, c2, rfl, g1, g2, g3, g4⟩
  · obtain ⟨⟨ad, rfl, -, -⟩, -⟩ := hR 0 (by omega)
    obtain ⟨half, hh⟩ : ∃ half, l.length / 2 = half := ⟨_, rfl⟩
    have hlt := hR.ltK
    have lP := prodN_lenK (l := l.take half) (K := 100000) (fun z hz' => ⟨hlt z (List.mem_of_mem_take hz'), hz z (List.mem_of_mem_take hz')⟩)
    have lQ := prodN_lenK (l := l.drop half) (K := 100000) (fun z hz' => ⟨hlt z (List.mem_of_mem_drop hz'), hz z (List.mem_of_mem_drop hz')⟩)
    have e1 : (l.take half).length = half := by rw [List.length_take]; omega
    have e2 : (l.drop half).length = l.length - half := by rw [List.length_drop]
    have EL := Lib.hid (fun W (hB : Below w.heap.size w W) => HP W (some ad) c (l.take half) (boxed_below hbx hB hbx.lt) (((hR.take half).below hB).more hB.size) (by omega) hcb (by omega) (by omega) (fun z hz' => hz z (List.mem_of_mem_take hz')))
    have EH := Lib.hid (fun W (hB : Below w.heap.size w W) => HP W (some (ad.add half)) (c - half) (l.drop half) (boxed_below hbx hB hbx.lt) (((hR.drop half).below hB).more hB.size) (by omega) (by omega) (by omega) (by omega) (fun z hz' => hz z (List.mem_of_mem_drop hz')))
    have HS := Lib.hid (prodN_cut l half)
    rw [e1] at EL lP
    rw [e2] at EH lQ
    obtain ⟨n, hn⟩ : ∃ n, l.length = n := ⟨_, rfl⟩
    rw [hn] at hnc hl hh h2 EH lQ e2 hm ⊢
    have hhi : (n : Int) / 2 = (half : Int) := by omega
    have h1 : half ≤ n := by omega
    have h3 : half ≤ c := by omega
    have h4 : ¬ c = half := by omega
    have h5 : ¬ n = 0 := by omega
    have h6 : ¬ n = 1 := by omega
    have lP' : lenL (prodN (l.take half)) ≤ 1000000000000 := by omega
    have lQ' : lenL (prodN (l.drop half)) ≤ 1000000000000 := by omega
    obtain ⟨p, hp⟩ : ∃ p, prodN (l.take half) = p := ⟨_, rfl⟩
    obtain ⟨q, hq⟩ : ∃ q, prodN (l.drop half) = q := ⟨_, rfl⟩
    rw [hp] at EL HS lP'
    rw [hq] at EH HS lQ'
    have hcb := hbx.cell
    clear hh e1 e2 hn hp hq lP lQ hR hz hm hl hlt
    go_enter Tryz.func67, Tryz.ntmps67
    go_wp2
    refine wp_region_any (by kernel_rfl) ?_
    change wpAny _ _ _ _ _ _ _ (World.drew _)
    refine wpAny_take (i := 1) (v := _) rfl (by kernel_rfl) (by kernel_rfl) (by kernel_rfl) (fun _ _ _ h => h) (Or.inl ⟨by rfl, fun w => BigFrame.run_move (.tmp 0) rfl w⟩) ?_
    simp only [Act.eval, List.getElem_toArray, List.getElem_cons_succ, List.getElem_cons_zero, Act.put, List.setIfInBounds_toArray, List.set_cons_zero, List.set_cons_succ]
    refine wpAny_take (i := 2) (v := _) rfl (by kernel_rfl) (by kernel_rfl) (by kernel_rfl) (fun _ _ _ h => h) (Or.inl ⟨by rfl, fun w => BigFrame.run_move (.tmp 4) rfl w⟩) ?_
    simp only [Act.eval, List.getElem_toArray, List.getElem_cons_succ, List.getElem_cons_zero, Act.put, List.setIfInBounds_toArray, List.set_cons_zero, List.set_cons_succ]
    refine wpAny_take (i := 3) (v := .slice (some ad) half c) rfl (by kernel_rfl) (by kernel_rfl) (by kernel_rfl) (fun _ _ _ h => h) (Or.inl ⟨by rfl, fun w => by go_simp⟩) ?_
    simp only [List.getElem_toArray, List.getElem_cons_succ, List.getElem_cons_zero, Act.put, List.setIfInBounds_toArray, List.set_cons_zero, List.set_cons_succ]
    refine wpAny_take (i := 6) (v := _) rfl (by kernel_rfl) (by kernel_rfl) (by kernel_rfl) (fun _ _ _ h => h) (Or.inl ⟨by rfl, fun w => BigFrame.run_move (.tmp 0) rfl w⟩) ?_
    simp only [Act.eval, List.getElem_toArray, List.getElem_cons_succ, List.getElem_cons_zero, Act.put, List.setIfInBounds_toArray, List.set_cons_zero, List.set_cons_succ]
    refine wpAny_take (i := 7) (v := _) rfl (by kernel_rfl) (by kernel_rfl) (by kernel_rfl) (fun _ _ _ h => h) (Or.inl ⟨by rfl, fun w => BigFrame.run_move (.tmp 4) rfl w⟩) ?_
    simp only [Act.eval, List.getElem_toArray, List.getElem_cons_succ, List.getElem_cons_zero, Act.put, List.setIfInBounds_toArray, List.set_cons_zero, List.set_cons_succ]
    refine wpAny_take (i := 8) (v := .slice (some (ad.add half)) (n - half) (c - half)) rfl (by kernel_rfl) (by kernel_rfl) (by kernel_rfl) (fun _ _ _ h => h) (Or.inl ⟨by rfl, fun w => by go_simp⟩) ?_
    simp only [List.getElem_toArray, List.getElem_cons_succ, List.getElem_cons_zero, Act.put, List.setIfInBounds_toArray, List.set_cons_zero, List.set_cons_succ]
    refine wpAny_ready (rs := [0, 5]) (by kernel_rfl) (by simp) ?_
    refine AllReady.cons rfl (fun K hK => ?_) ?_
    · go_simp
      refine hK _ _ ?_
      clear hK K
      try simp only [Act.put, List.setIfInBounds_toArray, List.set_cons_zero, List.set_cons_succ]
      refine wpAny_ready (rs := [4, 5]) (by kernel_rfl) (by simp) ?_
      refine AllReady.cons rfl (fun K hK => ?_) ?_
      · go_simp
        refine (EL.out w.drew (Below.drew (Below.refl _ w))).mono ?_
        rintro e w1 ⟨Al, cl, rfl, a1, a2, a3, a4⟩
        replace a4 := below_drew a4
        have hc1 := (a4.cell (p := ⟨bx, 0, none⟩) hbx.lt).trans hcb
        refine hK _ _ ?_
        clear hK K
        try simp only [Act.put, List.setIfInBounds_toArray, List.set_cons_zero, List.set_cons_succ]
        refine wpAny_ready (rs := [5]) (by kernel_rfl) (by simp) ?_
        refine AllReady.cons rfl (fun K hK => ?_) ?_
        · go_simp
          refine hK _ _ ?_
          clear hK K
          try simp only [Act.put, List.setIfInBounds_toArray, List.set_cons_zero, List.set_cons_succ]
          refine wpAny_ready (rs := [9]) (by kernel_rfl) (by simp) ?_
          refine AllReady.cons rfl (fun K hK => ?_) ?_
          · go_simp
            refine (EH.out w1 a4).mono ?_
            rintro e w2 ⟨Ah, ch, rfl, b1, b2, b3, b4⟩
            have k2 := a4.trans (b4.mono a4.size)
            have EM := Lib.hid (pMul_any w2 Al Ah _ _ cl ch _ _ (((show Fr w1 w.heap.size w1.heap.size Al _ _ from a3).rd.below b4).more b4.size) b3.rd a1 a2 b1 b2 (by omega) (by omega))
            refine hK _ _ ?_
            clear hK K
            try simp only [Act.put, List.setIfInBounds_toArray, List.set_cons_zero, List.set_cons_succ]
            refine wpAny_ready (rs := [10]) (by kernel_rfl) (by simp) ?_
            refine AllReady.cons rfl (fun K hK => ?_) ?_
            · go_simp
              refine EM.out.mono ?_
              rintro e w3 ⟨Am, cm, rfl, m1, m2, m3, m4⟩
              have k3 := k2.trans (m4.mono k2.size)
              refine hK _ _ ?_
              clear hK K
              try simp only [Act.put, List.setIfInBounds_toArray, List.set_cons_zero, List.set_cons_succ]
              refine wpAny_take (i := 11) (v := _) rfl (by kernel_rfl) (by kernel_rfl) (by kernel_rfl) (fun _ _ _ h => h) (Or.inl ⟨by rfl, fun w => BigFrame.run_assign (.tmp 29) rfl w⟩) ?_
              simp only [Act.eval, List.getElem_toArray, List.getElem_cons_succ, List.getElem_cons_zero, Act.put, List.setIfInBounds_toArray, List.set_cons_zero, List.set_cons_succ]
              refine wpAny_done (by kernel_rfl) ?_ _
              try simp only [Act.put, List.setIfInBounds_toArray, List.set_cons_zero, List.set_cons_succ]
              go_wp2
              go_ret
              rw [HS.out] at m1 m3 ⊢
              exact ⟨_, _, rfl, m1, m2, m3.from k2.size, k3⟩
            exact AllReady.nil
          exact AllReady.nil
        exact AllReady.nil
      refine AllReady.cons rfl (fun K hK => ?_) ?_
      · go_simp
        refine hK _ _ ?_
        clear hK K
        try simp only [Act.put, List.setIfInBounds_toArray, List.set_cons_zero, List.set_cons_succ]
        refine wpAny_ready (rs := [4]) (by kernel_rfl) (by simp) ?_
        refine AllReady.cons rfl (fun K hK => ?_) ?_
        · go_simp
          refine (EL.out w.drew (Below.drew (Below.refl _ w))).mono ?_
          rintro e w1 ⟨Al, cl, rfl, a1, a2, a3, a4⟩
          replace a4 := below_drew a4
          have hc1 := (a4.cell (p := ⟨bx, 0, none⟩) hbx.lt).trans hcb
          refine hK _ _ ?_
          clear hK K
          try simp only [Act.put, List.setIfInBounds_toArray, List.set_cons_zero, List.set_cons_succ]
          refine wpAny_ready (rs := [9]) (by kernel_rfl) (by simp) ?_
          refine AllReady.cons rfl (fun K hK => ?_) ?_
          · go_simp
            refine (EH.out w1 a4).mono ?_
            rintro e w2 ⟨Ah, ch, rfl, b1, b2, b3, b4⟩
            have k2 := a4.trans (b4.mono a4.size)
            have EM := Lib.hid (pMul_any w2 Al Ah _ _ cl ch _ _ (((show Fr w1 w.heap.size w1.heap.size Al _ _ from a3).rd.below b4).more b4.size) b3.rd a1 a2 b1 b2 (by omega) (by omega))
            refine hK _ _ ?_
            clear hK K
            try simp only [Act.put, List.setIfInBounds_toArray, List.set_cons_zero, List.set_cons_succ]
            refine wpAny_ready (rs := [10]) (by kernel_rfl) (by simp) ?_
            refine AllReady.cons rfl (fun K hK => ?_) ?_
            · go_simp
              refine EM.out.mono ?_
              rintro e w3 ⟨Am, cm, rfl, m1, m2, m3, m4⟩
              have k3 := k2.trans (m4.mono k2.size)
              refine hK _ _ ?_
              clear hK K
              try simp only [Act.put, List.setIfInBounds_toArray, List.set_cons_zero, List.set_cons_succ]
              refine wpAny_take (i := 11) (v := _) rfl (by kernel_rfl) (by kernel_rfl) (by kernel_rfl) (fun _ _ _ h => h) (Or.inl ⟨by rfl, fun w => BigFrame.run_assign (.tmp 29) rfl w⟩) ?_
              simp only [Act.eval, List.getElem_toArray, List.getElem_cons_succ, List.getElem_cons_zero, Act.put, List.setIfInBounds_toArray, List.set_cons_zero, List.set_cons_succ]
              refine wpAny_done (by kernel_rfl) ?_ _
              try simp only [Act.put, List.setIfInBounds_toArray, List.set_cons_zero, List.set_cons_succ]
              go_wp2
              go_ret
              rw [HS.out] at m1 m3 ⊢
              exact ⟨_, _, rfl, m1, m2, m3.from k2.size, k3⟩
            exact AllReady.nil
          exact AllReady.nil
        exact AllReady.nil
      exact AllReady.nil
    refine AllReady.cons rfl (fun K hK => ?_) ?_
    · go_simp
      refine hK _ _ ?_
      clear hK K
      try simp only [Act.put, List.setIfInBounds_toArray, List.set_cons_zero, List.set_cons_succ]
      refine wpAny_ready (rs := [0]) (by kernel_rfl) (by simp) ?_
      refine AllReady.cons rfl (fun K hK => ?_) ?_
      · go_simp
        refine hK _ _ ?_
        clear hK K
        try simp only [Act.put, List.setIfInBounds_toArray, List.set_cons_zero, List.set_cons_succ]
        refine wpAny_ready (rs := [4]) (by kernel_rfl) (by simp) ?_
        refine AllReady.cons rfl (fun K hK => ?_) ?_
        · go_simp
          refine (EL.out w.drew (Below.drew (Below.refl _ w))).mono ?_
          rintro e w1 ⟨Al, cl, rfl, a1, a2, a3, a4⟩
          replace a4 := below_drew a4
          have hc1 := (a4.cell (p := ⟨bx, 0, none⟩) hbx.lt).trans hcb
          refine hK _ _ ?_
          clear hK K
          try simp only [Act.put, List.setIfInBounds_toArray, List.set_cons_zero, List.set_cons_succ]
          refine wpAny_ready (rs := [9]) (by kernel_rfl) (by simp) ?_
          refine AllReady.cons rfl (fun K hK => ?_) ?_
          · go_simp
            refine (EH.out w1 a4).mono ?_
            rintro e w2 ⟨Ah, ch, rfl, b1, b2, b3, b4⟩
            have k2 := a4.trans (b4.mono a4.size)
            have EM := Lib.hid (pMul_any w2 Al Ah _ _ cl ch _ _ (((show Fr w1 w.heap.size w1.heap.size Al _ _ from a3).rd.below b4).more b4.size) b3.rd a1 a2 b1 b2 (by omega) (by omega))
            refine hK _ _ ?_
            clear hK K
            try simp only [Act.put, List.setIfInBounds_toArray, List.set_cons_zero, List.set_cons_succ]
            refine wpAny_ready (rs := [10]) (by kernel_rfl) (by simp) ?_
            refine AllReady.cons rfl (fun K hK => ?_) ?_
            · go_simp
              refine EM.out.mono ?_
              rintro e w3 ⟨Am, cm, rfl, m1, m2, m3, m4⟩
              have k3 := k2.trans (m4.mono k2.size)
              refine hK _ _ ?_
              clear hK K
              try simp only [Act.put, List.setIfInBounds_toArray, List.set_cons_zero, List.set_cons_succ]
              refine wpAny_take (i := 11) (v := _) rfl (by kernel_rfl) (by kernel_rfl) (by kernel_rfl) (fun _ _ _ h => h) (Or.inl ⟨by rfl, fun w => BigFrame.run_assign (.tmp 29) rfl w⟩) ?_
              simp only [Act.eval, List.getElem_toArray, List.getElem_cons_succ, List.getElem_cons_zero, Act.put, List.setIfInBounds_toArray, List.set_cons_zero, List.set_cons_succ]
              refine wpAny_done (by kernel_rfl) ?_ _
              try simp only [Act.put, List.setIfInBounds_toArray, List.set_cons_zero, List.set_cons_succ]
              go_wp2
              go_ret
              rw [HS.out] at m1 m3 ⊢
              exact ⟨_, _, rfl, m1, m2, m3.from k2.size, k3⟩
            exact AllReady.nil
          exact AllReady.nil
        exact AllReady.nil
      exact AllReady.nil
    exact AllReady.nil

theorem allAt (bx m : Nat) : AllAt bx m := by
  induction m with
  | zero => intro w A c l _ _ _ _ h; omega
  | succ m ih => exact all1_step bx m ih

set_option maxHeartbeats 1000000 in
theorem pAll_any (w : World) (A : Option Addr) (c : Nat) (l : List Num) (h : Rds w w.heap.size A l) (hnc : l.length ≤ c) (hcb : c ≤ maxLen) (hl : l.length ≤ 1000000) (hz : ∀ z ∈ l, z.n ≤ 100000) :
    Calls Tryz.prog 49 #[.slice A l.length c] w (Gives w (prodN l)) := by
  have hcb : c ≤ 9223372036854775807 := by simpa [maxLen] using hcb
  have bx := Boxed.new w 86 (.func (.func 67) #[] #[.pointer (some ⟨w.heap.size, 0, none⟩)])
  have hB : Below w.heap.size w (w.alloc (.cells #[.func (.func 67) #[] #[.pointer (some ⟨w.heap.size, 0, none⟩)]] 86)) := (Below.refl _ w).alloc (Nat.le_refl _) _
  have E := Lib.hid (allAt w.heap.size (l.length + 1) _ A c l bx ((h.below hB).more hB.size) hnc hcb (by omega) hl hz)
  go_enter Tryz.func49, Tryz.ntmps49
  go_wp2_with fail
  refine E.out.mono ?_
  intro e w' hg
  obtain ⟨A2, c2, rfl, g1, g2, g3, g4⟩ := hg.alloc
  go_wp2
  go_ret
  exact ⟨A2, c2, rfl, g1, g2, g3, g4⟩
end Go.Proofs.YtolldhfcnbbelaaGreatDoor
