/- Contract of package prod's byPieces: a long number is multiplied piece by piece, over a range over a function. Written by tools/mk_bypieces.py. -/
import Derived.Test.YtfijbocblmhdbaaGGen
import Derived.Test.YtfijbocblmhdbaaGProdA
import Derived.Test.YtfijbocblmhdbaaPRows
import Derived.Test.YtfijbocblmhdbaaGNum
namespace Go.Proofs.Ytfijbocblmhdbaa
open Go Go.RowKit
attribute [local go_sem] Oper.semAt_some

theorem below_grown {W W' : World} (h : Below W.heap.size W W') (row : Option Nat) : W.grownBy W' row := ⟨h.os, h.tape, h.output, h.size, fun k hk _ => h.block k hk⟩
theorem below_drew {W W' : World} {B : Nat} (h : Below B W.drew W') : Below B W W' := ⟨h.os, h.tape, h.output, h.size, h.block⟩
/-- What the product that a closure makes is to answer: of numbers of fewer than m limbs together. -/
def ProdAt (bx m : Nat) : Prop := ∀ (w : World) (A A' : Option Addr) (n n' c c' N M : Nat), Boxed w bx 34 (.func (.func 49) #[] #[.pointer (some ⟨bx, 0, none⟩)]) → Rd w w.heap.size A n N → Rd w w.heap.size A' n' M →
  n ≤ c → c ≤ 9223372036854775807 → n' ≤ c' → c' ≤ 9223372036854775807 → n ≤ 1000000000000 → n' ≤ 1000000000000 → lenL N + lenL M < m →
  Calls Try.prog 49 #[.slice A n c, .slice A' n' c', .pointer (some ⟨bx, 0, none⟩)] w (Gives w (N * M))

theorem piece_added {w W w1 : World} {A A' A2 : Option Addr} {n n' N M s : Nat} (hs : s < n) (hn : n ≤ 1000000000000) (hn' : n' ≤ 1000000000000) (h : Rd w w.heap.size A n N) (h' : Rd w w.heap.size A' n' M)
    (hBf : Buf W (w.heap.size + 1 + 1) (n + n') (N % Bw ^ s * M)) (hgs : w.heap.size + 1 + 1 < W.heap.size) (g4 : Below W.heap.size W w1)
    (g3 : Fr w1 W.heap.size w1.heap.size A2 (lenL (N / Bw ^ s % Bw ^ (min (s + n') n - s) * M)) (N / Bw ^ s % Bw ^ (min (s + n') n - s) * M)) (c : Nat) :
    Calls Try.prog 58 #[.slice (some ⟨w.heap.size + 1 + 1, 0, none⟩) (n + n') (n + n'), .slice A2 (lenL (N / Bw ^ s % Bw ^ (min (s + n') n - s) * M)) c, .int .i64 s] w1 fun e w' =>
      (∃ v, e = .returned v) ∧ w1.grownBy w' (some (w.heap.size + 1 + 1)) ∧ Buf w' (w.heap.size + 1 + 1) (n + n') (N % Bw ^ (s + n') * M) := by
  obtain ⟨k, hk⟩ : ∃ k, min (s + n') n - s = k := ⟨_, rfl⟩
  have hkn : s + k ≤ n := by omega
  have he : N % Bw ^ (s + k) = N % Bw ^ (s + n') := by rw [← hk]; exact piece_end h.1 hs
  rw [hk] at g3 ⊢
  have hsum : N % Bw ^ s * M + Bw ^ s * (N / Bw ^ s % Bw ^ k * M) = N % Bw ^ (s + n') * M := by
    rw [← he, ← mod_add_piece N s k, Nat.add_mul, Nat.mul_assoc]
  have hl : lenL (N / Bw ^ s % Bw ^ k * M) ≤ k + n' := lenL_le.2 (prod_lt (Nat.mod_lt _ (pow_pos_Bw k)) h'.1)
  have hB1 : Buf w1 (w.heap.size + 1 + 1) (n + n') (N % Bw ^ s * M) := fun j hj => ⟨(g4.cell (p := ⟨w.heap.size + 1 + 1, j, none⟩) hgs).trans (hBf j hj).1, (g4.frozen (p := ⟨w.heap.size + 1 + 1, j, none⟩) hgs).trans (hBf j hj).2⟩
  have hT : N % Bw ^ s * M + Bw ^ s * (N / Bw ^ s % Bw ^ k * M) < Bw ^ (n + n') := by
    rw [hsum]
    exact Nat.lt_of_le_of_lt (Nat.mul_le_mul_right M (Nat.mod_le N _)) (prod_lt h.1 h'.1)
  have := addAt_any w1 (w.heap.size + 1 + 1) (n + n') (n + n') s (lenL (N / Bw ^ s % Bw ^ k * M)) c (N % Bw ^ s * M) (N / Bw ^ s % Bw ^ k * M) A2 hB1 hT (by omega) (by omega) (by omega) (g3.rn hgs) (Nat.lt_of_lt_of_le hgs g4.size)
  rwa [hsum] at this

/-- Between two rounds of 'byPieces'. -/
def PiecesI (w : World) (bx : Nat) (A A' : Option Addr) (n n' c c' N M : Nat) (s : Nat) (W : World) : Prop :=
  Src (w.heap.size + 1 + 1 + 1 + 1) w.heap.size A n c N W ∧ W.cell? ⟨w.heap.size + 1 + 1 + 1 + 1 + 1, 0, none⟩ = some (.int .i64 n') ∧ Boxed W w.heap.size 23 (.slice A' n' c') ∧ Boxed W (w.heap.size + 1) 34 (.func (.func 49) #[] #[.pointer (some ⟨bx, 0, none⟩)]) ∧
    Boxed W (w.heap.size + 1 + 1 + 1) 23 (.slice (some ⟨w.heap.size + 1 + 1, 0, none⟩) (n + n' : Nat) (n + n' : Nat)) ∧
    Rd W w.heap.size A' n' M ∧ Buf W (w.heap.size + 1 + 1) (n + n') (N % Bw ^ s * M) ∧ Below w.heap.size w W
theorem piecesI_own {w : World} {bx : Nat} {A A' : Option Addr} {n n' c c' N M B : Nat} : OwnFrom (w.heap.size + B) (PiecesI w bx A A' n n' c c' N M) := by
  rintro s W W' row ⟨⟨h1, h2⟩, h0, h3, h4, h5, h6, h7, h8⟩ hg hr
  have hr' := fun r e => (hr r e).2
  exact ⟨⟨cell_kept h1 hg hr', h2.kept hg hr'⟩, cell_kept h0 hg hr', boxed_kept h3 hg hr', boxed_kept h4 hg hr', boxed_kept h5 hg hr', h6.kept hg hr', h7.kept hg hr', h8.grown hg h8.size (fun r e => by have := (hr r e).1; omega)⟩

set_option maxRecDepth 100000 in
set_option maxHeartbeats 4000000 in
theorem byPieces_in (bx m : Nat) (HP : ProdAt bx m) (A A' : Option Addr) (n n' c c' N M : Nat) (w : World) (hbx : Boxed w bx 34 (.func (.func 49) #[] #[.pointer (some ⟨bx, 0, none⟩)])) (hn : n ≤ 1000000000000) (hn' : n' ≤ 1000000000000) (h0 : 0 < n') (hm : n' + n' < m) (h : Rd w w.heap.size A n N) (h' : Rd w w.heap.size A' n' M)
    (hnc : n ≤ c) (hcb : c ≤ 9223372036854775807) (hnc' : n' ≤ c') (hcb' : c' ≤ 9223372036854775807) :
    CallsIn Fence.wide 10 Try.prog 51 #[.slice A n c, .slice A' n' c', .func (.func 49) #[] #[.pointer (some ⟨bx, 0, none⟩)]] w (Gives w (N * M)) := by
  obtain ⟨w1, hmk, hF1, hb1, hs1⟩ := made_any ((w.alloc (.cells #[.slice A' n' c'] 23)).alloc (.cells #[.func (.func 49) #[] #[.pointer (some ⟨bx, 0, none⟩)]] 34)) (n + n') (by omega)
  rw [show (((n + n' : Nat)) : Int) = (n : Int) + (n' : Int) from by omega] at hmk
  rw [World.size_alloc, World.size_alloc] at hF1 hb1 hs1
  have bB := boxed_below ((Boxed.new w 23 (.slice A' n' c')).alloc (.cells #[.func (.func 49) #[] #[.pointer (some ⟨bx, 0, none⟩)]] 34)) hb1 (by omega)
  have bP := Boxed.new (w.alloc (.cells #[.slice A' n' c'] 23)) 34 (.func (.func 49) #[] #[.pointer (some ⟨bx, 0, none⟩)])
  rw [World.size_alloc] at bP
  replace bP := boxed_below bP hb1 (by omega)
  have hcB := bB.cell
  refine callsIn_of_wp_marks Try.func51 rfl trivial ?_ rfl
  simp only [Try.ntmps51, List.size_toArray, List.length_cons, List.length_nil, Nat.reduceAdd, Nat.reduceSub, Array.replicate_succ, Array.replicate_zero, List.push_toArray, List.append_toArray, List.nil_append, List.cons_append]
  gi_wp2_with (refine ⟨trivial, ?_⟩; gi_at_call 57; refine (callsIn_wide.2 (callsIn_wide.1 (pieces_in A n c n' _))).mono ?_; rintro e w' ⟨rfl, rfl⟩)
  have bS := Boxed.new w1 23 (.slice (some ⟨w.heap.size + 1 + 1, 0, none⟩) (n + n' : Nat) (n + n' : Nat))
  have bN := Boxed.new (w1.alloc (.cells #[.slice (some ⟨w.heap.size + 1 + 1, 0, none⟩) (n + n' : Nat) (n + n' : Nat)] 23)) 23 (.slice A n c)
  have bK := Boxed.new ((w1.alloc (.cells #[.slice (some ⟨w.heap.size + 1 + 1, 0, none⟩) (n + n' : Nat) (n + n' : Nat)] 23)).alloc (.cells #[.slice A n c] 23)) 3 (.int .i64 (n' : Nat))
  rw [hs1] at bS
  rw [World.size_alloc, hs1] at bN
  rw [World.size_alloc, World.size_alloc, hs1] at bK
  have hB1 : Below w.heap.size w w1 := (((Below.refl _ w).alloc (Nat.le_refl _) _).alloc (by simp) _).trans (hb1.mono (by omega))
  have hB0 := ((hB1.alloc (by omega) (.cells #[.slice (some ⟨w.heap.size + 1 + 1, 0, none⟩) (n + n' : Nat) (n + n' : Nat)] 23)).alloc (by rw [World.size_alloc]; omega) (.cells #[.slice A n c] 23)).alloc (by rw [World.size_alloc, World.size_alloc]; omega) (.cells #[.int .i64 (n' : Nat)] 3)
  have hZ : Buf w1 (w.heap.size + 1 + 1) (n + n') (N % Bw ^ 0 * M) := by rw [Nat.pow_zero, Nat.mod_one, Nat.zero_mul]; exact Buf.of_fr hF1
  have hZ0 := ((hZ.kept (World.grownBy_alloc w1 (.cells #[.slice (some ⟨w.heap.size + 1 + 1, 0, none⟩) (n + n' : Nat) (n + n' : Nat)] 23) none) (fun r e => by cases e)).kept (World.grownBy_alloc _ (.cells #[.slice A n c] 23) none) (fun r e => by cases e)).kept (World.grownBy_alloc _ (.cells #[.int .i64 (n' : Nat)] 3) none) (fun r e => by cases e)
  have hsz : (((w1.alloc (.cells #[.slice (some ⟨w.heap.size + 1 + 1, 0, none⟩) (n + n' : Nat) (n + n' : Nat)] 23)).alloc (.cells #[.slice A n c] 23)).alloc (.cells #[.int .i64 (n' : Nat)] 3)).heap.size = w.heap.size + 6 := by rw [World.size_alloc, World.size_alloc, World.size_alloc]; omega
  replace bB := ((bB.alloc (.cells #[.slice (some ⟨w.heap.size + 1 + 1, 0, none⟩) (n + n' : Nat) (n + n' : Nat)] 23)).alloc (.cells #[.slice A n c] 23)).alloc (.cells #[.int .i64 (n' : Nat)] 3)
  replace bP := ((bP.alloc (.cells #[.slice (some ⟨w.heap.size + 1 + 1, 0, none⟩) (n + n' : Nat) (n + n' : Nat)] 23)).alloc (.cells #[.slice A n c] 23)).alloc (.cells #[.int .i64 (n' : Nat)] 3)
  replace bS := (bS.alloc (.cells #[.slice A n c] 23)).alloc (.cells #[.int .i64 (n' : Nat)] 3)
  replace bN := bN.alloc (.cells #[.int .i64 (n' : Nat)] 3)
  obtain ⟨W0, hW0⟩ : ∃ W0, ((w1.alloc (.cells #[.slice (some ⟨w.heap.size + 1 + 1, 0, none⟩) (n + n' : Nat) (n + n' : Nat)] 23)).alloc (.cells #[.slice A n c] 23)).alloc (.cells #[.int .i64 (n' : Nat)] 3) = W0 := ⟨_, rfl⟩
  rw [hW0] at bB bP bS bN bK hB0 hZ0 hsz ⊢
  clear hW0 hmk hF1 hb1 hs1 hB1 hZ hcB
  have hB4 : W0.heap.size = w.heap.size + 6 := hsz
  refine wpIn_rangeFunc_told rfl (by omega) (gf := 67) (lb := #[.pointer (some ⟨w.heap.size + 1 + 1 + 1 + 1, 0, none⟩), .pointer (some ⟨w.heap.size + 1 + 1 + 1 + 1 + 1, 0, none⟩)]) rfl trivial (enters_of Try.func67 (by kernel_rfl) rfl)
    (fun _ => rfl) (PiecesI w bx A A' n n' c c' N M) (fun _ _ _ => False) (by rw [hB4]; exact piecesI_own) (fun _ _ _ _ _ h _ _ => h)
    ⟨⟨bN.cell, h.below hB0⟩, bK.cell, bB, bP, bS, h'.below hB0, hZ0, hB0⟩
    (pieces1_tells (w.heap.size + 1 + 1 + 1 + 1) w.heap.size A n c n' N hn hn' h0 hnc hcb _ (fun _ _ h => ⟨h.1, h.2.1⟩) Fence.wide rfl)
    (fun x => { tmps := #[.slice A n c, .slice A' n' c', .func (.func 49) #[] #[.pointer (some ⟨bx, 0, none⟩)], undef, .pointer (some ⟨w.heap.size, 0, none⟩), .pointer (some ⟨w.heap.size + 1, 0, none⟩), .slice none 0 0, .pointer (some ⟨w.heap.size + 1 + 1 + 1, 0, none⟩), .int .i64 (x : Nat), pieceV A n c n' x,
          .slice A n c, .int .i64 (n : Nat), .slice A' n' c', .int .i64 (n' : Nat), .int .i64 ((n : Int) + (n' : Int)), .slice (some ⟨w.heap.size + 1 + 1, 0, none⟩) (n + n') (n + n'), .slice A n c, .slice A' n' c', .int .i64 (n' : Nat),
          .func (.func 67) #[] #[.pointer (some ⟨w.heap.size + 1 + 1 + 1 + 1, 0, none⟩), .pointer (some ⟨w.heap.size + 1 + 1 + 1 + 1 + 1, 0, none⟩)], .int .i64 (x : Nat), pieceV A n c n' x, undef, undef, undef, undef, undef, undef, undef, undef, undef], defers := [] }) ?assign ?body ?done ?stop
  case assign =>
    intro l x W K hK
    gi_wp2
    exact hK
  case body =>
    rintro l s x W ⟨⟨hcN, hRN⟩, hcn, bB, bP, bS, hRM, hBf, hBl⟩ ⟨rfl, hs⟩
    have HBf := Lib.hid hBf
    have hgs : w.heap.size + 1 + 1 < W.heap.size := by have := bS.lt; omega
    have hltS : w.heap.size + 1 + 1 + 1 < W.heap.size := bS.lt
    have hcB := bB.cell
    have hcP := bP.cell
    have hcS := bS.cell
    have hbW : Boxed W bx 34 (.func (.func 49) #[] #[.pointer (some ⟨bx, 0, none⟩)]) := boxed_below hbx hBl hbx.lt
    have HRN := Lib.hid (h.below hBl)
    have HRM := Lib.hid (h'.below hBl)
    have HK := Lib.hid (show w.heap.size + 1 + 1 < W0.heap.size by omega)
    have EP := Lib.hid (HP W.drew (A.map fun ad => ad.add x) A' (min (x + n') n - x) n' (c - x) c' (N / Bw ^ x % Bw ^ (min (x + n') n - x)) M hbW ((hRN.piece (by omega)).more hBl.size) (hRM.more hBl.size) (by omega) (by omega) hnc' hcb' (by omega) hn'
      (by have h1 := lenL_le.2 (Nat.mod_lt (N / Bw ^ x) (pow_pos_Bw (min (x + n') n - x))); have h2 := lenL_le.2 hRM.1; omega))
    clear hBf hRN hRM hbW
    dsimp only [pieceV]
    gi_wp2
    refine wpIn_region_round (by kernel_rfl) (by kernel_rfl) ?_
    refine wpAnyIn_take (i := 2) (v := _) rfl rfl (by kernel_rfl) (by kernel_rfl) (by kernel_rfl) (fun _ _ _ h => h) ⟨Or.inl ⟨by rfl, fun w => BigFrame.run_move (.tmp 9) rfl w⟩, fun _ => rfl⟩ ?_
    refine wpAnyIn_take (i := 5) (v := _) rfl rfl (by kernel_rfl) (by kernel_rfl) (by kernel_rfl) (fun _ _ _ h => h) ⟨Or.inl ⟨by rfl, fun w => BigFrame.run_move (.tmp 8) rfl w⟩, fun _ => rfl⟩ ?_
    refine wpAnyIn_ready (rs := [0, 1, 3]) (by kernel_rfl) (by simp) ?_
    refine AllReadyIn.cons rfl (fun K hK => ?_) ?_
    · go_simp
      refine hK _ _ ?_
      clear hK K
      refine wpAnyIn_ready (rs := [1, 3]) (by kernel_rfl) (by simp) ?_
      refine AllReadyIn.cons rfl (fun K hK => ?_) ?_
      · go_simp
        refine hK _ _ ?_
        clear hK K
        refine wpAnyIn_ready (rs := [3]) (by kernel_rfl) (by simp) ?_
        refine AllReadyIn.cons rfl (fun K hK => ?_) ?_
        · go_simp
          refine hK _ _ ?_
          clear hK K
          refine wpAnyIn_ready (rs := [4]) (by kernel_rfl) (by simp) ?_
          refine AllReadyIn.cons rfl (fun K hK => ?_) ?_
          · go_simp
            refine ⟨trivial, (callsIn_wide.2 EP.out).mono ?_⟩
            rintro e w1 ⟨A2, c2, rfl, g1, g2, g3, g4⟩
            replace g4 := below_drew g4
            have hcS1 := (g4.cell (p := ⟨w.heap.size + 1 + 1 + 1, 0, none⟩) hltS).trans hcS
            have HA := Lib.hid (piece_added hs hn hn' h h' HBf.out hgs g4 g3)
            clear g1 g3
            refine hK _ _ ?_
            clear hK K
            refine wpAnyIn_ready (rs := [6]) (by kernel_rfl) (by simp) ?_
            refine AllReadyIn.cons rfl (fun K hK => ?_) ?_
            · go_simp
              refine ⟨trivial, (callsIn_wide.2 (HA.out c2)).mono ?_⟩
              rintro e w2 ⟨⟨v, rfl⟩, hG, hb⟩
              refine hK _ _ ?_
              clear hK K
              refine wpAnyIn_done (by kernel_rfl) ?_ _
              have hG' : W.grownBy w2 (some (w.heap.size + 1 + 1)) := (below_grown g4 _).trans hG
              exact ⟨KeepsFrom.of_grownBy hG' (fun j e => by cases e; exact HK.out), ⟨hG'.cell hcN (some_ne (a := w.heap.size + 1 + 1 + 1 + 1) (by omega)), HRN.out.grown hG' (by omega) hBl.size⟩, hG'.cell hcn (some_ne (a := w.heap.size + 1 + 1 + 1 + 1 + 1) (by omega)), bB.kept hG' (some_ne (by omega)), bP.kept hG' (some_ne (by omega)), bS.kept hG' (some_ne (by omega)), HRM.out.grown hG' (by omega) hBl.size, hb, hBl.trans ((below_of_grown hG' (by omega)).mono (by omega))⟩
            exact AllReadyIn.nil
          exact AllReadyIn.nil
        exact AllReadyIn.nil
      refine AllReadyIn.cons rfl (fun K hK => ?_) ?_
      · go_simp
        refine hK _ _ ?_
        clear hK K
        refine wpAnyIn_ready (rs := [1]) (by kernel_rfl) (by simp) ?_
        refine AllReadyIn.cons rfl (fun K hK => ?_) ?_
        · go_simp
          refine hK _ _ ?_
          clear hK K
          refine wpAnyIn_ready (rs := [4]) (by kernel_rfl) (by simp) ?_
          refine AllReadyIn.cons rfl (fun K hK => ?_) ?_
          · go_simp
            refine ⟨trivial, (callsIn_wide.2 EP.out).mono ?_⟩
            rintro e w1 ⟨A2, c2, rfl, g1, g2, g3, g4⟩
            replace g4 := below_drew g4
            have hcS1 := (g4.cell (p := ⟨w.heap.size + 1 + 1 + 1, 0, none⟩) hltS).trans hcS
            have HA := Lib.hid (piece_added hs hn hn' h h' HBf.out hgs g4 g3)
            clear g1 g3
            refine hK _ _ ?_
            clear hK K
            refine wpAnyIn_ready (rs := [6]) (by kernel_rfl) (by simp) ?_
            refine AllReadyIn.cons rfl (fun K hK => ?_) ?_
            · go_simp
              refine ⟨trivial, (callsIn_wide.2 (HA.out c2)).mono ?_⟩
              rintro e w2 ⟨⟨v, rfl⟩, hG, hb⟩
              refine hK _ _ ?_
              clear hK K
              refine wpAnyIn_done (by kernel_rfl) ?_ _
              have hG' : W.grownBy w2 (some (w.heap.size + 1 + 1)) := (below_grown g4 _).trans hG
              exact ⟨KeepsFrom.of_grownBy hG' (fun j e => by cases e; exact HK.out), ⟨hG'.cell hcN (some_ne (a := w.heap.size + 1 + 1 + 1 + 1) (by omega)), HRN.out.grown hG' (by omega) hBl.size⟩, hG'.cell hcn (some_ne (a := w.heap.size + 1 + 1 + 1 + 1 + 1) (by omega)), bB.kept hG' (some_ne (by omega)), bP.kept hG' (some_ne (by omega)), bS.kept hG' (some_ne (by omega)), HRM.out.grown hG' (by omega) hBl.size, hb, hBl.trans ((below_of_grown hG' (by omega)).mono (by omega))⟩
            exact AllReadyIn.nil
          exact AllReadyIn.nil
        exact AllReadyIn.nil
      exact AllReadyIn.nil
    refine AllReadyIn.cons rfl (fun K hK => ?_) ?_
    · go_simp
      refine hK _ _ ?_
      clear hK K
      refine wpAnyIn_ready (rs := [0, 3]) (by kernel_rfl) (by simp) ?_
      refine AllReadyIn.cons rfl (fun K hK => ?_) ?_
      · go_simp
        refine hK _ _ ?_
        clear hK K
        refine wpAnyIn_ready (rs := [3]) (by kernel_rfl) (by simp) ?_
        refine AllReadyIn.cons rfl (fun K hK => ?_) ?_
        · go_simp
          refine hK _ _ ?_
          clear hK K
          refine wpAnyIn_ready (rs := [4]) (by kernel_rfl) (by simp) ?_
          refine AllReadyIn.cons rfl (fun K hK => ?_) ?_
          · go_simp
            refine ⟨trivial, (callsIn_wide.2 EP.out).mono ?_⟩
            rintro e w1 ⟨A2, c2, rfl, g1, g2, g3, g4⟩
            replace g4 := below_drew g4
            have hcS1 := (g4.cell (p := ⟨w.heap.size + 1 + 1 + 1, 0, none⟩) hltS).trans hcS
            have HA := Lib.hid (piece_added hs hn hn' h h' HBf.out hgs g4 g3)
            clear g1 g3
            refine hK _ _ ?_
            clear hK K
            refine wpAnyIn_ready (rs := [6]) (by kernel_rfl) (by simp) ?_
            refine AllReadyIn.cons rfl (fun K hK => ?_) ?_
            · go_simp
              refine ⟨trivial, (callsIn_wide.2 (HA.out c2)).mono ?_⟩
              rintro e w2 ⟨⟨v, rfl⟩, hG, hb⟩
              refine hK _ _ ?_
              clear hK K
              refine wpAnyIn_done (by kernel_rfl) ?_ _
              have hG' : W.grownBy w2 (some (w.heap.size + 1 + 1)) := (below_grown g4 _).trans hG
              exact ⟨KeepsFrom.of_grownBy hG' (fun j e => by cases e; exact HK.out), ⟨hG'.cell hcN (some_ne (a := w.heap.size + 1 + 1 + 1 + 1) (by omega)), HRN.out.grown hG' (by omega) hBl.size⟩, hG'.cell hcn (some_ne (a := w.heap.size + 1 + 1 + 1 + 1 + 1) (by omega)), bB.kept hG' (some_ne (by omega)), bP.kept hG' (some_ne (by omega)), bS.kept hG' (some_ne (by omega)), HRM.out.grown hG' (by omega) hBl.size, hb, hBl.trans ((below_of_grown hG' (by omega)).mono (by omega))⟩
            exact AllReadyIn.nil
          exact AllReadyIn.nil
        exact AllReadyIn.nil
      refine AllReadyIn.cons rfl (fun K hK => ?_) ?_
      · go_simp
        refine hK _ _ ?_
        clear hK K
        refine wpAnyIn_ready (rs := [0, 4]) (by kernel_rfl) (by simp) ?_
        refine AllReadyIn.cons rfl (fun K hK => ?_) ?_
        · go_simp
          refine hK _ _ ?_
          clear hK K
          refine wpAnyIn_ready (rs := [4]) (by kernel_rfl) (by simp) ?_
          refine AllReadyIn.cons rfl (fun K hK => ?_) ?_
          · go_simp
            refine ⟨trivial, (callsIn_wide.2 EP.out).mono ?_⟩
            rintro e w1 ⟨A2, c2, rfl, g1, g2, g3, g4⟩
            replace g4 := below_drew g4
            have hcS1 := (g4.cell (p := ⟨w.heap.size + 1 + 1 + 1, 0, none⟩) hltS).trans hcS
            have HA := Lib.hid (piece_added hs hn hn' h h' HBf.out hgs g4 g3)
            clear g1 g3
            refine hK _ _ ?_
            clear hK K
            refine wpAnyIn_ready (rs := [6]) (by kernel_rfl) (by simp) ?_
            refine AllReadyIn.cons rfl (fun K hK => ?_) ?_
            · go_simp
              refine ⟨trivial, (callsIn_wide.2 (HA.out c2)).mono ?_⟩
              rintro e w2 ⟨⟨v, rfl⟩, hG, hb⟩
              refine hK _ _ ?_
              clear hK K
              refine wpAnyIn_done (by kernel_rfl) ?_ _
              have hG' : W.grownBy w2 (some (w.heap.size + 1 + 1)) := (below_grown g4 _).trans hG
              exact ⟨KeepsFrom.of_grownBy hG' (fun j e => by cases e; exact HK.out), ⟨hG'.cell hcN (some_ne (a := w.heap.size + 1 + 1 + 1 + 1) (by omega)), HRN.out.grown hG' (by omega) hBl.size⟩, hG'.cell hcn (some_ne (a := w.heap.size + 1 + 1 + 1 + 1 + 1) (by omega)), bB.kept hG' (some_ne (by omega)), bP.kept hG' (some_ne (by omega)), bS.kept hG' (some_ne (by omega)), HRM.out.grown hG' (by omega) hBl.size, hb, hBl.trans ((below_of_grown hG' (by omega)).mono (by omega))⟩
            exact AllReadyIn.nil
          exact AllReadyIn.nil
        refine AllReadyIn.cons rfl (fun K hK => ?_) ?_
        · go_simp
          refine ⟨trivial, (callsIn_wide.2 EP.out).mono ?_⟩
          rintro e w1 ⟨A2, c2, rfl, g1, g2, g3, g4⟩
          replace g4 := below_drew g4
          have hcS1 := (g4.cell (p := ⟨w.heap.size + 1 + 1 + 1, 0, none⟩) hltS).trans hcS
          have HA := Lib.hid (piece_added hs hn hn' h h' HBf.out hgs g4 g3)
          clear g1 g3
          refine hK _ _ ?_
          clear hK K
          refine wpAnyIn_ready (rs := [0]) (by kernel_rfl) (by simp) ?_
          refine AllReadyIn.cons rfl (fun K hK => ?_) ?_
          · go_simp
            refine hK _ _ ?_
            clear hK K
            refine wpAnyIn_ready (rs := [6]) (by kernel_rfl) (by simp) ?_
            refine AllReadyIn.cons rfl (fun K hK => ?_) ?_
            · go_simp
              refine ⟨trivial, (callsIn_wide.2 (HA.out c2)).mono ?_⟩
              rintro e w2 ⟨⟨v, rfl⟩, hG, hb⟩
              refine hK _ _ ?_
              clear hK K
              refine wpAnyIn_done (by kernel_rfl) ?_ _
              have hG' : W.grownBy w2 (some (w.heap.size + 1 + 1)) := (below_grown g4 _).trans hG
              exact ⟨KeepsFrom.of_grownBy hG' (fun j e => by cases e; exact HK.out), ⟨hG'.cell hcN (some_ne (a := w.heap.size + 1 + 1 + 1 + 1) (by omega)), HRN.out.grown hG' (by omega) hBl.size⟩, hG'.cell hcn (some_ne (a := w.heap.size + 1 + 1 + 1 + 1 + 1) (by omega)), bB.kept hG' (some_ne (by omega)), bP.kept hG' (some_ne (by omega)), bS.kept hG' (some_ne (by omega)), HRM.out.grown hG' (by omega) hBl.size, hb, hBl.trans ((below_of_grown hG' (by omega)).mono (by omega))⟩
            exact AllReadyIn.nil
          exact AllReadyIn.nil
        exact AllReadyIn.nil
      exact AllReadyIn.nil
    refine AllReadyIn.cons rfl (fun K hK => ?_) ?_
    · go_simp
      refine hK _ _ ?_
      clear hK K
      refine wpAnyIn_ready (rs := [0, 1]) (by kernel_rfl) (by simp) ?_
      refine AllReadyIn.cons rfl (fun K hK => ?_) ?_
      · go_simp
        refine hK _ _ ?_
        clear hK K
        refine wpAnyIn_ready (rs := [1]) (by kernel_rfl) (by simp) ?_
        refine AllReadyIn.cons rfl (fun K hK => ?_) ?_
        · go_simp
          refine hK _ _ ?_
          clear hK K
          refine wpAnyIn_ready (rs := [4]) (by kernel_rfl) (by simp) ?_
          refine AllReadyIn.cons rfl (fun K hK => ?_) ?_
          · go_simp
            refine ⟨trivial, (callsIn_wide.2 EP.out).mono ?_⟩
            rintro e w1 ⟨A2, c2, rfl, g1, g2, g3, g4⟩
            replace g4 := below_drew g4
            have hcS1 := (g4.cell (p := ⟨w.heap.size + 1 + 1 + 1, 0, none⟩) hltS).trans hcS
            have HA := Lib.hid (piece_added hs hn hn' h h' HBf.out hgs g4 g3)
            clear g1 g3
            refine hK _ _ ?_
            clear hK K
            refine wpAnyIn_ready (rs := [6]) (by kernel_rfl) (by simp) ?_
            refine AllReadyIn.cons rfl (fun K hK => ?_) ?_
            · go_simp
              refine ⟨trivial, (callsIn_wide.2 (HA.out c2)).mono ?_⟩
              rintro e w2 ⟨⟨v, rfl⟩, hG, hb⟩
              refine hK _ _ ?_
              clear hK K
              refine wpAnyIn_done (by kernel_rfl) ?_ _
              have hG' : W.grownBy w2 (some (w.heap.size + 1 + 1)) := (below_grown g4 _).trans hG
              exact ⟨KeepsFrom.of_grownBy hG' (fun j e => by cases e; exact HK.out), ⟨hG'.cell hcN (some_ne (a := w.heap.size + 1 + 1 + 1 + 1) (by omega)), HRN.out.grown hG' (by omega) hBl.size⟩, hG'.cell hcn (some_ne (a := w.heap.size + 1 + 1 + 1 + 1 + 1) (by omega)), bB.kept hG' (some_ne (by omega)), bP.kept hG' (some_ne (by omega)), bS.kept hG' (some_ne (by omega)), HRM.out.grown hG' (by omega) hBl.size, hb, hBl.trans ((below_of_grown hG' (by omega)).mono (by omega))⟩
            exact AllReadyIn.nil
          exact AllReadyIn.nil
        exact AllReadyIn.nil
      refine AllReadyIn.cons rfl (fun K hK => ?_) ?_
      · go_simp
        refine hK _ _ ?_
        clear hK K
        refine wpAnyIn_ready (rs := [0, 4]) (by kernel_rfl) (by simp) ?_
        refine AllReadyIn.cons rfl (fun K hK => ?_) ?_
        · go_simp
          refine hK _ _ ?_
          clear hK K
          refine wpAnyIn_ready (rs := [4]) (by kernel_rfl) (by simp) ?_
          refine AllReadyIn.cons rfl (fun K hK => ?_) ?_
          · go_simp
            refine ⟨trivial, (callsIn_wide.2 EP.out).mono ?_⟩
            rintro e w1 ⟨A2, c2, rfl, g1, g2, g3, g4⟩
            replace g4 := below_drew g4
            have hcS1 := (g4.cell (p := ⟨w.heap.size + 1 + 1 + 1, 0, none⟩) hltS).trans hcS
            have HA := Lib.hid (piece_added hs hn hn' h h' HBf.out hgs g4 g3)
            clear g1 g3
            refine hK _ _ ?_
            clear hK K
            refine wpAnyIn_ready (rs := [6]) (by kernel_rfl) (by simp) ?_
            refine AllReadyIn.cons rfl (fun K hK => ?_) ?_
            · go_simp
              refine ⟨trivial, (callsIn_wide.2 (HA.out c2)).mono ?_⟩
              rintro e w2 ⟨⟨v, rfl⟩, hG, hb⟩
              refine hK _ _ ?_
              clear hK K
              refine wpAnyIn_done (by kernel_rfl) ?_ _
              have hG' : W.grownBy w2 (some (w.heap.size + 1 + 1)) := (below_grown g4 _).trans hG
              exact ⟨KeepsFrom.of_grownBy hG' (fun j e => by cases e; exact HK.out), ⟨hG'.cell hcN (some_ne (a := w.heap.size + 1 + 1 + 1 + 1) (by omega)), HRN.out.grown hG' (by omega) hBl.size⟩, hG'.cell hcn (some_ne (a := w.heap.size + 1 + 1 + 1 + 1 + 1) (by omega)), bB.kept hG' (some_ne (by omega)), bP.kept hG' (some_ne (by omega)), bS.kept hG' (some_ne (by omega)), HRM.out.grown hG' (by omega) hBl.size, hb, hBl.trans ((below_of_grown hG' (by omega)).mono (by omega))⟩
            exact AllReadyIn.nil
          exact AllReadyIn.nil
        refine AllReadyIn.cons rfl (fun K hK => ?_) ?_
        · go_simp
          refine ⟨trivial, (callsIn_wide.2 EP.out).mono ?_⟩
          rintro e w1 ⟨A2, c2, rfl, g1, g2, g3, g4⟩
          replace g4 := below_drew g4
          have hcS1 := (g4.cell (p := ⟨w.heap.size + 1 + 1 + 1, 0, none⟩) hltS).trans hcS
          have HA := Lib.hid (piece_added hs hn hn' h h' HBf.out hgs g4 g3)
          clear g1 g3
          refine hK _ _ ?_
          clear hK K
          refine wpAnyIn_ready (rs := [0]) (by kernel_rfl) (by simp) ?_
          refine AllReadyIn.cons rfl (fun K hK => ?_) ?_
          · go_simp
            refine hK _ _ ?_
            clear hK K
            refine wpAnyIn_ready (rs := [6]) (by kernel_rfl) (by simp) ?_
            refine AllReadyIn.cons rfl (fun K hK => ?_) ?_
            · go_simp
              refine ⟨trivial, (callsIn_wide.2 (HA.out c2)).mono ?_⟩
              rintro e w2 ⟨⟨v, rfl⟩, hG, hb⟩
              refine hK _ _ ?_
              clear hK K
              refine wpAnyIn_done (by kernel_rfl) ?_ _
              have hG' : W.grownBy w2 (some (w.heap.size + 1 + 1)) := (below_grown g4 _).trans hG
              exact ⟨KeepsFrom.of_grownBy hG' (fun j e => by cases e; exact HK.out), ⟨hG'.cell hcN (some_ne (a := w.heap.size + 1 + 1 + 1 + 1) (by omega)), HRN.out.grown hG' (by omega) hBl.size⟩, hG'.cell hcn (some_ne (a := w.heap.size + 1 + 1 + 1 + 1 + 1) (by omega)), bB.kept hG' (some_ne (by omega)), bP.kept hG' (some_ne (by omega)), bS.kept hG' (some_ne (by omega)), HRM.out.grown hG' (by omega) hBl.size, hb, hBl.trans ((below_of_grown hG' (by omega)).mono (by omega))⟩
            exact AllReadyIn.nil
          exact AllReadyIn.nil
        exact AllReadyIn.nil
      exact AllReadyIn.nil
    exact AllReadyIn.nil
  case done =>
    rintro D s W hD hS ⟨⟨hcN, hRN⟩, hcn, bB, bP, bS, hRM, hBf, hBl⟩ hK
    rw [Nat.mod_eq_of_lt (lt_pow_of hRN.1 hS)] at hBf
    have hcS := bS.cell
    have hF : Fr W w.heap.size W.heap.size (some ⟨w.heap.size + 1 + 1, 0, none⟩) (n + n') (N * M) := hBf.fr (prod_lt h.1 h'.1) (by omega) (by have := bS.lt; omega)
    have E := Lib.hid (pcut_any W _ (some ⟨w.heap.size + 1 + 1, 0, none⟩) (n + n') (n + n') (N * M) hF.rd (Nat.le_refl _) (by omega))
    have HF := Lib.hid hF
    clear hS hRM hRN hBf hF bB bP
    gi_wp2_with (refine ⟨trivial, ?_⟩; gi_at_call 46; refine (callsIn_wide.2 E.out).mono ?_; rintro e w' ⟨rfl, rfl⟩)
    refine ⟨by simp, .inl ⟨_, _, rfl, run_takeDeferred hK, ?_⟩⟩
    have hs2 : (W.putObj D (.deferred none)).heap.size = W.heap.size := by simp [World.putObj]
    have hg' : Gives w (N * M) _ (W.putObj D (.deferred none)) := gives_cut (by rw [hs2]; exact HF.out.kept (grownBy_putObj' _ D (.deferred none)) (fun r e => by cases e; exact ⟨_, hK, rfl⟩)) (by simp only [maxLen]; omega) (hBl.trans (belowK_b (w := w) (Nat.le_refl _) W D _ _ (by omega) hK rfl rfl))
    refine ⟨_, results_tmp rfl _ _ _, ?_⟩
    exact hg'
  case stop =>
    rintro D c s W _ _ h _
    exact h.elim

theorem byPieces_any (bx m : Nat) (HP : ProdAt bx m) (A A' : Option Addr) (n n' c c' N M : Nat) (w : World) (hbx : Boxed w bx 34 (.func (.func 49) #[] #[.pointer (some ⟨bx, 0, none⟩)])) (hn : n ≤ 1000000000000) (hn' : n' ≤ 1000000000000) (h0 : 0 < n') (hm : n' + n' < m) (h : Rd w w.heap.size A n N) (h' : Rd w w.heap.size A' n' M)
    (hnc : n ≤ c) (hcb : c ≤ 9223372036854775807) (hnc' : n' ≤ c') (hcb' : c' ≤ 9223372036854775807) :
    Calls Try.prog 51 #[.slice A n c, .slice A' n' c', .func (.func 49) #[] #[.pointer (some ⟨bx, 0, none⟩)]] w (Gives w (N * M)) :=
  callsIn_wide.1 (byPieces_in bx m HP A A' n n' c c' N M w hbx hn hn' h0 hm h h' hnc hcb hnc' hcb')
end Go.Proofs.Ytfijbocblmhdbaa
