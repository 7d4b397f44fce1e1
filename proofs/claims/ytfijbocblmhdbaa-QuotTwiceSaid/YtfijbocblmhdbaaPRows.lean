/- Contract of package prod's byRows: a product limb by limb, over a range over a function. -/
import Derived.Shelf.Abstract
import Derived.Shelf.RegionOpen
import Derived.OwnWalkIn
import Derived.TacticsInMore
import Derived.LoopNIn
import Derived.LoopIn
import Derived.Sort.QuietIn
import Derived.Stop.RegionWithIn
import Derived.Test.YtfijbocblmhdbaaGProdA
namespace Go.Proofs.Ytfijbocblmhdbaa
open Go Go.RowKit
attribute [local go_sem] Oper.semAt_some

theorem Buf.kept {W W' : World} {g n O : Nat} {row : Option Nat} (h : Buf W g n O) (hg : W.grownBy W' row) (hrow : ∀ r, row = some r → ∃ o : Obj, W.heap[r]? = some o ∧ o.isCells = false) : Buf W' g n O :=
  fun j hj => ⟨cell_kept (h j hj).1 hg hrow, (frozen_kept (h j hj).1 hg hrow).trans (h j hj).2⟩

/-- Between two rounds of 'byRows'. -/
def RowsI (w : World) (A A' : Option Addr) (n n' c c' N M : Nat) (s : Nat) (W : World) : Prop :=
  Src (w.heap.size + 1 + 1 + 1) w.heap.size A' n' c' M W ∧ Boxed W w.heap.size 23 (.slice A n c) ∧ Boxed W (w.heap.size + 1 + 1) 23 (.slice (some ⟨w.heap.size + 1, 0, none⟩) (n + n' : Nat) (n + n' : Nat)) ∧
    Rd W w.heap.size A n N ∧ Buf W (w.heap.size + 1) (n + n') (N * (M % Bw ^ s)) ∧ Below w.heap.size w W
theorem rowsI_own {w : World} {A A' : Option Addr} {n n' c c' N M B : Nat} : OwnFrom (w.heap.size + B) (RowsI w A A' n n' c c' N M) := by
  rintro s W W' row ⟨⟨h1, h2⟩, h3, h4, h5, h6, h7⟩ hg hr
  have hr' := fun r e => (hr r e).2
  exact ⟨⟨cell_kept h1 hg hr', h2.kept hg hr'⟩, boxed_kept h3 hg hr', boxed_kept h4 hg hr', h5.kept hg hr', h6.kept hg hr', h7.grown hg h7.size (fun r e => by have := (hr r e).1; omega)⟩

theorem some_ne {a b : Nat} (h : a ≠ b) : some a ≠ some b := fun e => h (by injection e)
theorem mod_zeros {M s : Nat} : ∀ {i : Nat}, s ≤ i → (∀ j, s ≤ j → j < i → dig M j = 0) → M % Bw ^ i = M % Bw ^ s := by
  intro i
  induction i with
  | zero => intro h _; rw [show s = 0 by omega]
  | succ i ih =>
    intro h hz
    rcases Nat.lt_or_ge i s with h1 | h1
    · obtain rfl : s = i + 1 := by omega
      rfl
    · rw [mod_succ, hz i h1 (by omega), Nat.mul_zero, Nat.add_zero]
      exact ih h1 (fun j h2 h3 => hz j h2 (by omega))
theorem mod_all {M s n : Nat} (hM : M < Bw ^ n) (hz : ∀ j, s ≤ j → j < n → dig M j = 0) : M % Bw ^ s = M := by
  rcases Nat.lt_or_ge n s with h | h
  · exact Nat.mod_eq_of_lt (lt_pow_of hM (by omega))
  · rw [← mod_zeros h hz, Nat.mod_eq_of_lt hM]
theorem row_step {N M i : Nat} : N * (M % Bw ^ i) + dig M i * Bw ^ i * N = N * (M % Bw ^ (i + 1)) := by
  rw [mod_succ, Nat.mul_add, Nat.mul_comm (dig M i), Nat.mul_comm _ N]
theorem Buf.fr {W : World} {lo hi g n O : Nat} (h : Buf W g n O) (hO : O < Bw ^ n) (hlo : lo ≤ g) (hhi : g < hi) : Fr W lo hi (some ⟨g, 0, none⟩) n O := ⟨hO, fun _ => ⟨g, rfl, hlo, hhi, h⟩⟩
theorem boxed_below {W W' : World} {B K : Nat} {t : TypeId} {v : Value} (h : Boxed W B t v) (hb : Below K W W') (hB : B < K) : Boxed W' B t v := (hb.block B hB).trans h

set_option maxRecDepth 100000 in
set_option maxHeartbeats 2000000 in
theorem byRows_in (A A' : Option Addr) (n n' c c' N M : Nat) (w : World) (hn : n ≤ 1000000000000) (hn' : n' ≤ 1000000000000) (h : Rd w w.heap.size A n N) (h' : Rd w w.heap.size A' n' M) :
    CallsIn Fence.wide 10 Try.prog 50 #[.slice A n c, .slice A' n' c'] w (Gives w (N * M)) := by
  obtain ⟨w1, hmk, hF1, hb1, hs1⟩ := made_any (w.alloc (.cells #[.slice A n c] 23)) (n + n') (by omega)
  rw [show (((n + n' : Nat)) : Int) = (n : Int) + (n' : Int) from by omega] at hmk
  refine callsIn_of_wp_marks Try.func50 rfl trivial ?_ rfl
  simp only [Try.ntmps50, List.size_toArray, List.length_cons, List.length_nil, Nat.reduceAdd, Nat.reduceSub, Array.replicate_succ, Array.replicate_zero, List.push_toArray, List.append_toArray, List.nil_append, List.cons_append]
  gi_wp2_with (refine ⟨trivial, ?_⟩; gi_at_call 55; refine (callsIn_wide.2 (callsIn_wide.1 (limbs_in A' n' c' _))).mono ?_; rintro e w' ⟨rfl, rfl⟩)
  have bA := Boxed.new w 23 (.slice A n c)
  rw [World.size_alloc] at hF1 hb1 hs1
  replace bA := boxed_below bA hb1 (by omega)
  have bS := Boxed.new w1 23 (.slice (some ⟨w.heap.size + 1, 0, none⟩) (n + n' : Nat) (n + n' : Nat))
  have bM := Boxed.new (w1.alloc (.cells #[.slice (some ⟨w.heap.size + 1, 0, none⟩) (n + n' : Nat) (n + n' : Nat)] 23)) 23 (.slice A' n' c')
  rw [hs1] at bS
  rw [World.size_alloc, hs1] at bM
  have hB1 : Below w.heap.size w w1 := ((Below.refl _ w).alloc (Nat.le_refl _) _).trans (hb1.mono (by omega))
  have hB0 := (hB1.alloc (by omega) (.cells #[.slice (some ⟨w.heap.size + 1, 0, none⟩) (n + n' : Nat) (n + n' : Nat)] 23)).alloc (by rw [World.size_alloc]; omega) (.cells #[.slice A' n' c'] 23)
  have hZ : Buf w1 (w.heap.size + 1) (n + n') (N * (M % Bw ^ 0)) := by rw [Nat.pow_zero, Nat.mod_one, Nat.mul_zero]; exact Buf.of_fr hF1
  have hZ0 := (hZ.kept (World.grownBy_alloc w1 (.cells #[.slice (some ⟨w.heap.size + 1, 0, none⟩) (n + n' : Nat) (n + n' : Nat)] 23) none) (fun r e => by cases e)).kept (World.grownBy_alloc _ (.cells #[.slice A' n' c'] 23) none) (fun r e => by cases e)
  have hsz : ((w1.alloc (.cells #[.slice (some ⟨w.heap.size + 1, 0, none⟩) (n + n' : Nat) (n + n' : Nat)] 23)).alloc (.cells #[.slice A' n' c'] 23)).heap.size = w.heap.size + 4 := by rw [World.size_alloc, World.size_alloc]; omega
  replace bA := (bA.alloc (.cells #[.slice (some ⟨w.heap.size + 1, 0, none⟩) (n + n' : Nat) (n + n' : Nat)] 23)).alloc (.cells #[.slice A' n' c'] 23)
  replace bS := bS.alloc (.cells #[.slice A' n' c'] 23)
  obtain ⟨W0, hW0⟩ : ∃ W0, (w1.alloc (.cells #[.slice (some ⟨w.heap.size + 1, 0, none⟩) (n + n' : Nat) (n + n' : Nat)] 23)).alloc (.cells #[.slice A' n' c'] 23) = W0 := ⟨_, rfl⟩
  rw [hW0] at bA bS bM hB0 hZ0 hsz ⊢
  clear hW0 hmk hF1 hb1 hs1 hB1 hZ
  have hB4 : W0.heap.size = w.heap.size + 4 := hsz
  refine wpIn_rangeFunc_told rfl (by omega) (gf := 66) (lb := #[.pointer (some ⟨w.heap.size + 1 + 1 + 1, 0, none⟩)]) rfl trivial (enters_of Try.func66 (by kernel_rfl) rfl)
    (fun _ => rfl) (RowsI w A A' n n' c c' N M) (fun _ _ _ => False) (by rw [hB4]; exact rowsI_own) (fun _ _ _ _ _ h _ _ => h)
    ⟨⟨bM.cell, h'.below hB0⟩, bA, bS, h.below hB0, hZ0, hB0⟩
    (limbs1_tells (w.heap.size + 1 + 1 + 1) w.heap.size A' n' c' M (by omega) _ (fun _ _ h => h.1) Fence.wide rfl)
    (fun x => { tmps := #[.slice A n c, .slice A' n' c', .pointer (some ⟨w.heap.size, 0, none⟩), undef, .slice none 0 0, .pointer (some ⟨w.heap.size + 1 + 1, 0, none⟩), .int .i64 (x.1 : Nat), .int .u32 (x.2 : Nat),
          .slice A n c, .int .i64 (n : Nat), .slice A' n' c', .int .i64 (n' : Nat), .int .i64 ((n : Int) + (n' : Int)), .slice (some ⟨w.heap.size + 1, 0, none⟩) (n + n') (n + n'), .slice A' n' c',
          .func (.func 66) #[] #[.pointer (some ⟨w.heap.size + 1 + 1 + 1, 0, none⟩)], .int .i64 (x.1 : Nat), .int .u32 (x.2 : Nat), undef, undef, undef, undef, undef, undef, undef, undef], defers := [] }) ?assign ?body ?done ?stop
  case assign =>
    intro l x W K hK
    gi_wp2
    exact hK
  case body =>
    rintro l s ⟨i, d⟩ W ⟨⟨hcM, hRM⟩, bA1, bS1, hRN, hBf, hBl⟩ ⟨hs, hi, hdd, hz⟩
    dsimp only at hs hi hz hdd ⊢
    subst hdd
    rw [← mod_zeros hs hz] at hBf
    have HBf := Lib.hid hBf
    have hlt : N * (M % Bw ^ i) < Bw ^ (i + n) := by rw [Nat.mul_comm]; exact prod_lt (Nat.mod_lt _ (pow_pos_Bw i)) hRN.1
    have hgs : w.heap.size + 1 < W.heap.size := by have := bS1.lt; omega
    have hcA := bA1.cell
    have hcS := bS1.cell
    have hd := dig_lt M i
    have E := Lib.hid (addRow_any W.drew (w.heap.size + 1) (n + n') i (n + n' - i) (n + n' - i) n c (N * (M % Bw ^ i)) N (dig M i) A hBf hlt (by omega) (by omega) (by omega) (by omega) (hRN.more (by omega)) hgs hd)
    rw [row_step] at E
    have HRM := Lib.hid (h'.below hBl)
    have HK := Lib.hid (show w.heap.size + 1 < W0.heap.size by omega)
    have HRN := Lib.hid (h.below hBl)
    clear hz hBf hlt hRN hRM
    gi_wp2
    gi_region_with (refine ⟨trivial, ?_⟩; gi_at_call 56; refine (CallsIn.inRound l (callsIn_wide.2 E.out)).mono ?_; rintro e w' ⟨⟨v, rfl⟩, hG, hb⟩)
    all_goals
      have hG' : W.grownBy w' (some (w.heap.size + 1)) := (grown_drew W _).trans hG
      refine ⟨KeepsFrom.of_grownBy hG' (fun j e => by cases e; exact HK.out), ⟨hG'.cell hcM (some_ne (a := w.heap.size + 1 + 1 + 1) (by omega)), HRM.out.grown hG' (by omega) hBl.size⟩, bA1.kept hG' (some_ne (by omega)), bS1.kept hG' (some_ne (by omega)), HRN.out.grown hG' (by omega) hBl.size, hb, hBl.trans ((below_of_grown hG' (by omega)).mono (by omega))⟩
  case done =>
    rintro D s W hD hS ⟨⟨hcM, hRM⟩, bA1, bS1, hRN, hBf, hBl⟩ hK
    rw [mod_all hRM.1 hS] at hBf
    have hcS := bS1.cell
    have hF : Fr W w.heap.size W.heap.size (some ⟨w.heap.size + 1, 0, none⟩) (n + n') (N * M) := hBf.fr (prod_lt h.1 h'.1) (by omega) (by have := bS1.lt; omega)
    have E := Lib.hid (pcut_any W _ (some ⟨w.heap.size + 1, 0, none⟩) (n + n') (n + n') (N * M) hF.rd (Nat.le_refl _) (by omega))
    have HF := Lib.hid hF
    clear hS hRM hRN hBf hF bA1
    gi_wp2_with (refine ⟨trivial, ?_⟩; gi_at_call 46; refine (callsIn_wide.2 E.out).mono ?_; rintro e w' ⟨rfl, rfl⟩)
    refine ⟨by simp, .inl ⟨_, _, rfl, run_takeDeferred hK, ?_⟩⟩
    have hs2 : (W.putObj D (.deferred none)).heap.size = W.heap.size := by simp [World.putObj]
    have hg' : Gives w (N * M) _ (W.putObj D (.deferred none)) := gives_cut (by rw [hs2]; exact HF.out.kept (grownBy_putObj' _ D (.deferred none)) (fun r e => by cases e; exact ⟨_, hK, rfl⟩)) (by simp only [maxLen]; omega) (hBl.trans (belowK_b (w := w) (Nat.le_refl _) W D _ _ (by omega) hK rfl rfl))
    refine ⟨_, results_tmp rfl _ _ _, ?_⟩
    exact hg'
  case stop =>
    rintro D c s W _ _ h _
    exact h.elim

theorem byRows_any (A A' : Option Addr) (n n' c c' N M : Nat) (w : World) (hn : n ≤ 1000000000000) (hn' : n' ≤ 1000000000000) (h : Rd w w.heap.size A n N) (h' : Rd w w.heap.size A' n' M) :
    Calls Try.prog 50 #[.slice A n c, .slice A' n' c'] w (Gives w (N * M)) :=
  callsIn_wide.1 (byRows_in A A' n n' c c' N M w hn hn' h h')
end Go.Proofs.Ytfijbocblmhdbaa
