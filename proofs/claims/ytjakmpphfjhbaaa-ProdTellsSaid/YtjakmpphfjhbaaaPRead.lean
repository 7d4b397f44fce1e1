/- Contract of package prod's readFrom: a number, read from a bit on, over a range over a function without end that a label leaves. -/
import Derived.Shelf.Abstract
import Derived.Shelf.RegionOpen
import Derived.OwnWalkIn
import Derived.TacticsInMore
import Derived.LoopNIn
import Derived.LoopIn
import Derived.Sort.QuietIn
import Derived.Test.YtjakmpphfjhbaaaPWin
import Derived.Test.YtjakmpphfjhbaaaNPut
import Derived.Test.YtjakmpphfjhbaaaPRows
namespace Go.Proofs.Ytjakmpphfjhbaaa
open Go Go.RowKit
attribute [local go_sem] Oper.semAt_some

theorem lenL_bits (V : Nat) : lenL V = (bitsN V + 31) / 32 := by
  have h1 : ∀ m, lenL V ≤ m ↔ bitsN V ≤ 32 * m := fun m => by rw [lenL_le, bitsN_le, Bw_pow]
  have h2 := (h1 (lenL V)).1 (Nat.le_refl _)
  have h3 := (h1 ((bitsN V + 31) / 32)).2 (by omega)
  omega
theorem bitsN_eq_zero {V : Nat} (h : bitsN V = 0) : V = 0 := by
  have := (bitsN_le (N := V) (k := 0)).1 (by omega)
  simpa using this
theorem bitsN_bound {N n : Nat} (h : N < Bw ^ n) : bitsN N ≤ 32 * n := by rw [bitsN_le, ← Bw_pow]; exact h

/-- Between two rounds of 'readFrom'; a round has left. -/
def ReadI (w : World) (A : Option Addr) (n c N L V : Nat) (f : Int) (s : Nat) (W : World) : Prop :=
  Src (w.heap.size + 1 + 1) w.heap.size A n c N W ∧ W.cell? ⟨w.heap.size + 1 + 1 + 1, 0, none⟩ = some (.int .i64 f) ∧ s ≤ L ∧ Boxed W (w.heap.size + 1) 23 (.slice (some ⟨w.heap.size, 0, none⟩) (L : Nat) (L : Nat)) ∧
    Mid W w.heap.size (some ⟨w.heap.size, 0, none⟩) L s V 0 ∧ Below w.heap.size w W
def ReadX (w : World) (L V : Nat) (c : Code) (_ : Nat) (W : World) : Prop :=
  c = .exit 0 ∧ Boxed W (w.heap.size + 1) 23 (.slice (some ⟨w.heap.size, 0, none⟩) (L : Nat) (L : Nat)) ∧ Mid W w.heap.size (some ⟨w.heap.size, 0, none⟩) L L V 0 ∧ Below w.heap.size w W
theorem readI_own {w : World} {A : Option Addr} {n c N L V B : Nat} {f : Int} : OwnFrom (w.heap.size + B) (ReadI w A n c N L V f) := by
  rintro s W W' row ⟨⟨h1, h2⟩, h3, h4, h5, h6, h7⟩ hg hr
  have hr' := fun r e => (hr r e).2
  exact ⟨⟨cell_kept h1 hg hr', h2.kept hg hr'⟩, cell_kept h3 hg hr', h4, boxed_kept h5 hg hr', h6.kept hg hr', h7.grown hg h7.size (fun r e => by have := (hr r e).1; omega)⟩
theorem readX_own {w : World} {L V B : Nat} (c : Code) : OwnFrom (w.heap.size + B) (ReadX w L V c) := by
  rintro s W W' row ⟨h1, h5, h6, h7⟩ hg hr
  have hr' := fun r e => (hr r e).2
  exact ⟨h1, boxed_kept h5 hg hr', h6.kept hg hr', h7.grown hg h7.size (fun r e => by have := (hr r e).1; omega)⟩

set_option maxRecDepth 100000 in
set_option maxHeartbeats 4000000 in
theorem readFrom_in (w : World) (A : Option Addr) (n c N V L left : Nat) (q f : Int) (r : Nat) (hf : f = 32 * q + r) (hr : r < 32) (hfb : -65536 ≤ f ∧ f ≤ 65536) (hV : ∀ j, dig V j = winL N (q + (j : Nat)) r)
    (h : Rd w w.heap.size A n N) (hnc : n ≤ c) (hcb : c ≤ maxLen) (hn : n ≤ 10000000000) (hN : N ≠ 0) (hl : (bitsN N : Int) - f = left) (hl0 : 0 < left) (hL : lenL V = L) (hLl : L = (left + 31) / 32) :
    CallsIn Fence.wide 10 Try.prog 41 #[.slice A n c, .int .i64 f] w (Gives w V) := by
  have hcb' : c ≤ 9223372036854775807 := by simpa [maxLen] using hcb
  have EB := Lib.hid (fun W (hb : Below w.heap.size w W) => pBits_any W _ A n c N (h.below hb) hnc hcb (by omega))
  have EC := Lib.hid (fun W (hb : Below w.heap.size w W) => pcut_any W _ A n c N (h.below hb) hnc hcb')
  have hbb := bitsN_bound h.1
  have hlN : 0 < lenL N := by have := lenL_eq_zero (N := N); omega
  have hLb : L ≤ 10000003000 := by omega
  obtain ⟨bN, hbN⟩ : ∃ bN, bitsN N = bN := ⟨_, rfl⟩
  rw [hbN] at hl hbb EB
  obtain ⟨lN, hlN'⟩ : ∃ lN, lenL N = lN := ⟨_, rfl⟩
  rw [hlN'] at hlN EC
  obtain ⟨w1, hmk, hF1, hb1, hs1⟩ := made_any w L (by omega)
  have hLi : ((left : Int) + 32 - 1) / 32 = (L : Int) := by omega
  have hLi' : ((left : Int) + 31) / 32 = (L : Int) := by omega
  have HV := Lib.hid hV
  have HL := Lib.hid hL
  have HFF := Lib.hid hf
  have hfi : -9223372036854775808 ≤ f ∧ f ≤ 9223372036854775807 := by omega
  clear hbN hlN' hV hL hf hLl
  refine callsIn_of_wp_marks Try.func41 rfl trivial ?_ rfl
  simp only [Try.ntmps41, List.size_toArray, List.length_cons, List.length_nil, Nat.reduceAdd, Nat.reduceSub, Array.replicate_succ, Array.replicate_zero, List.push_toArray, List.append_toArray, List.nil_append, List.cons_append]
  gi_wp2
  apply wpIn_scope_wide
  gi_wp2_with (first
    | (refine ⟨trivial, ?_⟩; gi_at_call 17; refine (callsIn_wide.2 (EB.out _ (Below.refl _ _))).mono ?_; rintro e w' ⟨rfl, rfl⟩)
    | (refine ⟨trivial, ?_⟩; gi_at_call 30; refine (callsIn_wide.2 (EC.out _ (Below.refl _ _))).mono ?_; rintro e w' ⟨rfl, rfl⟩))
  refine wpIn_label ?_
  gi_wp2_with (refine ⟨trivial, ?_⟩; gi_at_call 51; refine (callsIn_wide.2 (callsIn_wide.1 (windows_in A n c f _))).mono ?_; rintro e w' ⟨rfl, rfl⟩)
  have bS := Boxed.new w1 23 (.slice (some ⟨w.heap.size, 0, none⟩) (L : Nat) (L : Nat))
  have bxN := Boxed.new (w1.alloc (.cells #[.slice (some ⟨w.heap.size, 0, none⟩) (L : Nat) (L : Nat)] 23)) 23 (.slice A n c)
  have bF := Boxed.new ((w1.alloc (.cells #[.slice (some ⟨w.heap.size, 0, none⟩) (L : Nat) (L : Nat)] 23)).alloc (.cells #[.slice A n c] 23)) 3 (.int .i64 f)
  rw [hs1] at bS
  rw [World.size_alloc, hs1] at bxN
  rw [World.size_alloc, World.size_alloc, hs1] at bF
  have hB0 := ((hb1.alloc (by omega) (.cells #[.slice (some ⟨w.heap.size, 0, none⟩) (L : Nat) (L : Nat)] 23)).alloc (by rw [World.size_alloc]; omega) (.cells #[.slice A n c] 23)).alloc (by rw [World.size_alloc, World.size_alloc]; omega) (.cells #[.int .i64 f] 3)
  have hZ : Mid w1 w.heap.size (some ⟨w.heap.size, 0, none⟩) L 0 V 0 := hF1.mid (fun _ => rfl)
  have hZ0 := ((hZ.kept (World.grownBy_alloc w1 (.cells #[.slice (some ⟨w.heap.size, 0, none⟩) (L : Nat) (L : Nat)] 23) none) (fun r e => by cases e)).kept (World.grownBy_alloc _ (.cells #[.slice A n c] 23) none) (fun r e => by cases e)).kept (World.grownBy_alloc _ (.cells #[.int .i64 f] 3) none) (fun r e => by cases e)
  have hsz : (((w1.alloc (.cells #[.slice (some ⟨w.heap.size, 0, none⟩) (L : Nat) (L : Nat)] 23)).alloc (.cells #[.slice A n c] 23)).alloc (.cells #[.int .i64 f] 3)).heap.size = w.heap.size + 4 := by rw [World.size_alloc, World.size_alloc, World.size_alloc]; omega
  replace bS := (bS.alloc (.cells #[.slice A n c] 23)).alloc (.cells #[.int .i64 f] 3)
  replace bxN := bxN.alloc (.cells #[.int .i64 f] 3)
  obtain ⟨W0, hW0⟩ : ∃ W0, ((w1.alloc (.cells #[.slice (some ⟨w.heap.size, 0, none⟩) (L : Nat) (L : Nat)] 23)).alloc (.cells #[.slice A n c] 23)).alloc (.cells #[.int .i64 f] 3) = W0 := ⟨_, rfl⟩
  rw [hW0] at bS bxN bF hB0 hZ0 hsz ⊢
  clear hW0 hmk hF1 hb1 hs1 hZ
  have hB4 : W0.heap.size = w.heap.size + 4 := hsz
  refine wpIn_rangeFunc_told rfl (by omega) (gf := 61) (lb := #[.pointer (some ⟨w.heap.size + 1 + 1 + 1, 0, none⟩), .pointer (some ⟨w.heap.size + 1 + 1, 0, none⟩)]) rfl trivial (enters_of Try.func61 (by kernel_rfl) rfl)
    (fun _ => rfl) (ReadI w A n c N L V f) (ReadX w L V) (by rw [hB4]; exact readI_own) (by rw [hB4]; exact readX_own)
    ⟨⟨bxN.cell, h.below hB0⟩, bF.cell, Nat.zero_le _, bS, hZ0, hB0⟩
    (windows1_tells (w.heap.size + 1 + 1) w.heap.size A n c N L q f r HFF.out hr (by have := HFF.out; omega) (by omega) _ (fun _ _ h => ⟨h.1, h.2.1, h.2.2.1⟩) Fence.wide rfl)
    (fun x => { tmps := #[.slice A n c, .int .i64 f, undef, undef, .slice none 0 0, .int .i64 (left : Nat), .pointer (some ⟨w.heap.size + 1, 0, none⟩), .int .i64 (x.1 : Nat), .int .u32 (x.2 : Nat), .slice A n c, .int .i64 (bN : Nat), .int .i64 f, .int .i64 (left : Nat), .int .i64 (left : Nat),
          .bool false, .bool false, .slice A n c, .slice (cutA N A) lN lN, .int .i64 (lN : Nat), .bool false, .bool false, .int .i64 (left : Nat), .int .i64 ((left : Int) + 32), .int .i64 ((left : Int) + 32 - 1), .int .i64 (L : Nat), .slice (some ⟨w.heap.size, 0, none⟩) L L, .slice A n c, .int .i64 f,
          .func (.func 61) #[] #[.pointer (some ⟨w.heap.size + 1 + 1 + 1, 0, none⟩), .pointer (some ⟨w.heap.size + 1 + 1, 0, none⟩)], .int .i64 (x.1 : Nat), .int .u32 (x.2 : Nat), undef, undef, undef, undef, undef, undef, undef, undef, undef], defers := [] }) ?assign ?body ?done ?stop
  case assign =>
    intro l x W K hK
    gi_wp2
    exact hK
  case body =>
    rintro l s x W ⟨⟨hcN, hRN⟩, hcf, hsL, bS1, hM, hBl⟩ ⟨rfl, _⟩
    have hcS := bS1.cell
    rcases Nat.lt_or_ge s L with hlt | hge
    · rw [← HV.out s]
      dsimp only
      obtain ⟨_, hc, hfz⟩ := hM s hlt
      have hne : ¬ ((s : Int) = (L : Int)) := by omega
      have hne2 : ((s : Int) == (L : Int)) = false := by simpa using hne
      have HM := Lib.hid hM
      have hd := dig_lt V s
      clear hM
      gi_wp2
      refine ⟨(KeepsOthers.setCell _ _ _).from _, ⟨?_, hRN.keep (fun p hp => World.cell?_setCell_other _ _ _ _ (fun e => by subst e; simp at hp))⟩, ?_, hlt, bS1.kept (grownBy_putCell W ⟨w.heap.size, s, none⟩ _) (some_ne (by show w.heap.size + 1 ≠ w.heap.size; omega)), HM.out.write hlt, hBl.setCell (p := ⟨w.heap.size, s, none⟩) (Nat.le_refl _) _⟩
      · rw [World.cell?_setCell_other W ⟨w.heap.size, s, none⟩ ⟨w.heap.size + 1 + 1, 0, none⟩ _ (by first | (simp; done) | (simp; omega))]; exact hcN
      · rw [World.cell?_setCell_other W ⟨w.heap.size, s, none⟩ ⟨w.heap.size + 1 + 1 + 1, 0, none⟩ _ (by first | (simp; done) | (simp; omega))]; exact hcf
    · obtain rfl : s = L := by omega
      have HM := Lib.hid hM
      clear hM
      gi_wp2
      exact ⟨KeepsFrom.refl _ _, rfl, bS1, HM.out, hBl⟩
  case done =>
    rintro D s W _ h _ _
    exact h.elim
  case stop =>
    rintro D c s W hD _ ⟨rfl, bS1, hM, hBl⟩ hK
    have hcS := bS1.cell
    have HF := Lib.hid ((hM.done (lo := w.heap.size) (fun j h1 h2 => by omega) (by rw [← HL.out]; exact lt_pow_lenL V) (Nat.le_refl _)).more (hi' := W.heap.size) (by have := bS1.lt; omega))
    clear hM
    gi_wp2
    rw [Exit.noGoto_ret]
    refine ⟨by simp, .inl ⟨_, _, rfl, run_takeDeferred hK, ?_⟩⟩
    have hs2 : (W.putObj D (.deferred none)).heap.size = W.heap.size := by simp [World.putObj]
    have hg' : Gives w V (.returned (.slice (some ⟨w.heap.size, 0, none⟩) L L)) (W.putObj D (.deferred none)) := by
      refine ⟨_, L, by rw [HL.out], by rw [HL.out]; exact Nat.le_refl _, by simp only [maxLen]; omega, ?_, hBl.trans (belowK_b (w := w) (Nat.le_refl _) W D _ _ (by omega) hK rfl rfl)⟩
      rw [HL.out, hs2]
      exact HF.out.kept (grownBy_putObj' _ D (.deferred none)) (fun r e => by cases e; exact ⟨_, hK, rfl⟩)
    refine ⟨_, results_tmp rfl _ _ _, ?_⟩
    exact hg'
end Go.Proofs.Ytjakmpphfjhbaaa
