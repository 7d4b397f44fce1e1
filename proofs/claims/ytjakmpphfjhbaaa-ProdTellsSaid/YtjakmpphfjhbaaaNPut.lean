/- Contract of nat.put over nat.columns: a sum, or a difference, limb by limb, written over the first number while a range over a function still reads it. -/
import Derived.Shelf.Abstract
import Derived.Shelf.RegionOpen
import Derived.OwnWalkIn
import Derived.TacticsInMore
import Derived.LoopNIn
import Derived.LoopIn
import Derived.Sort.QuietIn
import Derived.Test.YtjakmpphfjhbaaaRange
import Derived.Test.YtjakmpphfjhbaaaNNat
import Derived.Test.YtjakmpphfjhbaaaNCols
namespace Go.Proofs.Ytjakmpphfjhbaaa
open Go Go.RowKit
attribute [local go_sem] Oper.semAt_some


theorem grownBy_putCell (W : World) (p : Addr) (v : Value) : W.grownBy (W.setCell p v) (some p.block) :=
  ⟨rfl, rfl, rfl, (KeepsWalks.setCell W _ v).size, fun k _ hk => Below.heap_setCell _ _ _ k (fun e => hk (by rw [e]))⟩

/-- Between two rounds of 'put': what the iterator reads; put's own box; nothing below the number's block has turned. -/
def PutI (w : World) (q b g : Nat) (A A' : Option Addr) (n n' c c' f V T O : Nat) (k : Nat) (W : World) : Prop :=
  Cols b g A A' n n' c c' f V T O k W ∧ Boxed W q 23 (.slice A n c) ∧ Below g w W
theorem Mid.kept {W W' : World} {g n k T O : Nat} {A : Option Addr} {row : Option Nat} (h : Mid W g A n k T O) (hg : W.grownBy W' row) (hrow : ∀ r, row = some r → ∃ o : Obj, W.heap[r]? = some o ∧ o.isCells = false) : Mid W' g A n k T O :=
  fun j hj => ⟨(h j hj).1, cell_kept (h j hj).2.1 hg hrow, (frozen_kept (h j hj).2.1 hg hrow).trans (h j hj).2.2⟩
theorem Cols.kept {W W' : World} {b g : Nat} {A A' : Option Addr} {n n' c c' f V T O k : Nat} {row : Option Nat} (h : Cols b g A A' n n' c c' f V T O k W) (hg : W.grownBy W' row) (hrow : ∀ r, row = some r → ∃ o : Obj, W.heap[r]? = some o ∧ o.isCells = false) : Cols b g A A' n n' c c' f V T O k W' :=
  ⟨⟨cell_kept h.1.1 hg hrow, cell_kept h.1.2.1 hg hrow, cell_kept h.1.2.2 hg hrow⟩, h.2.1.kept hg hrow, h.2.2.kept hg hrow⟩
theorem Mid.write {W : World} {g n k T O : Nat} {A : Option Addr} (h : Mid W g A n k T O) (hk : k < n) : Mid (W.setCell ⟨g, k, none⟩ (.int .u32 (dig T k : Nat))) g A n (k + 1) T O := by
  intro j hj
  obtain ⟨h1, h2, h3⟩ := h j hj
  refine ⟨h1, ?_, by rw [World.frozen?_setCell]; exact h3⟩
  by_cases e : j = k
  · subst e
    rw [if_pos (by omega)]
    exact World.cell?_setCell_same' _ _ _ (by rw [h2]; rfl)
  · rw [World.cell?_setCell_other W ⟨g, k, none⟩ ⟨g, j, none⟩ _ (by first | (simp; done) | (simp; omega)), h2]
    by_cases e' : j < k
    · rw [if_pos e', if_pos (by omega)]
    · rw [if_neg e', if_neg (by omega)]
theorem Mid.done {W : World} {lo g n k T O : Nat} {A : Option Addr} (h : Mid W g A n k T O) (hS : ∀ j, k ≤ j → j < n → dig O j = dig T j) (hT : T < Bw ^ n) (hlo : lo ≤ g) : Fr W lo (g + 1) A n T :=
  ⟨hT, fun hn => ⟨g, (h 0 hn).1, hlo, by omega, fun j hj => by
    obtain ⟨_, h2, h3⟩ := h j hj
    refine ⟨?_, h3⟩
    rw [h2]
    by_cases e : j < k
    · rw [if_pos e]
    · rw [if_neg e, hS j (by omega) hj]⟩⟩
theorem putI_own {w : World} {q b g : Nat} {A A' : Option Addr} {n n' c c' f V T O B : Nat} (hB : g ≤ B) (hw : g ≤ w.heap.size) : OwnFrom B (PutI w q b g A A' n n' c c' f V T O) := by
  rintro s W W' row ⟨⟨⟨h1, h2, h3⟩, h4, h5⟩, h6, h7⟩ hg hr
  have hr' := fun r e => (hr r e).2
  exact ⟨⟨⟨cell_kept h1 hg hr', cell_kept h2 hg hr', cell_kept h3 hg hr'⟩, h4.kept hg hr', h5.kept hg hr'⟩, boxed_kept h6 hg hr', h7.grown hg (Nat.le_trans hw h7.size) (fun r e => by have := (hr r e).1; omega)⟩

set_option maxRecDepth 100000 in
set_option maxHeartbeats 2000000 in
theorem put_in (b g : Nat) (A A' : Option Addr) (n n' c c' f D V T O : Nat) (w : World) (hn : n ≤ 9223372036854775806) (hf : Step f D V O T)
    (hgb : 0 < n → g < b) (hgl : g ≤ b) (hb : b + 2 < w.heap.size) (hC : Cols b g A A' n n' c c' f V T O 0 w) (hT : T < Bw ^ n) (lo : Nat) (hlo : lo ≤ g) :
    CallsIn Fence.wide 10 Try.prog 56 #[.slice A n c, .func (.func 63) #[] #[.pointer (some ⟨b, 0, none⟩), .pointer (some ⟨b + 1, 0, none⟩), .pointer (some ⟨b + 1 + 1, 0, none⟩)]] w fun e w' =>
      (∃ v, e = .returned v) ∧ Fr w' lo (g + 1) A n T ∧ Below g w w' := by
  refine callsIn_of_wp_marks Try.func56 rfl trivial ?_ rfl
  simp only [Try.ntmps56, List.size_toArray, List.length_cons, List.length_nil, Nat.reduceAdd, Nat.reduceSub, Array.replicate_succ, Array.replicate_zero, List.push_toArray, List.append_toArray, List.nil_append, List.cons_append]
  gi_wp2
  have bx := Boxed.new w 23 (.slice A n c)
  have hCw : Cols b g A A' n n' c c' f V T O 0 (w.alloc (.cells #[.slice A n c] 23)) := hC.kept (World.grownBy_alloc w _ none) (fun r e => by cases e)
  have hB0 : Below g w (w.alloc (.cells #[.slice A n c] 23)) := (Below.refl _ _).alloc (by omega) _
  have hsz : (w.alloc (.cells #[.slice A n c] 23)).heap.size = w.heap.size + 1 := by simp
  obtain ⟨W0, hW0⟩ : ∃ W0, w.alloc (.cells #[.slice A n c] 23) = W0 := ⟨_, rfl⟩
  rw [hW0] at bx hCw hB0 hsz ⊢
  clear hW0 hC
  refine wpIn_rangeFunc_told rfl (by omega) (gf := 63) (lb := #[.pointer (some ⟨b, 0, none⟩), .pointer (some ⟨b + 1, 0, none⟩), .pointer (some ⟨b + 1 + 1, 0, none⟩)]) rfl trivial (enters_of Try.func63 (by kernel_rfl) rfl)
    (fun _ => rfl) (PutI w w.heap.size b g A A' n n' c c' f V T O) (fun _ _ _ => False) (putI_own (by omega) (by omega)) (fun _ _ _ _ _ h _ _ => h)
    ⟨hCw, bx, hB0⟩
    (columns1_tells b g A A' n n' c c' f D V T O hn hf _ (fun _ _ h => h.1) Fence.wide rfl)
    (fun x => { tmps := #[.slice A n c, .func (.func 63) #[] #[.pointer (some ⟨b, 0, none⟩), .pointer (some ⟨b + 1, 0, none⟩), .pointer (some ⟨b + 1 + 1, 0, none⟩)], .pointer (some ⟨w.heap.size, 0, none⟩), undef, .int .i64 (x.1 : Nat), .int .u32 (x.2 : Nat), .func (.func 63) #[] #[.pointer (some ⟨b, 0, none⟩), .pointer (some ⟨b + 1, 0, none⟩), .pointer (some ⟨b + 1 + 1, 0, none⟩)], .int .i64 (x.1 : Nat), .int .u32 (x.2 : Nat), undef, undef, undef, undef], defers := [] }) ?assign ?body ?done ?stop
  case assign =>
    intro l x W K hK
    gi_wp2
    exact hK
  case body =>
    rintro l s x W ⟨⟨hcs, hM, hR⟩, hbx, hBl⟩ ⟨hs, rfl⟩
    obtain ⟨rfl, hc, hf'⟩ := hM s hs
    have hgb := hgb (by omega)
    have hcb := hbx.cell
    have HM := Lib.hid hM
    have HC := Lib.hid hcs
    clear hM hcs hcb
    have hcb := hbx.cell
    gi_wp2
    refine ⟨(KeepsOthers.setCell _ _ _).from _, ⟨⟨?_, ?_, ?_⟩, HM.out.write hs, hR.keep (fun p hp => World.cell?_setCell_other _ _ _ _ (fun e => by subst e; simp at hp))⟩, hbx.kept (grownBy_putCell W ⟨g, s, none⟩ _) (by simp; omega), hBl.setCell (p := ⟨g, s, none⟩) (Nat.le_refl _) _⟩
    · rw [World.cell?_setCell_other W ⟨g, s, none⟩ ⟨b, 0, none⟩ _ (by first | (simp; done) | (simp; omega))]; exact HC.out.1
    · rw [World.cell?_setCell_other W ⟨g, s, none⟩ ⟨b + 1, 0, none⟩ _ (by first | (simp; done) | (simp; omega))]; exact HC.out.2.1
    · rw [World.cell?_setCell_other W ⟨g, s, none⟩ ⟨b + 1 + 1, 0, none⟩ _ (by first | (simp; done) | (simp; omega))]; exact HC.out.2.2
  case done =>
    rintro D s W hD hS ⟨⟨hcs, hM, hR⟩, hbx, hBl⟩ hK
    have HF := Lib.hid (hM.done hS hT hlo)
    clear hS hM hcs
    gi_wp2
    refine ⟨by simp, .inl ⟨_, _, rfl, run_takeDeferred hK, ?_⟩⟩
    exact ⟨_, results_none rfl _ _ _, ⟨_, rfl⟩, HF.out.kept (grownBy_putObj' _ D (.deferred none)) (fun r e => by cases e; exact ⟨_, hK, rfl⟩), hBl.trans (belowK_b (w := w) (by omega) W D _ _ (by omega) hK rfl rfl)⟩
  case stop =>
    rintro D c s W _ _ h _
    exact h.elim

theorem Fr.mid {W : World} {lo hi g n T O : Nat} {A : Option Addr} (h : Fr W lo hi A n O) (hA : 0 < n → A = some ⟨g, 0, none⟩) : Mid W g A n 0 T O := fun j hj => by
  have e := hA (by omega)
  obtain ⟨g', e', _, _, hc⟩ := h.2 (by omega)
  rw [e] at e'
  cases e'
  exact ⟨e, by rw [if_neg (by omega)]; exact (hc j hj).1, (hc j hj).2⟩
end Go.Proofs.Ytjakmpphfjhbaaa
