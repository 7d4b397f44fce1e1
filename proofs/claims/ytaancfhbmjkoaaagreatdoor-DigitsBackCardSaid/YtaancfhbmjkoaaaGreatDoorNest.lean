/- A range over a function that hands on from loop to loop: rounds that never leave the loop, and leave all but one builder's blocks as they lay. Nothing of the program. -/
import Derived.Test.YtaancfhbmjkoaaaGreatDoorGGen
namespace Go.Proofs.YtaancfhbmjkoaaaGreatDoor
open Go Go.RowKit
variable {F : Fence} {n : Nat} {P : Program}

/-- The block in which the builder at block b keeps its bytes. -/
def rowOf (b : Nat) (W : World) : Option Nat := match W.cell? ⟨b, 1, none⟩ with | some v => v.ownBlock | none => none
/-- Block k is not the builder's. -/
def Out (b : Nat) (W : World) (k : Nat) : Prop := k ≠ b ∧ rowOf b W ≠ some k
/-- The builder lies there, its bytes in cells. -/
def Bok (b : Nat) (W : World) : Prop := b < W.heap.size ∧ (∀ o : Obj, W.heap[b]? = some o → o.isCells = true) ∧ ∀ g, rowOf b W = some g → ∃ o : Obj, W.heap[g]? = some o ∧ o.isCells = true
/-- What was not the builder's stands, and is not the builder's. -/
structure Rnd (b : Nat) (W W' : World) : Prop where
  size : W.heap.size ≤ W'.heap.size
  keep : ∀ k, k < W.heap.size → Out b W k → W'.heap[k]? = W.heap[k]? ∧ Out b W' k

theorem Rnd.refl (b : Nat) (W : World) : Rnd b W W := ⟨Nat.le_refl _, fun _ _ h => ⟨rfl, h⟩⟩
theorem Rnd.trans {b : Nat} {A B C : World} (h : Rnd b A B) (h' : Rnd b B C) : Rnd b A C := ⟨Nat.le_trans h.size h'.size, fun k hk ho => by
  obtain ⟨h1, h2⟩ := h.keep k hk ho
  obtain ⟨h3, h4⟩ := h'.keep k (Nat.lt_of_lt_of_le hk h.size) h2
  exact ⟨h3.trans h1, h4⟩⟩
theorem rowOf_eq {b : Nat} {W W' : World} (h : W'.heap[b]? = W.heap[b]?) : rowOf b W' = rowOf b W := by
  unfold rowOf
  rw [World.cell?_of_block (a := ⟨b, 1, none⟩) h]
theorem Bok.row_lt {b : Nat} {W : World} (h : Bok b W) : ∀ g, rowOf b W = some g → g < W.heap.size := fun g hg => by
  obtain ⟨o, ho, _⟩ := h.2.2 g hg
  exact (Array.getElem?_eq_some_iff.1 ho).1
/-- What is laid anew is not the builder's. -/
theorem Bok.new {b : Nat} {W : World} (h : Bok b W) {k : Nat} (hk : W.heap.size ≤ k) : Out b W k := ⟨by have := h.1; omega, fun e => by have := h.row_lt k e; omega⟩
theorem Bok.out_of {b : Nat} {W : World} (h : Bok b W) {k : Nat} {o : Obj} (hk : W.heap[k]? = some o) (ho : o.isCells = false) : Out b W k :=
  ⟨fun e => (by subst e; have := h.2.1 o hk; rw [ho] at this; cases this), fun e => (by obtain ⟨o', h1, h2⟩ := h.2.2 k e; rw [hk] at h1; cases h1; rw [ho] at h2; cases h2)⟩
/-- A turn of what is no cells: the builder is as it was. -/
theorem Bok.turn {b : Nat} {W W' : World} {row : Option Nat} (h : Bok b W) (hg : W.grownBy W' row) (hr : ∀ r, row = some r → ∃ o : Obj, W.heap[r]? = some o ∧ o.isCells = false) : Bok b W' ∧ rowOf b W' = rowOf b W := by
  have keepc : ∀ (k : Nat) (o : Obj), W.heap[k]? = some o → o.isCells = true → W'.heap[k]? = some o := fun k o hk ho => by
    refine (hg.block k (Array.getElem?_eq_some_iff.1 hk).1 fun e => ?_).trans hk
    obtain ⟨o', h1, h2⟩ := hr k e.symm
    rw [hk] at h1; cases h1; rw [ho] at h2; cases h2
  obtain ⟨ob, hob⟩ : ∃ ob, W.heap[b]? = some ob := ⟨W.heap[b]'h.1, by simp [h.1]⟩
  have hb := keepc b ob hob (h.2.1 ob hob)
  have he := rowOf_eq (b := b) (W := W) (W' := W') (hb.trans hob.symm)
  refine ⟨⟨Nat.lt_of_lt_of_le h.1 hg.size, fun o ho => ?_, fun g e => ?_⟩, he⟩
  · rw [hb] at ho; cases ho; exact h.2.1 _ hob
  · rw [he] at e
    obtain ⟨o, h1, h2⟩ := h.2.2 g e
    exact ⟨o, keepc g o h1 h2, h2⟩
theorem Bok.grown {b : Nat} {W W' : World} (h : Bok b W) (hg : W.grownBy W' none) : Rnd b W W' :=
  ⟨hg.size, fun k hk ho => ⟨hg.block k hk (by simp), ho.1, by rw [(h.turn hg (fun r e => by cases e)).2]; exact ho.2⟩⟩
/-- A turn of what is no cells and lies beyond: what stood stands. -/
theorem Rnd.turn {b : Nat} {w W W' : World} {row : Option Nat} (h : Rnd b w W) (hk : Bok b W) (hg : W.grownBy W' row) (hr : ∀ r, row = some r → w.heap.size ≤ r ∧ ∃ o : Obj, W.heap[r]? = some o ∧ o.isCells = false) : Rnd b w W' :=
  ⟨Nat.le_trans h.size hg.size, fun k hk' ho => by
    obtain ⟨h1, h2⟩ := h.keep k hk' ho
    refine ⟨(hg.block k (Nat.lt_of_lt_of_le hk' h.size) fun e => ?_).trans h1, h2.1, by rw [(hk.turn hg (fun r e => (hr r e).2)).2]; exact h2.2⟩
    have := (hr k e.symm).1
    omega⟩
/-- A round: the loop's record is busy meanwhile. -/
theorem Rnd.around {b l : Nat} {W W3 : World} {o o1 : Obj} (hW : Bok b W) (hl : W.heap[l]? = some o) (ho : o.isCells = false) (h : Rnd b (W.putObj l o1) W3) (hl3 : l < W3.heap.size) (h3 : Bok b W3) (hc3 : ∀ o', W3.heap[l]? = some o' → o'.isCells = false) : Rnd b W (W3.putObj l o) := by
  have hs : (W.putObj l o1).heap.size = W.heap.size := by simp [World.putObj]
  have hs3 : (W3.putObj l o).heap.size = W3.heap.size := by simp [World.putObj]
  have hlo := hW.out_of hl ho
  have hr1 : rowOf b (W.putObj l o1) = rowOf b W := rowOf_eq (World.putObj_heap_other (fun e => hlo.1 (by omega)))
  have hr3 : rowOf b (W3.putObj l o) = rowOf b W3 := rowOf_eq (World.putObj_heap_other (fun e => hlo.1 (by omega)))
  refine ⟨by rw [hs3, ← hs]; exact h.size, fun k hk hk' => ?_⟩
  by_cases hkl : k = l
  · subst hkl
    refine ⟨(World.putObj_heap_same hl3).trans hl.symm, hk'.1, ?_⟩
    rw [hr3]
    obtain ⟨o', ho'⟩ : ∃ o', W3.heap[k]? = some o' := ⟨W3.heap[k]'hl3, by simp [hl3]⟩
    exact (h3.out_of ho' (hc3 o' ho')).2
  · obtain ⟨h1, h2⟩ := h.keep k (by rw [hs]; exact hk) ⟨hk'.1, by rw [hr1]; exact hk'.2⟩
    refine ⟨(World.putObj_heap_other (fun e => hkl (by omega))).trans (h1.trans (World.putObj_heap_other (fun e => hkl (by omega)))), h2.1, by rw [hr3]; exact h2.2⟩

theorem room_wide_any {F : Fence} (hd : F.depth = none) (k : Nat) : F.room k := fun d h => by rw [hd] at h; cases h
theorem yield_any {F : Fence} (hd : F.depth = none) {m m' : Nat} {l : Nat} {args : Array Value} {W : World} {R : Ending → World → Prop} (h : YieldAt F m P l args W R) : YieldAt F m' P l args W R := by
  obtain ⟨fn, tmps, assign, body, hy, hR⟩ := h
  exact ⟨fn, tmps, assign, body, hy, hR.1, fun c cs _ => hR.2 c cs (room_wide_any hd _)⟩

theorem round_on {l2 m m' l : Nat} {f : FuncId} {tmps : Array Value} {assign body : Code} {W : World} {R : Ending → World → Prop} (h : RoundIn Fence.wide m P l f tmps assign body W R) : RoundIn (Fence.wide.inRound l2) m' P l f tmps assign body W R :=
  ⟨h.1, fun c cs _ => h.2 c cs (room_wide_any rfl _)⟩

/-- All of xs are handed on, one a round; no round leaves the loop. -/
def TellsOn (b : Nat) (P : Program) (g : Nat) (lb : Array Value) (xs : List Nat) (w0 : World) : Prop :=
  ∀ (l N : Nat) (J : List Nat → World → Prop) (pre : List Nat) (W : World), pre.length + xs.length ≤ N → Rnd b w0 W →
    OwnFrom W.heap.size J → (∀ s A, J s A → Bok b A) →
    (∀ s x A, J s A → x < 1000000000 → s.length < N → YieldAt Fence.wide 9 P l #[.int .u32 (x : Nat)] A fun e B => e = .returned (.bool true) ∧ J (s ++ [x]) B ∧ Rnd b A B) →
    J pre W → CallsIn Fence.wide 9 P g (#[.func (.yield l) #[] #[]] ++ lb) W fun e W' => (∃ v, e = .returned v) ∧ J (pre ++ xs) W' ∧ Rnd b W W'

theorem wpIn_rangeFunc_on {b : Nat} (N : Nat) {xs pre : List Nat} {g : Operand} {ps : Array Tmp} {assign body : Code} {Q : Exit → Act → World → Prop} {a : Act} {w w0 : World}
    (hro : F.round = none) (hF : F = Fence.wide) {gf : Nat} {lb : Array Value} (hg : a.eval g = .func (.func gf) #[] lb) (eg : ∀ args w, (callFunc gf args).run P w = .ok (.enter gf args) w)
    (hps : ps.size = 1) (hN : pre.length + xs.length ≤ N) (I : List Nat → World → Prop) (hI : OwnFrom w.heap.size I) (hIb : ∀ s A, I s A → Bok b A) (h0 : I pre w) (hw0 : Rnd b w0 w)
    (hseq : TellsOn b P gf lb xs w0)
    (hround : ∀ (l : Nat) (s : List Nat) (x : Nat) (W : World), w.heap.size ≤ l → I s W → x < 1000000000 → s.length < N →
      assign.wpIn (F.inRound l) (n - 1 - 1) P (Exit.then (fun a1 W1 => W1 = W ∧ ∀ V, I s V → body.wpIn (F.inRound l) (n - 1 - 1) P (Exit.then (fun _ V' => I (s ++ [x]) V' ∧ Rnd b V V') (fun _ _ _ => False)) a1 V) (fun _ _ _ => False))
        { tmps := (ps.zip #[.int .u32 (x : Nat)]).foldl (fun t (p, v) => t.setIfInBounds p v) a.tmps, defers := [] } W)
    (hdone : ∀ (D : Nat) (W : World), w.heap.size ≤ D → I (pre ++ xs) W → Rnd b w W → W.heap[D]? = some (.deferred (some [])) → Q .normal { a with defers := { target := .collected D, args := #[] } :: a.defers } W) :
    (Code.rangeFunc g ps assign body).wpIn F n P Q a w := by
  subst hF
  have hd : Fence.wide.depth = none := rfl
  refine wpIn_rangeFunc ?_
  intro fn hfn
  rw [hro]
  obtain ⟨rec, hrec⟩ : ∃ rec : LoopState → Option Code → Loop, rec = fun st pe => { state := st, pending := pe, fn, tmps := a.tmps, params := ps, assign, body, defers := w.heap.size } := ⟨_, rfl⟩
  obtain ⟨W1, hW1⟩ : ∃ W1, (w.alloc (.deferred (some []))).alloc (.loop (rec .ready none)) = W1 := ⟨_, rfl⟩
  have hL1 : W1.heap[w.heap.size + 1]? = some (.loop (rec .ready none)) := by
    rw [← hW1]; have := World.alloc_heap_new (w.alloc (.deferred (some []))) (.loop (rec .ready none)); rwa [World.size_alloc] at this
  have hK1 : W1.heap[w.heap.size]? = some (.deferred (some [])) := by
    rw [← hW1]; exact (Below.heap_alloc _ _ _ (by simp)).trans (World.alloc_heap_new w _)
  have hI1 : I pre W1 := by rw [← hW1]; exact hI.alloc _ (hI.alloc _ h0)
  have hR1 : Rnd b w W1 := by rw [← hW1]; exact ((hIb _ _ h0).grown (World.grownBy_alloc _ _ none)).trans ((hIb _ _ (hI.alloc _ h0)).grown (World.grownBy_alloc _ _ none))
  have hs1 : W1.heap.size = w.heap.size + 2 := by rw [← hW1, World.size_alloc, World.size_alloc]
  have hbw := (hIb _ _ h0).1
  refine ⟨w.heap.size + 1, [{ target := .collected w.heap.size, args := #[] }], W1, { target := .fn (.func gf) lb, args := #[.func (.yield (w.heap.size + 1)) #[] #[]] }, W1, gf,
    #[.func (.yield (w.heap.size + 1)) #[] #[]] ++ lb, W1, ?_, ?_, ?_, ?_, (fun h => by cases h), ?_⟩
  · rw [← hW1, hrec]; exact run_enterLoop_outer _ _ _ _ _
  · simp only [resolve, hg]
    simp [go_sem]
  · intro f' hf'; exact trivial
  · simp [invoke, go_sem, eg]
  · have hcall := hseq (w.heap.size + 1) N
      (fun s W => I s W ∧ W.heap[w.heap.size + 1]? = some (.loop (rec .ready none)) ∧ W.heap[w.heap.size]? = some (.deferred (some [])))
      pre W1 hN (hw0.trans hR1)
      (fun s A B row h hg' hr => ⟨hI s A B row h.1 hg' (fun r e => ⟨by have := (hr r e).1; omega, (hr r e).2⟩),
        (hg'.block _ (Array.getElem?_eq_some_iff.1 h.2.1).1 (fun e => by have := (hr _ e.symm).1; omega)).trans h.2.1,
        (hg'.block _ (Array.getElem?_eq_some_iff.1 h.2.2).1 (fun e => by have := (hr _ e.symm).1; omega)).trans h.2.2⟩)
      (fun s A h => hIb s A h.1) ?_ ⟨hI1, hL1, hK1⟩
    · refine (callsIn_wide.2 (callsIn_wide.1 hcall)).mono ?_
      rintro e W2 ⟨⟨v, rfl⟩, ⟨hi, hl, hk⟩, hr⟩
      refine ⟨none, _, by have := run_endLoop (P := P) hl (by rw [hrec]; simp); rw [hrec] at this; exact this, hdone _ _ (Nat.le_refl _) (hI.putObj _ hi (by omega) hl rfl) ((hR1.trans hr).turn (hIb _ _ hi) (grownBy_putObj' _ _ _) (fun r e => by cases e; exact ⟨by omega, _, hl, rfl⟩)) ((World.putObj_heap_other (by omega)).trans hk)⟩
    · rintro s x W ⟨hi, hl, hk⟩ hx hsN
      have hlt : w.heap.size + 1 < W.heap.size := (Array.getElem?_eq_some_iff.1 hl).1
      have hy := run_yield (P := P) (args := #[.int .u32 (x : Nat)]) hl (by rw [hrec]; exact hps.symm)
      rw [hrec] at hy
      have hB := hIb _ _ hi
      have hl2 : (W.putObj (w.heap.size + 1) (.loop { rec .ready none with state := .busy })).heap[w.heap.size + 1]? = some (.loop { rec .ready none with state := .busy }) := World.putObj_heap_same hlt
      have hk2 : (W.putObj (w.heap.size + 1) (.loop { rec .ready none with state := .busy })).heap[w.heap.size]? = some (.deferred (some [])) := (World.putObj_heap_other (by omega)).trans hk
      have hi2 : I s (W.putObj (w.heap.size + 1) (.loop { rec .ready none with state := .busy })) := hI.putObj _ hi (by omega) hl rfl
      have hs2 : (W.putObj (w.heap.size + 1) (.loop { rec .ready none with state := .busy })).heap.size = W.heap.size := by simp [World.putObj]
      have hb2 := hIb _ _ hi2
      refine yield_any (F := Fence.wide) (m := n - 1 - 1) rfl ⟨fn, _, assign, body, hy, roundIn_of_wpIn hfn (wpIn_mono (hround _ s x W (by omega) hi hx hsN) ?_)⟩
      rintro e1 a1 Wa hp1
      cases e1 with
      | ret => exact hp1.elim
      | exit id => exact hp1.elim
      | goto t => exact hp1.elim
      | panic ch => exact hp1.elim
      | outgrown => exact hp1.elim
      | normal =>
      obtain ⟨rfl, hbd⟩ := hp1
      refine ⟨_, run_beginRound hl (by rw [hrec]), wpIn_mono (hbd _ hi2) ?_⟩
      rintro e a3 W3 hp
      cases e with
      | normal =>
        obtain ⟨hi3, hr3⟩ := hp
        have hB3 := hIb _ _ hi3
        have hl3 := ((hr3.keep _ (by rw [hs2]; exact hlt) (hb2.out_of hl2 rfl)).1).trans hl2
        have hk3 := ((hr3.keep w.heap.size (by rw [hs2]; omega) (hb2.out_of hk2 rfl)).1).trans hk2
        have he : (Instr.endRound (w.heap.size + 1) none).run P W3 = .ok (.bool true) (W3.putObj (w.heap.size + 1) (.loop (rec .ready none))) := by
          have := run_endRound (P := P) none hl3
          rw [hrec] at this ⊢
          exact this
        have hlt3 := (Array.getElem?_eq_some_iff.1 hl3).1
        exact ⟨_, _, he, rfl, ⟨hI.putObj _ hi3 (by omega) hl3 rfl, World.putObj_heap_same hlt3, (World.putObj_heap_other (by omega)).trans hk3⟩,
          Rnd.around hB hl rfl hr3 hlt3 hB3 (fun o' ho' => by rw [hl3] at ho'; cases ho'; rfl)⟩
      | ret => exact hp.elim
      | exit id => exact hp.elim
      | goto t => exact hp.elim
      | panic ch => exact hp.elim
      | outgrown => exact hp.elim
end Go.Proofs.YtaancfhbmjkoaaaGreatDoor
