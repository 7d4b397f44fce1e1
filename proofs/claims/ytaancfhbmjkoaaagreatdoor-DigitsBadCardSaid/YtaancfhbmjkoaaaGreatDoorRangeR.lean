/- A range over a function, the assignment and the round's body walked in one: wpIn_rangeFunc_boxed (RangeA). Nothing of the program. -/
import Derived.Test.YtaancfhbmjkoaaaGreatDoorGFactG
namespace Go.Proofs.YtaancfhbmjkoaaaGreatDoor
open Go Go.RowKit
variable {F : Fence} {n : Nat} {P : Program}

theorem wpIn_rangeFunc_as {σ α : Type} {g : Operand} {ps : Array Tmp} {assign body : Code} {Q : Exit → Act → World → Prop} {a : Act} {w : World}
    (hro : F.round = none) (h1 : 1 ≤ n) {gf : Nat} {lb : Array Value} (hg : a.eval g = .func (.func gf) #[] lb) (hFg : F.fn gf) (eg : ∀ args w, (callFunc gf args).run P w = .ok (.enter gf args) w)
    {encs : α → Array Value} (hps : ∀ x, (encs x).size = ps.size) {ok : σ → α → Prop} {nx : σ → α → σ} {s0 : σ} {S Sp : σ → Prop}
    (I : σ → World → Prop) (Ix : Code → σ → World → Prop) (hI : OwnFrom w.heap.size I) (hIx : ∀ c, OwnFrom w.heap.size (Ix c)) (h0 : I s0 w)
    (hseq : Tells F (n - 1) P gf lb encs ok nx s0 S Sp I)
    (hround : ∀ (l : Nat) (s : σ) (x : α) (W : World), I s W → ok s x →
      assign.wpIn (F.inRound l) (n - 1 - 1) P (Exit.then (fun a1 W1 => W1 = W ∧ ∀ (l' : Nat) (V : World), I s V → body.wpIn (F.inRound l') (n - 1 - 1) P (leftAt w.heap.size I Ix (nx s x) V) a1 V) (fun _ _ _ => False))
        { tmps := (ps.zip (encs x)).foldl (fun t (p, v) => t.setIfInBounds p v) a.tmps, defers := [] } W)
    (hdone : ∀ (D : Nat) (s : σ) (W : World), w.heap.size ≤ D → S s → I s W → W.heap[D]? = some (.deferred (some [])) → Q .normal { a with defers := { target := .collected D, args := #[] } :: a.defers } W)
    (hstop : ∀ (D : Nat) (c : Code) (s : σ) (W : World), w.heap.size ≤ D → Sp s → Ix c s W → W.heap[D]? = some (.deferred (some [])) → c.wpIn F n P Q { a with defers := { target := .collected D, args := #[] } :: a.defers } W) :
    (Code.rangeFunc g ps assign body).wpIn F n P Q a w := by
  refine wpIn_rangeFunc_boxed hro h1 hg hFg eg hps I Ix hI hIx h0 hseq
    (fun s x a1 W => I s W ∧ ∀ (l' : Nat) (V : World), I s V → body.wpIn (F.inRound l') (n - 1 - 1) P (leftAt w.heap.size I Ix (nx s x) V) a1 V)
    (fun s x a1 => fun _ A B row h hg hr => ⟨hI s A B row h.1 hg hr, h.2⟩) ?_ (fun l s x a1 W h _ => h.2 l W h.1) hdone hstop
  intro l s x W hi hok
  refine wpIn_mono (hround l s x W hi hok) ?_
  rintro e a1 W1 hp
  cases e with
  | normal =>
    obtain ⟨rfl, h⟩ := hp
    exact ⟨⟨rfl, rfl, rfl, Nat.le_refl _, fun _ _ _ => rfl⟩, hi, h⟩
  | ret => exact hp.elim
  | exit id => exact hp.elim
  | goto t => exact hp.elim
  | panic ch => exact hp.elim
  | outgrown => exact hp.elim
end Go.Proofs.YtaancfhbmjkoaaaGreatDoor
