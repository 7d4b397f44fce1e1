/- A region that draws its order, inside a round of a range over a function: where no operation is a defer statement it runs as outside a round. Nothing of the program. -/
import Derived.Shelf.Abstract
import Derived.Shelf.RegionOpen
import Derived.OwnWalkIn
import Derived.TacticsInMore
import Derived.Stop.RegionWithIn
import Derived.Test.YtjakmpphfjhbaaaRange
namespace Go.Proofs.Ytjakmpphfjhbaaa
open Go Go.RowKit
variable {F : Fence} {n : Nat} {P : Program} {ops : Array Oper} {Q : Exit → Act → World → Prop} {md : Region.Mode}

def noDefer (o : Oper) : Bool := match o.op with
  | .defer _ => false
  | _ => true
theorem noDefer_spec {o : Oper} (h : noDefer o = true) : ∀ c, o.op ≠ .defer c := fun c e => by unfold noDefer at h; rw [e] at h; cases h

theorem wpOpIn_round {l i : Nat} {K : Act → World → Prop} {a : Act} {w : World} (hnd : ∀ (j : Nat) o, ops[j]? = some o → noDefer o = true)
    (h : wpOpIn F n P ops Q i K a w) : wpOpIn (F.inRound l) n P ops Q i K a w := by
  unfold wpOpIn at *
  split
  · next ho => simp only [ho] at h; exact h
  · next o ho =>
    simp only [ho] at h
    split
    · next hw =>
      simp only [hw, if_true] at h
      have e1 := Oper.semAt_plain F a.eval o (noDefer_spec (hnd i o ho))
      have e2 := Oper.semAt_plain (F.inRound l) a.eval o (noDefer_spec (hnd i o ho))
      unfold Oper.wpIn at *
      rw [e1] at h
      rw [e2]
      exact h
    · next hw => simp only [hw] at h; exact h
theorem wpAnyIn_round {l : Nat} (hnd : ∀ (j : Nat) o, ops[j]? = some o → noDefer o = true) :
    ∀ (fuel : Nat) (listed : Array Bool) (a : Act) (w : World), wpAnyIn F n P md ops Q fuel listed a w → wpAnyIn (F.inRound l) n P md ops Q fuel listed a w := by
  intro fuel
  induction fuel with
  | zero => intro listed a w h; exact h
  | succ fuel ih =>
    intro listed a w h
    exact ⟨h.1, fun i hi => wpOpIn_mono (fun a w => ih _ a w) (wpOpIn_round hnd (h.2 i hi))⟩
theorem noDefer_all (h : ops.all noDefer = true) : ∀ (j : Nat) o, ops[j]? = some o → noDefer o = true := fun j o ho => by
  obtain ⟨hj, rfl⟩ := Array.getElem?_eq_some_iff.1 ho
  exact Array.all_eq_true.1 h j hj
/-- In the place of 'gi_region_with': the goal is then one of no round. -/
theorem wpIn_region_round {id l : Nat} {a : Act} {w : World} (hm : P.follows .mixedOrders = true) (hnd : ops.all noDefer = true)
    (h : wpAnyIn F n P .any ops Q ops.size (Array.replicate ops.size false) a w.drew) : (Code.region id ops true).wpIn (F.inRound l) n P Q a w :=
  wpIn_region_any hm (wpAnyIn_round (noDefer_all hnd) _ _ _ _ h)
end Go.Proofs.Ytjakmpphfjhbaaa
