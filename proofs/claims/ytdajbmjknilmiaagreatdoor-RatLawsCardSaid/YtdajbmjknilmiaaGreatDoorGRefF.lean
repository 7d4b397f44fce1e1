/- Contract of the reference's Sign of layer 5. -/
import Derived.Deep.LoopGhost
import Derived.Test.YtdajbmjknilmiaaGreatDoorGRefE
import Derived.Test.YtdajbmjknilmiaaGreatDoorGSintB
import Derived.Test.YtdajbmjknilmiaaGreatDoorGRefA
import Derived.Test.YtdajbmjknilmiaaGreatDoorGRefB
import Derived.Test.YtdajbmjknilmiaaGreatDoorGSintD
namespace Go.Proofs.YtdajbmjknilmiaaGreatDoor
open Go Go.RowKit
variable {w W : World} {e : List Num} {x y : Num}

end Go.Proofs.YtdajbmjknilmiaaGreatDoor

/- Contract of the reference's two of layer 5: the sum of two. -/
namespace Go.Proofs.YtdajbmjknilmiaaGreatDoor
open Go Go.RowKit
variable {w W : World} {e : List Num} {x y : Num}

/-- The value is a literal of these two numbers. -/
def RepLit2 (x y : Num) (v : Value) (V : World) : Prop := ∃ g, v = .slice (some ⟨g, 0, none⟩) 2 2 ∧ V.heap[g]? = some (.cells #[.slice x.A x.n x.c, .slice y.A y.n y.c] 23 (0, 0))
theorem RepLit2.keep {x y : Num} {v : Value} {V V' : World} (h : RepLit2 x y v V) (hb : Below V.heap.size V V') : RepLit2 x y v V' := by
  obtain ⟨g, h1, h2⟩ := h
  exact ⟨g, h1, (hb.block g (Array.getElem?_eq_some_iff.1 h2).1).trans h2⟩
section
variable {ops : Array Oper} {Q : Exit → Act → World → Prop} {C : World → Prop} {a : Act} {V : World} {i : Nat} {t t1 t2 : Tmp} {o : Oper}
end

end Go.Proofs.YtdajbmjknilmiaaGreatDoor

/- Contract of the reference's Add of layer 5: the sum of a row of integers. -/
namespace Go.Proofs.YtdajbmjknilmiaaGreatDoor
open Go Go.RowKit
variable {w W : World} {e : List Num}

end Go.Proofs.YtdajbmjknilmiaaGreatDoor

/- Contract of the reference's Mul of layer 5: the product of a row of integers. -/
namespace Go.Proofs.YtdajbmjknilmiaaGreatDoor
open Go Go.RowKit
variable {w W : World} {e : List Num}

end Go.Proofs.YtdajbmjknilmiaaGreatDoor

/- Steps of a region that is told by facts: rows of integers of so many limbs, the reference's sums and products. -/
namespace Go.Proofs.YtdajbmjknilmiaaGreatDoor
open Go Go.RowKit

def RepRowK (K : Nat) (l : List Int) (v : Value) (V : World) : Prop := ∃ (A : Option Addr) (c : Nat) (ps : List (Bool × Num)), v = .slice A ps.length c ∧ ZRds V V.heap.size A ps ∧ ps.map zP = l ∧ (∀ p ∈ ps, p.2.n ≤ K) ∧ ps.length ≤ 50
theorem RepRowK.keep {K : Nat} {l : List Int} {v : Value} {V V' : World} (h : RepRowK K l v V) (hb : Below V.heap.size V V') : RepRowK K l v V' := by
  obtain ⟨A, c, ps, h1, h2, h3⟩ := h
  exact ⟨A, c, ps, h1, (h2.below hb).more hb.size, h3⟩
variable {ops : Array Oper} {Q : Exit → Act → World → Prop} {C : World → Prop} {a : Act} {V : World} {i K : Nat} {t : Tmp} {o : Oper}
end Go.Proofs.YtdajbmjknilmiaaGreatDoor
