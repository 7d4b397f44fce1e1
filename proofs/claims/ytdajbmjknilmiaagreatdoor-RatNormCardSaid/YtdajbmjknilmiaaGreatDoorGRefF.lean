/- Contract of the reference's Sign of layer 5. -/
import Derived.Deep.LoopGhost
import Derived.Test.YtdajbmjknilmiaaGreatDoorGRefE
import Derived.Test.YtdajbmjknilmiaaGreatDoorGSintB
import Derived.Test.YtdajbmjknilmiaaGreatDoorGRefA
import Derived.Test.YtdajbmjknilmiaaGreatDoorGRefB
import Derived.Test.YtdajbmjknilmiaaGreatDoorGSintD
namespace Go.Proofs.YtdajbmjknilmiaaGreatDoor
open Go Go.RowKit
variable {w W : World} {e : List Num} {x y : Num}

/-- A number is not what a box of a sign and a row holds. -/
theorem Env.setbox {g n c : Nat} {b : Bool} {A : Option Addr} {T : TypeId} (h : Env w e W) (B : Box2 W g T (.bool b) (.slice A n c)) (hg : w.heap.size ≤ g) (b' : Bool) (u : Value) :
    Env w e ((W.setCell ⟨g, 0, none⟩ (.bool b')).setCell ⟨g, 1, none⟩ u) :=
  ⟨(h.1.setCell (p := ⟨g, 0, none⟩) hg _).setCell (p := ⟨g, 1, none⟩) hg _, fun z hz => (h.2 z hz).box B⟩
theorem len_pos {Z : Int} (h : Z ≠ 0) : ¬ lenL Z.natAbs = 0 := fun h2 => h (by have := lenL_eq_zero.1 h2; omega)

set_option maxRecDepth 100000 in
set_option maxHeartbeats 2000000 in
theorem rSign5_E {b : Bool} {Z : Int} (h : Env w e W) (hx : x ∈ e) (hz : zOf b x.N = Z) :
    Calls Tryz.prog 42 #[.agg #[.bool b, .slice x.A x.n x.c]] W fun e' W' => e' = .returned (.int .i64 Z.sign) ∧ Env w e W' := by
  have HE := h.alloc (.cells #[.bool b, .slice x.A x.n x.c] 25)
  have HO := Lib.hid HE.1
  have hs := h.1.size
  have B1 := Lib.hid (Box2.new W 25 (.bool b) (.slice x.A x.n x.c))
  have EN := Lib.hid (rNorm_E b HE.here hx)
  rw [hz] at EN
  obtain ⟨c1, c2, -, -⟩ := B1.out.cells
  clear h hx hz HE
  go_enter Tryz.func42, Tryz.ntmps42
  go_wp2_with fail
  refine EN.out.mono ?_
  rintro e1 W2 ⟨r, rfl, -, rn, hE2⟩
  have hB2 := B1.out.below hE2.1 B1.out.lt
  obtain ⟨d1, d2, d3, d4⟩ := hB2.cells
  obtain ⟨X, hX⟩ : ∃ X, (W2.setCell ⟨W.heap.size, 0, none⟩ (.bool (decide (Z < 0)))).setCell ⟨W.heap.size, 1, none⟩ (.slice r.A r.n r.c) = X := ⟨_, rfl⟩
  have hbX := hB2.set (.bool (decide (Z < 0))) (.slice r.A r.n r.c)
  have hEX := (hE2.over HO.out).setbox hB2 (by omega) (decide (Z < 0)) (.slice r.A r.n r.c)
  rw [hX] at hbX hEX
  obtain ⟨f1, f2, -, -⟩ := hbX.cells
  have HEX := Lib.hid (hEX.pick (e' := e) (fun z hz => by simp [hz]))
  have HN := Lib.hid rn
  clear hB2 hbX hEX hE2 rn
  rcases Int.lt_trichotomy Z 0 with hz | hz | hz
  · have hr : ¬ r.n = 0 := by rw [HN.out]; exact len_pos (by omega)
    have hd : decide (Z < 0) = true := decide_eq_true hz
    have HS := Lib.hid (Int.sign_eq_neg_one_of_neg hz)
    rw [hd] at f1 hX ⊢
    clear hz hd
    go_wp2
    go_ret
    exact ⟨by rw [HS.out]; rfl, HEX.out⟩
  · subst hz
    have hr : r.n = 0 := by rw [HN.out]; rfl
    rw [hr] at hX f2 ⊢
    rw [show decide ((0 : Int) < 0) = false from rfl] at hX f1 ⊢
    clear hr HN
    go_wp2
    go_ret
    exact ⟨rfl, HEX.out⟩
  · have hr : ¬ r.n = 0 := by rw [HN.out]; exact len_pos (by omega)
    have hd : decide (Z < 0) = false := decide_eq_false (by omega)
    have HS := Lib.hid (Int.sign_eq_one_of_pos hz)
    rw [hd] at f1 hX ⊢
    clear hz hd
    go_wp2
    go_ret
    exact ⟨by rw [HS.out]; rfl, HEX.out⟩
end Go.Proofs.YtdajbmjknilmiaaGreatDoor

/- Contract of the reference's two of layer 5: the sum of two. -/
namespace Go.Proofs.YtdajbmjknilmiaaGreatDoor
open Go Go.RowKit
variable {w W : World} {e : List Num} {x y : Num}

/-- The value is a literal of these two numbers. -/
def RepLit2 (x y : Num) (v : Value) (V : World) : Prop := ∃ g, v = .slice (some ⟨g, 0, none⟩) 2 2 ∧ V.heap[g]? = some (.cells #[.slice x.A x.n x.c, .slice y.A y.n y.c] 23 (0, 0))
theorem RepLit2.keep {x y : Num} {v : Value} {V V' : World} (h : RepLit2 x y v V) (hb : Below V.heap.size V V') : RepLit2 x y v V' := by
  obtain ⟨g, h1, h2⟩ := h
  exact ⟨g, h1, (hb.block g (Array.getElem?_eq_some_iff.1 h2).1).trans h2⟩
section
variable {ops : Array Oper} {Q : Exit → Act → World → Prop} {C : World → Prop} {a : Act} {V : World} {i : Nat} {t t1 t2 : Tmp} {o : Oper}
end

end Go.Proofs.YtdajbmjknilmiaaGreatDoor

/- Contract of the reference's Add of layer 5: the sum of a row of integers. -/
namespace Go.Proofs.YtdajbmjknilmiaaGreatDoor
open Go Go.RowKit
variable {w W : World} {e : List Num}

end Go.Proofs.YtdajbmjknilmiaaGreatDoor

/- Contract of the reference's Mul of layer 5: the product of a row of integers. -/
namespace Go.Proofs.YtdajbmjknilmiaaGreatDoor
open Go Go.RowKit
variable {w W : World} {e : List Num}

end Go.Proofs.YtdajbmjknilmiaaGreatDoor

/- Steps of a region that is told by facts: rows of integers of so many limbs, the reference's sums and products. -/
namespace Go.Proofs.YtdajbmjknilmiaaGreatDoor
open Go Go.RowKit

def RepRowK (K : Nat) (l : List Int) (v : Value) (V : World) : Prop := ∃ (A : Option Addr) (c : Nat) (ps : List (Bool × Num)), v = .slice A ps.length c ∧ ZRds V V.heap.size A ps ∧ ps.map zP = l ∧ (∀ p ∈ ps, p.2.n ≤ K) ∧ ps.length ≤ 50
theorem RepRowK.keep {K : Nat} {l : List Int} {v : Value} {V V' : World} (h : RepRowK K l v V) (hb : Below V.heap.size V V') : RepRowK K l v V' := by
  obtain ⟨A, c, ps, h1, h2, h3⟩ := h
  exact ⟨A, c, ps, h1, (h2.below hb).more hb.size, h3⟩
variable {ops : Array Oper} {Q : Exit → Act → World → Prop} {C : World → Prop} {a : Act} {V : World} {i K : Nat} {t : Tmp} {o : Oper}
end Go.Proofs.YtdajbmjknilmiaaGreatDoor
