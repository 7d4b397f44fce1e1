/- Contracts of the document's Sub, Quo, Cmp, Same, Mid, Floor, above, room of layer 7. -/
import Derived.Test.YtdajbmjknilmiaaGreatDoorGRatG
import Derived.Test.YtdajbmjknilmiaaGreatDoorGRefG
namespace Go.Proofs.YtdajbmjknilmiaaGreatDoor
open Go Go.RowKit
variable {v v' v1 v2 : Value} {V : World} {K K' N M : Nat} {q q' q1 q2 : Rat} {Z Z' : Int}

/-- What is left of a division downwards; nought by nought. -/
def rmz (Z Z' : Int) : Int := if Z' = 0 then 0 else Z.fmod Z'
def erq0 (Z' : Int) : Int := if Z' = 0 then 30 else 0
def ZDiv (K K' : Nat) (Z Z' : Int) (v : Value) (V : World) : Prop := ∃ v0 v1, v = .tuple #[v0, v1, .int .i64 (erq0 Z')] ∧ ZT (K + 1) (Z.fdiv Z') v0 V ∧ ZT (max K K' + 1) (rmz Z Z') v1 V
theorem ZDiv.keep {V' : World} (h : ZDiv K K' Z Z' v V) (hb : Below V.heap.size V V') : ZDiv K K' Z Z' v V' := by
  obtain ⟨v0, v1, h1, h2, h3⟩ := h; exact ⟨v0, v1, h1, h2.keep hb, h3.keep hb⟩
theorem ZDiv.keepS {V' : World} {shs : List (TypeId × Nat)} {g : Nat} {vs : List Value} (h : ZDiv K K' Z Z' v V) (hb : Sto shs g vs V V') : ZDiv K K' Z Z' v V' := by
  obtain ⟨v0, v1, h1, h2, h3⟩ := h; exact ⟨v0, v1, h1, h2.keepS hb, h3.keepS hb⟩
theorem fdiv_abs (a b : Int) : (a.fdiv b).natAbs ≤ a.natAbs + 1 ∧ (rmz a b).natAbs ≤ a.natAbs + b.natAbs := by
  unfold rmz
  by_cases hb : b = 0
  · subst hb; simp
  · have h1 := Int.fdiv_mul_add_fmod a b
    have h2 : (a.fmod b).natAbs < b.natAbs := by
      rcases Int.lt_or_gt_of_ne hb with h | h
      · have e1 : a.fmod b = _ := Int.fmod_eq_emod
        have e2 := Int.emod_lt_of_pos a (show 0 < -b by omega)
        rw [Int.emod_neg] at e2
        have e3 := Int.emod_nonneg a hb
        split at e1 <;> omega
      · have e1 := Int.fmod_nonneg_of_pos a h
        have e2 := Int.fmod_lt_of_pos a h
        omega
    rw [if_neg hb]
    refine ⟨?_, by omega⟩
    generalize a.fdiv b = d at *
    generalize a.fmod b = m at *
    have h3 : (d * b).natAbs = d.natAbs * b.natAbs := Int.natAbs_mul d b
    have h4 : d.natAbs ≤ d.natAbs * b.natAbs := Nat.le_mul_of_pos_right _ (by omega)
    by_cases h5 : d.natAbs ≤ 1
    · omega
    · have h6 : d.natAbs * b.natAbs ≥ (d.natAbs - 1) * b.natAbs + b.natAbs := by
        have : d.natAbs = (d.natAbs - 1) + 1 := by omega
        conv => lhs; rw [this, Nat.add_mul, Nat.one_mul]
        exact Nat.le_refl _
      have h7 : d.natAbs - 1 ≤ (d.natAbs - 1) * b.natAbs := Nat.le_mul_of_pos_right _ (by omega)
      omega
theorem sub_eq (q1 q2 : Rat) : q1 + -q2 = q1 - q2 := (Rat.sub_eq_add_neg q1 q2).symm
theorem QE.sml {er er' : Int} (h : QE K q er v V) (hs : Sm K' q) (he : er = er') : QE K' q er' v V := by
  obtain ⟨b, x, y, h1, h2, h3, h4, h5⟩ := h
  subst he
  exact ⟨b, x, y, h1, h2, (isq_lim h2 hs).1, (isq_lim h2 hs).2, h5⟩
end Go.Proofs.YtdajbmjknilmiaaGreatDoor
