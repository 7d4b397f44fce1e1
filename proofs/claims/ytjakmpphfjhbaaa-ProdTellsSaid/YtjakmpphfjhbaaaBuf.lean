/- A row of limbs that the call has made, and writes limb by limb: what it reads as. No function of the program. -/
import Derived.Test.YtjakmpphfjhbaaaBase
namespace Go.Proofs.Ytjakmpphfjhbaaa
open Go Go.RowKit

theorem mod_full {N n : Nat} (h : N < Bw ^ n) : N % Bw ^ n = N := Nat.mod_eq_of_lt h

/-- One limb of a number set. -/
theorem set_dig {O m p x : Nat} (hO : O < Bw ^ m) (hp : p < m) (hx : x < Bw) : ∃ O', O' < Bw ^ m ∧ (∀ j, dig O' j = if j = p then x else dig O j) ∧ O' + dig O p * Bw ^ p = O + x * Bw ^ p := by
  obtain ⟨O', h1, h2⟩ := num_of_limbs m (fun j => if j = p then x else dig O j) (fun j hj => by
    split
    · exact hx
    · exact dig_lt O j)
  have key : ∀ k, k ≤ m → O' % Bw ^ k + (if p < k then dig O p * Bw ^ p else 0) = O % Bw ^ k + (if p < k then x * Bw ^ p else 0) := by
    intro k
    induction k with
    | zero => intro _; simp [Nat.mod_one]
    | succ k ih =>
      intro hk
      have ih := ih (by omega)
      have hd := h2 k (by omega)
      rw [mod_succ, mod_succ, ← hd]
      by_cases e : k = p
      · subst e
        rw [if_neg (by omega), if_neg (by omega)] at ih
        rw [if_pos rfl, if_pos (by omega), if_pos (by omega), Nat.mul_comm (Bw ^ k) x, Nat.mul_comm (Bw ^ k) (dig O k)]
        omega
      · rw [if_neg e]
        by_cases e2 : p < k
        · rw [if_pos e2, if_pos e2] at ih
          rw [if_pos (by omega), if_pos (by omega)]
          omega
        · rw [if_neg e2, if_neg e2] at ih
          rw [if_neg (by omega), if_neg (by omega)]
          omega
  refine ⟨O', h1, fun j => ?_, ?_⟩
  · by_cases hj : j < m
    · exact (h2 j hj).symm
    · rw [dig_ge h1 (by omega), if_neg (by omega), dig_ge hO (by omega)]
  · have := key m (Nat.le_refl _)
    rwa [mod_full h1, mod_full hO, if_pos hp, if_pos hp] at this

/-- The cells of block g, from the first one on, hold the limbs of O. -/
def Buf (W : World) (g n O : Nat) : Prop := ∀ j, j < n → W.cell? ⟨g, j, none⟩ = some (.int .u32 (dig O j : Nat)) ∧ W.frozen? ⟨g, j, none⟩ = false
theorem Buf.set {W : World} {g n O m p x : Nat} (h : Buf W g n O) (hO : O < Bw ^ m) (hp : p < m) (hx : x < 4294967296) :
    ∃ O', Buf (W.setCell ⟨g, p, none⟩ (.int .u32 x)) g n O' ∧ O' < Bw ^ m ∧ O' + dig O p * Bw ^ p = O + x * Bw ^ p := by
  obtain ⟨O', h1, h2, h3⟩ := set_dig hO hp (by rw [Bw_eq]; exact hx)
  refine ⟨O', fun j hj => ?_, h1, h3⟩
  obtain ⟨c1, c2⟩ := h j hj
  refine ⟨?_, by rw [World.frozen?_setCell]; exact c2⟩
  rw [h2]
  by_cases e : j = p
  · subst e
    rw [if_pos rfl]
    exact World.cell?_setCell_same' _ _ _ (by rw [c1]; rfl)
  · rw [if_neg e, World.cell?_setCell_other W ⟨g, p, none⟩ ⟨g, j, none⟩ _ (by first | (simp; done) | (simp; omega)), c1]
theorem Buf.drew {W : World} {g n O : Nat} (h : Buf W g n O) (q : Nat) : Buf (W.drewN q) g n O := h
theorem Buf.rd {W : World} {g n O : Nat} (h : Buf W g n O) (hO : O < Bw ^ n) (hg : 0 < n → g < W.heap.size) : Rd W W.heap.size (some ⟨g, 0, none⟩) n O :=
  ⟨hO, fun hn => ⟨⟨g, 0, none⟩, rfl, hg hn, fun j hj => by rw [add_new]; exact (h j hj).1⟩⟩
theorem Buf.of_fr {W : World} {lo hi g n O : Nat} (h : Fr W lo hi (some ⟨g, 0, none⟩) n O) : Buf W g n O := fun j hj => by
  obtain ⟨g', e, _, _, hc⟩ := h.2 (by omega)
  cases e
  exact hc j hj

theorem made_any (w : World) (n : Nat) (hn : n ≤ 35184372087810) : ∃ w1, (Instr.makeSlice 23 (.int .i64 (n : Int)) (.int .i64 (n : Int))).run Try.prog w = .ok (.slice (some ⟨w.heap.size, 0, none⟩) n n) w1 ∧
    Fr w1 w.heap.size (w.heap.size + 1) (some ⟨w.heap.size, 0, none⟩) n 0 ∧ Below w.heap.size w w1 ∧ w1.heap.size = w.heap.size + 1 := by
  obtain ⟨i0, hi, hz0, hz1, hz2⟩ := info_parts info_u32
  have h := run_make (P := Try.prog) w 23 25 i0 (.int .u32 0) Try.underlying23 hi hz0 .i64 .i64 n n (by omega) (Int.le_refl _) (by rw [hz2]; omega) (by omega)
  simp only [Int.toNat_natCast] at h
  refine ⟨_, h, Fr.lit (Nat.le_refl _) (pow_pos_Bw _) (fun j hj => ?_), (Below.refl _ _).alloc (Nat.le_refl _) _, by simp⟩
  have e : (Value.int .u32 0).cells = #[.int .u32 0] := rfl
  have e2 := toList_madeCells_one (.int .u32 0) (n * i0.size)
  rw [e, dig_zero, ← Array.getElem?_toList, e2, hz1]
  simp [hj]
end Go.Proofs.Ytjakmpphfjhbaaa
