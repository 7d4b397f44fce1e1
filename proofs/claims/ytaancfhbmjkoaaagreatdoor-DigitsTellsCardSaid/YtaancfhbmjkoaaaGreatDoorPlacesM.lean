/- Places of nine digits: what a number is cut into, what its text is of; numbers that no builder holds. No function of the program. -/
import Derived.Lib.ItoaNum
import Derived.Lib.TrimByte
import Derived.Test.YtaancfhbmjkoaaaGreatDoorDigM
import Derived.Test.YtaancfhbmjkoaaaGreatDoorNest
namespace Go.Proofs.YtaancfhbmjkoaaaGreatDoor
open Go Go.RowKit

/-- The place's base, squared m times. -/
def P9 (m : Nat) : Nat := 10 ^ (9 * 2 ^ m)
theorem P9_zero : P9 0 = 1000000000 := rfl
theorem P9_succ (m : Nat) : P9 (m + 1) = P9 m * P9 m := by
  unfold P9
  rw [← Nat.pow_add]
  congr 1
  rw [Nat.pow_succ]; omega
theorem P9_pos (m : Nat) : 0 < P9 m := Nat.pow_pos (by omega)
theorem P9_ge (m : Nat) : 1000000000 ≤ P9 m := by
  rw [← P9_zero]
  exact Nat.pow_le_pow_right (by omega) (Nat.mul_le_mul_left _ (Nat.pow_le_pow_right (by omega) (Nat.zero_le _)))
theorem P9_two (m : Nat) : 2 ^ 2 ^ m ≤ P9 m := by
  unfold P9
  exact Nat.le_trans (Nat.pow_le_pow_left (by omega) _) (Nat.pow_le_pow_right (by omega) (by omega))
def placesOf : Nat → Nat → List Nat
  | 0, N => [N]
  | m + 1, N => placesOf m (N / P9 m) ++ placesOf m (N % P9 m)

/-- A number's last k digits, noughts ahead or not. -/
def dpad : Nat → Nat → List UInt8
  | 0, _ => []
  | k + 1, x => dpad k (x / 10) ++ [dg (x % 10)]
theorem dpad_length (k : Nat) : ∀ x, (dpad k x).length = k := by
  induction k with
  | zero => intro x; rfl
  | succ k ih => intro x; simp [dpad, ih]
theorem digs_dpad (k : Nat) : ∀ x, Digs (dpad k x) := by
  induction k with
  | zero => intro x; exact digs_nil
  | succ k ih => intro x; exact digs_append.mpr ⟨ih _, digs_dg (by omega)⟩
theorem val_dpad (k : Nat) : ∀ x, x < 10 ^ k → val (dpad k x) = x := by
  induction k with
  | zero => intro x h; simp at h; subst h; rfl
  | succ k ih =>
    intro x h
    rw [Nat.pow_succ] at h
    show val (dpad k (x / 10) ++ [dg (x % 10)]) = x
    rw [val_snoc, ih _ (by omega), dg_toNat (by omega)]
    omega
theorem decDigits_dec (u : Nat) : Lib.decDigits u = dec u := by
  induction u using Nat.strongRecOn with
  | _ u ih =>
    rw [Lib.decDigits]
    by_cases h : u < 10
    · rw [dif_pos h]
      by_cases h0 : u = 0
      · subst h0; rfl
      · rw [dec_pos h0, decz_pos h0, show u / 10 = 0 by omega, decz_zero, show u % 10 = u by omega]; rfl
    · rw [dif_neg h, ih (u / 10) (by omega), dec_pos (by omega), dec_pos (by omega), decz_pos (show u ≠ 0 by omega)]; rfl
/-- A place's digits, as the program makes them: the base is added, its own digit cut off. -/
theorem itoa_place {x : Nat} (h : x < 1000000000) : Lib.itoa (1000000000 + (x : Int)) = 49 :: dpad 9 x := by
  unfold Lib.itoa
  rw [if_neg (by omega), show (1000000000 + (x : Int)).toNat = 1000000000 + x by omega, decDigits_dec, dec_pos (by omega)]
  have h1 := decz_mul (n := 1) (l := dpad 9 x) (by omega) (digs_dpad 9 x)
  rw [dpad_length, val_dpad 9 x h] at h1
  rw [show 1000000000 + x = 1 * 10 ^ 9 + x by omega, h1, decz_pos (show (1 : Nat) ≠ 0 by omega), decz_zero]
  rfl
def pads (xs : List Nat) : List UInt8 := xs.flatMap (dpad 9)
theorem pads_append (xs ys : List Nat) : pads (xs ++ ys) = pads xs ++ pads ys := by simp [pads]
theorem pads_one (x : Nat) : pads [x] = dpad 9 x := by simp [pads]
theorem pads_length (xs : List Nat) : (pads xs).length = 9 * xs.length := by
  induction xs with
  | nil => rfl
  | cons x xs ih => rw [show x :: xs = [x] ++ xs from rfl, pads_append, pads_one, List.length_append, ih, dpad_length]; simp; omega
theorem digs_pads (xs : List Nat) : Digs (pads xs) := by
  induction xs with
  | nil => exact digs_nil
  | cons x xs ih => rw [show x :: xs = [x] ++ xs from rfl, pads_append, pads_one]; exact digs_append.mpr ⟨digs_dpad 9 x, ih⟩
theorem places_length (m : Nat) : ∀ N, (placesOf m N).length = 2 ^ m := by
  induction m with
  | zero => intro N; rfl
  | succ m ih => intro N; simp only [placesOf, List.length_append, ih, Nat.pow_succ]; omega
theorem val_places (m : Nat) : ∀ N, N < P9 m → val (pads (placesOf m N)) = N := by
  induction m with
  | zero =>
    intro N h
    rw [P9_zero] at h
    show val (pads [N]) = N
    rw [pads_one, val_dpad 9 N h]
  | succ m ih =>
    intro N h
    rw [P9_succ] at h
    show val (pads (placesOf m (N / P9 m) ++ placesOf m (N % P9 m))) = N
    rw [pads_append, val_append, ih _ (by rw [Nat.div_lt_iff_lt_mul (P9_pos m)]; exact h), ih _ (Nat.mod_lt _ (P9_pos m)), pads_length, places_length]
    show N / P9 m * P9 m + N % P9 m = N
    rw [Nat.mul_comm]
    exact Nat.div_add_mod N (P9 m)
/-- The noughts ahead are cut off. -/
theorem trim_decz {l : List UInt8} (h : Digs l) : Lib.trimLeftB l 48 = decz (val l) := by
  unfold Lib.trimLeftB
  induction l with
  | nil => rw [val_nil, decz_zero]; rfl
  | cons c l ih =>
    obtain ⟨hc, hl⟩ := digs_cons.mp h
    rw [List.dropWhile_cons]
    by_cases h0 : c = 48
    · subst h0
      rw [if_pos (by rfl), val_nought, ih hl]
    · rw [if_neg (by simpa using h0)]
      refine (decz_val h fun d hd => ?_).symm
      simp only [List.head?_cons, Option.some.injEq] at hd
      subst hd
      have : c.toNat ≠ 48 := fun e => h0 (UInt8.toNat_inj.mp e)
      omega
theorem trim_places {m N : Nat} (h : N < P9 m) : Lib.trimLeftB (pads (placesOf m N)) 48 = decz N := by rw [trim_decz (digs_pads _), val_places m N h]

/-- A box, a number, a row of numbers that the builder at b does not hold. -/
structure BoxO (b : Nat) (W : World) (p : Nat) (v : Value) : Prop where
  lt : p < W.heap.size
  out : Out b W p
  cell : W.cell? ⟨p, 0, none⟩ = some v
structure NumO (b : Nat) (W : World) (x : Num) : Prop where
  ok : x.ok W W.heap.size
  out : 0 < x.n → ∀ ad, x.A = some ad → Out b W ad.block
def RdsO (b : Nat) (W : World) (A : Option Addr) (l : List Num) : Prop :=
  ∀ k (h : k < l.length), (∃ ad : Addr, A = some ad ∧ ad.block < W.heap.size ∧ Out b W ad.block ∧ W.cell? (ad.add k) = some (.slice l[k].A l[k].n l[k].c)) ∧ NumO b W l[k]
section
variable {b : Nat} {W W' : World}
theorem Rnd.cell (h : Rnd b W W') {a : Addr} (hl : a.block < W.heap.size) (ho : Out b W a.block) : W'.cell? a = W.cell? a := World.cell?_of_block (h.keep _ hl ho).1
theorem Rnd.out (h : Rnd b W W') {k : Nat} (hl : k < W.heap.size) (ho : Out b W k) : Out b W' k := (h.keep _ hl ho).2
theorem BoxO.rnd {p : Nat} {v : Value} (h : BoxO b W p v) (r : Rnd b W W') : BoxO b W' p v := ⟨Nat.lt_of_lt_of_le h.lt r.size, r.out h.lt h.out, (r.cell (a := ⟨p, 0, none⟩) h.lt h.out).trans h.cell⟩
theorem NumO.rnd {x : Num} (h : NumO b W x) (r : Rnd b W W') : NumO b W' x := by
  refine ⟨⟨⟨h.ok.1.1, fun hn => ?_⟩, h.ok.2⟩, fun hn ad e => ?_⟩
  · obtain ⟨ad, e, hb, hc⟩ := h.ok.1.2 hn
    have ho := h.out hn ad e
    exact ⟨ad, e, Nat.lt_of_lt_of_le hb r.size, fun j hj => (r.cell (a := ad.add j) (by rw [add_block]; exact hb) (by rw [add_block]; exact ho)).trans (hc j hj)⟩
  · obtain ⟨ad', e', hb, _⟩ := h.ok.1.2 hn
    rw [e] at e'; cases e'
    exact r.out hb (h.out hn ad e)
theorem RdsO.rnd {A : Option Addr} {l : List Num} (h : RdsO b W A l) (r : Rnd b W W') : RdsO b W' A l := fun k hk => by
  obtain ⟨⟨ad, e, hb, ho, hc⟩, hn⟩ := h k hk
  exact ⟨⟨ad, e, Nat.lt_of_lt_of_le hb r.size, r.out hb ho, (r.cell (a := ad.add k) (by rw [add_block]; exact hb) (by rw [add_block]; exact ho)).trans hc⟩, hn.rnd r⟩
theorem RdsO.take {A : Option Addr} {l : List Num} (h : RdsO b W A l) (j : Nat) : RdsO b W A (l.take j) := fun k hk => by
  have hk' : k < l.length := by rw [List.length_take] at hk; omega
  have e : (l.take j)[k] = l[k] := List.getElem_take ..
  rw [e]
  exact h k hk'
/-- A number of the call's own, laid anew. -/
theorem NumO.fresh {A : Option Addr} {n c N lo : Nat} (h : Fr W' lo W'.heap.size A n N) (hlo : W.heap.size ≤ lo) (hc : n ≤ c) (hcm : c ≤ maxLen) (hn : n ≤ 35184372087808) (hB : Bok b W) (he : rowOf b W' = rowOf b W) : NumO b W' ⟨A, n, c, N⟩ :=
  ⟨⟨h.rd, hc, hcm, hn⟩, fun h0 ad e => by
    obtain ⟨g, e', h1, _⟩ := h.2 h0
    rw [show A = some ad from e] at e'
    cases e'
    exact ⟨by have := hB.1; simp only; omega, fun e2 => by rw [he] at e2; have := hB.row_lt _ e2; simp only at this; omega⟩⟩
end
/-- The value is that number, trimmed, in a block from lo on. -/
def RepQ (lo N : Nat) (v : Value) (V : World) : Prop := ∃ A c, v = .slice A (lenL N) c ∧ lenL N ≤ c ∧ c ≤ maxLen ∧ Fr V lo V.heap.size A (lenL N) N
theorem RepQ.keep {lo N : Nat} {v : Value} {V V' : World} (h : RepQ lo N v V) (hb : Below V.heap.size V V') : RepQ lo N v V' := by
  obtain ⟨A, c, h1, h2, h3, h4⟩ := h
  exact ⟨A, c, h1, h2, h3, (h4.keep hb).more hb.size⟩
/-- Two numbers, and that all went well. -/
def RepT2 (lo N M : Nat) (v : Value) (V : World) : Prop := ∃ v1 v2, v = .tuple #[v1, v2, .int .i64 0] ∧ RepQ lo N v1 V ∧ RepQ lo M v2 V
theorem RepT2.keep {lo N M : Nat} {v : Value} {V V' : World} (h : RepT2 lo N M v V) (hb : Below V.heap.size V V') : RepT2 lo N M v V' := by
  obtain ⟨v1, v2, h1, h2, h3⟩ := h
  exact ⟨v1, v2, h1, h2.keep hb, h3.keep hb⟩
end Go.Proofs.YtaancfhbmjkoaaaGreatDoor
