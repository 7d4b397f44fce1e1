/- Texts and what they read as, in the laws: what is told, parsed; integers' texts. No function of the program. -/
import Derived.Test.YtaancfhbmjkoaaaGreatDoorDecM
import Derived.Test.YtaancfhbmjkoaaaGreatDoorFactsN
import Derived.Test.YtaancfhbmjkoaaaGreatDoorGSintA
namespace Go.Proofs.YtaancfhbmjkoaaaGreatDoor
open Go Go.RowKit
variable {w W : World} {e : List Num}

/-- A text is handed back, over numbers at hand. -/
def Says (w : World) (e : List Num) (l : List UInt8) (x : Ending) (W' : World) : Prop := x = .returned (.string ⟨l.toArray⟩) ∧ Env w e W'

theorem str_size (l : List UInt8) : (ByteArray.mk l.toArray).size = l.length := by
  show l.toArray.size = _
  simp
theorem str_app (l m : List UInt8) : (ByteArray.mk l.toArray) ++ (ByteArray.mk m.toArray) = ByteArray.mk (l ++ m).toArray := by
  apply ByteArray.ext
  simp
theorem digits_of_limbs {N n : Nat} (h : N < Bw ^ n) : N < 10 ^ (10 * n) := by
  rw [Nat.pow_mul]
  exact Nat.lt_of_lt_of_le h (Nat.pow_le_pow_left (by rw [Bw_eq]; omega) n)
theorem dec_len_le {N n : Nat} (h : N < Bw ^ n) : (dec N).length ≤ 10 * n + 1 := by
  by_cases h0 : N = 0
  · rw [h0, dec_zero]; simp
  · rw [dec_pos h0]; have := decz_len (digits_of_limbs h); omega

/-- What reads as a natural. -/
def Reads (l : List UInt8) : Prop := 1 ≤ l.length ∧ l.length ≤ 60 ∧ Digs l
/-- The number is handed back, and that all went well. -/
def ParsedOk (w : World) (e : List Num) (N : Nat) (e' : Ending) (W' : World) : Prop := ∃ r : Num, e' = .returned (.tuple #[.slice r.A r.n r.c, .int .i64 0]) ∧ r.N = N ∧ r.n = lenL N ∧ Env w (r :: e) W'
/-- Nothing is handed back, but that it was no number. -/
def ParsedBad (w : World) (e : List Num) (e' : Ending) (W' : World) : Prop := e' = .returned (.tuple #[.slice none 0 0, .int .i64 60]) ∧ Env w e W'

theorem take_snoc (s : ByteArray) (k : Nat) (h : k < s.size) : s.data.toList.take (k + 1) = s.data.toList.take k ++ [s[k]] := by
  rw [List.take_succ_eq_append_getElem (by simpa using h)]; rfl
theorem mem_str (s : ByteArray) (k : Nat) (h : k < s.size) : s[k] ∈ s.data.toList := by
  have h1 : k < s.data.toList.length := by simpa using h
  have h2 : s[k] = s.data.toList[k] := rfl
  rw [h2]; exact List.getElem_mem h1
theorem str_len (s : ByteArray) : s.data.toList.length = s.size := by rw [← Lib.size_eq]

theorem limbs_of_digits {r : Num} {l : List UInt8} (h : Digs l) (hl : l.length ≤ 60) (hN : r.N = val l) (hn : r.n = lenL r.N) : r.n ≤ 60 ∧ lenL (r.N * 10) ≤ 800 := by
  have h1 : r.N < 10 ^ 60 := by rw [hN]; exact Nat.lt_of_lt_of_le (val_lt h) (Nat.pow_le_pow_right (by omega) hl)
  have h2 : (10 : Nat) ^ 60 ≤ Bw ^ 60 := Nat.pow_le_pow_left (by rw [Bw_eq]; omega) 60
  have h3 : r.N * 10 < 10 ^ 61 := by rw [Nat.pow_succ]; omega
  have h4 : (10 : Nat) ^ 61 ≤ Bw ^ 61 := Nat.pow_le_pow_left (by rw [Bw_eq]; omega) 61
  refine ⟨by rw [hn]; exact lenL_le.2 (Nat.lt_of_lt_of_le h1 h2), Nat.le_trans (lenL_le.2 (Nat.lt_of_lt_of_le h3 h4)) (by omega)⟩

/-- An integer's text. -/
def itext (b : Bool) (N : Nat) : List UInt8 := if b = true ∧ N ≠ 0 then 45 :: dec N else dec N
theorem dec_nought (N : Nat) : (dec N == [48]) = decide (N = 0) := by
  have h := @dec_inj N 0
  rw [dec_zero] at h
  rw [Bool.eq_iff_iff, beq_iff_eq, decide_eq_true_eq]
  exact h

/-- A result in a box, and an error's number. -/
theorem ret_box2t {W : World} {B : Nat} {t : TypeId} {a b z : Value} (h : Box2 W B t a b) {fn : Func} {p u : Tmp} (hr : fn.results = #[.cell p 25, .tmp u]) {tmps : Array Value} (hp : tmps.getD p undef = .pointer (some ⟨B, 0, none⟩)) (hu : tmps.getD u undef = z) :
    (results fn tmps).run Tryz.prog W = .ok (.tuple #[.agg #[a, b], z]) W := by
  have e1 : tmps[p]?.getD undef = .pointer (some ⟨B, 0, none⟩) := by simpa using hp
  have e3 : tmps[u]?.getD undef = z := by simpa using hu
  have r1 := run_loadVar_row W B t 25 #[a, b] (0, 0) _ h Tryz.underlying25 rfl info_int2
  simp [results, hr, e1, e3, asAddr, r1]
/-- A text that begins with the sign; what stands behind it. -/
def iNeg (l : List UInt8) : Bool := l.head? == some 45
def iRest (l : List UInt8) : List UInt8 := if iNeg l then l.tail else l
/-- An integer is handed back, and that all went well. -/
def ParsedInt (w : World) (e : List Num) (l : List UInt8) (e' : Ending) (W' : World) : Prop :=
  ∃ r : Num, e' = .returned (.tuple #[.agg #[.bool (iNeg l && decide (val (iRest l) ≠ 0)), .slice r.A r.n r.c], .int .i64 0]) ∧ r.N = val (iRest l) ∧ r.n = lenL r.N ∧ Env w (r :: e) W'
def ParsedNone (w : World) (e : List Num) (e' : Ending) (W' : World) : Prop := e' = .returned (.tuple #[.agg #[.bool false, .slice none 0 0], .int .i64 60]) ∧ Env w e W'

theorem head_str (s : ByteArray) (h : 0 < s.size) : s.data.toList.head? = some s[0] := by
  have h4 : 0 < s.data.toList.length := by rw [str_len]; exact h
  rw [List.head?_eq_getElem?, List.getElem?_eq_getElem h4]; rfl

end Go.Proofs.YtaancfhbmjkoaaaGreatDoor
