/- Layer 6 in the laws: what the program's functions of package digits are to answer, as a condition, which the program's own texts pay. -/
import Derived.Test.YtaancfhbmjkoaaaGreatDoorDigM
namespace Go.Proofs.YtaancfhbmjkoaaaGreatDoor
open Go Go.RowKit

/-- What the program's Text, IntText, Count, Parse, ParseInt are to answer (w0: the world in which its tables lie). -/
def TextTold (w0 : World) : Prop := ∀ (w W : World) (e : List Num) (x : Num), Below w0.heap.size w0 W → Env w e W → x ∈ e → x.n ≤ 100 →
  Calls Tryz.prog 16 #[.slice x.A x.n x.c] W (Says w e (dec x.N))
def ITextTold (w0 : World) : Prop := ∀ (w W : World) (e : List Num) (b : Bool) (x : Num), Below w0.heap.size w0 W → Env w e W → x ∈ e → x.n ≤ 100 →
  Calls Tryz.prog 18 #[.agg #[.bool b, .slice x.A x.n x.c]] W (Says w e (itext b x.N))
def CountTold (w0 : World) : Prop := ∀ (w W : World) (e : List Num) (x : Num), Below w0.heap.size w0 W → Env w e W → x ∈ e → x.n ≤ 100 →
  Calls Tryz.prog 20 #[.slice x.A x.n x.c] W fun e' W' => e' = .returned (.int .i64 (dec x.N).length) ∧ Env w e W'
def ParseTold (w0 : World) : Prop := ∀ (w W : World) (e : List Num) (s : ByteArray), Below w0.heap.size w0 W → Env w e W → s.size ≤ 1000 →
  Calls Tryz.prog 10 #[.string s] W fun e' W' => (Reads s.data.toList → ParsedOk w e (val s.data.toList) e' W') ∧ (¬ Reads s.data.toList → ParsedBad w e e' W')
def ParseIntTold (w0 : World) : Prop := ∀ (w W : World) (e : List Num) (s : ByteArray), Below w0.heap.size w0 W → Env w e W → s.size ≤ 1000 →
  Calls Tryz.prog 12 #[.string s] W fun e' W' => (Reads (iRest s.data.toList) → ParsedInt w e s.data.toList e' W') ∧ (¬ Reads (iRest s.data.toList) → ParsedNone w e e' W')
structure DigTold (w0 : World) : Prop where
  text : TextTold w0
  itext : ITextTold w0
  count : CountTold w0
  parse : ParseTold w0
  parseInt : ParseIntTold w0
section
variable {w0 w W : World} {e : List Num}
/-- The same over a text that is known. -/
theorem parse_ok (S : DigTold w0) (h0 : Below w0.heap.size w0 W) (h : Env w e W) (l : List UInt8) (hr : Reads l) : Calls Tryz.prog 10 #[.string ⟨l.toArray⟩] W (ParsedOk w e (val l)) := by
  have h1 := S.parse w W e ⟨l.toArray⟩ h0 h (by rw [str_size]; have := hr.2.1; omega)
  exact h1.mono fun e' W' hh => hh.1 hr
theorem parse_bad (S : DigTold w0) (h0 : Below w0.heap.size w0 W) (h : Env w e W) (l : List UInt8) (hl : l.length ≤ 1000) (hr : ¬ Reads l) : Calls Tryz.prog 10 #[.string ⟨l.toArray⟩] W (ParsedBad w e) := by
  have h1 := S.parse w W e ⟨l.toArray⟩ h0 h (by rw [str_size]; exact hl)
  exact h1.mono fun e' W' hh => hh.2 hr
theorem parseInt_ok (S : DigTold w0) (h0 : Below w0.heap.size w0 W) (h : Env w e W) (l : List UInt8) (hl : l.length ≤ 1000) (hr : Reads (iRest l)) : Calls Tryz.prog 12 #[.string ⟨l.toArray⟩] W (ParsedInt w e l) := by
  have h1 := S.parseInt w W e ⟨l.toArray⟩ h0 h (by rw [str_size]; exact hl)
  exact h1.mono fun e' W' hh => hh.1 hr
theorem parseInt_bad (S : DigTold w0) (h0 : Below w0.heap.size w0 W) (h : Env w e W) (l : List UInt8) (hl : l.length ≤ 1000) (hr : ¬ Reads (iRest l)) : Calls Tryz.prog 12 #[.string ⟨l.toArray⟩] W (ParsedNone w e) := by
  have h1 := S.parseInt w W e ⟨l.toArray⟩ h0 h (by rw [str_size]; exact hl)
  exact h1.mono fun e' W' hh => hh.2 hr
end
end Go.Proofs.YtaancfhbmjkoaaaGreatDoor
