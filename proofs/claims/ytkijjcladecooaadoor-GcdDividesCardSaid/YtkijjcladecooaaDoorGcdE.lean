/- Layer 4 in the laws: what the program's Gcd, All, Reduce, Lcm, Coprime are to answer, as a condition, which the program's own texts pay. -/
import Derived.Test.YtkijjcladecooaaDoorGNum
namespace Go.Proofs.YtkijjcladecooaaDoor
open Go Go.RowKit

/-- A number is handed back, trimmed. -/
def TellsN (w : World) (e : List Num) (N : Nat) (e' : Ending) (W' : World) : Prop :=
  ∃ r : Num, e' = .returned (.slice r.A r.n r.c) ∧ r.N = N ∧ r.n = lenL N ∧ Env w (r :: e) W'
def GcdFTold (w : World) : Prop := ∀ (W : World) (e : List Num) (x y : Num), Env w e W → x ∈ e → y ∈ e → x.n ≤ 10000 → y.n ≤ 10000 →
  Calls Tryd.prog 13 #[.slice x.A x.n x.c, .slice y.A y.n y.c] W (TellsN w e (Nat.gcd x.N y.N))
def GcdAllTold (w : World) : Prop := ∀ (W : World) (e : List Num) (A : Option Addr) (c : Nat) (l : List Num), Env w e W → Rds W W.heap.size A l → l.length ≤ c → c ≤ maxLen → l.length ≤ 1000 → (∀ z ∈ l, z.n ≤ 10000) →
  Calls Tryd.prog 15 #[.slice A l.length c] W (TellsN w e (gcdN l))
def ReduceTold (w : World) : Prop := ∀ (W : World) (e : List Num) (x y : Num), Env w e W → x ∈ e → y ∈ e → x.n ≤ 10000 → y.n ≤ 10000 →
  Calls Tryd.prog 10 #[.slice x.A x.n x.c, .slice y.A y.n y.c] W fun e' W' =>
    ∃ p q : Num, e' = .returned (.tuple #[.slice p.A p.n p.c, .slice q.A q.n q.c]) ∧ p.N = x.N / Nat.gcd x.N y.N ∧ p.n = lenL (x.N / Nat.gcd x.N y.N) ∧ q.N = y.N / Nat.gcd x.N y.N ∧ q.n = lenL (y.N / Nat.gcd x.N y.N) ∧ Env w (p :: q :: e) W'
def LcmTold (w : World) : Prop := ∀ (W : World) (e : List Num) (x y : Num), Env w e W → x ∈ e → y ∈ e → x.n ≤ 10000 → y.n ≤ 10000 →
  Calls Tryd.prog 17 #[.slice x.A x.n x.c, .slice y.A y.n y.c] W (TellsN w e (x.N / Nat.gcd x.N y.N * y.N))
def CoprimeTold (w : World) : Prop := ∀ (W : World) (e : List Num) (x y : Num), Env w e W → x ∈ e → y ∈ e → x.n ≤ 10000 → y.n ≤ 10000 →
  Calls Tryd.prog 19 #[.slice x.A x.n x.c, .slice y.A y.n y.c] W fun e' W' => e' = .returned (.bool (coprB x.N y.N)) ∧ Env w e W'
structure GcdTold (w : World) : Prop where
  gcd : GcdFTold w
  all : GcdAllTold w
  reduce : ReduceTold w
  lcm : LcmTold w
  coprime : CoprimeTold w
end Go.Proofs.YtkijjcladecooaaDoor
