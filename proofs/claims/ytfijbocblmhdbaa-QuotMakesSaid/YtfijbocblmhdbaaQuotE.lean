/- Layer 3 in the laws: what the program's Div, Short, Divides, Times are to answer, as a condition, which the program's own texts pay. -/
import Derived.Test.YtfijbocblmhdbaaGNum
namespace Go.Proofs.Ytfijbocblmhdbaa
open Go Go.RowKit

def DivTold : Prop := ∀ (w W : World) (e : List Num) (x y : Num), Env w e W → x ∈ e → y ∈ e → x.n ≤ 100000 → y.n ≤ 100000 →
  Calls Try.prog 8 #[.slice x.A x.n x.c, .slice y.A y.n y.c] W fun e' W' =>
    ∃ q r : Num, e' = .returned (.tuple #[.slice q.A q.n q.c, .slice r.A r.n r.c, .int .i64 (zeroE y.N)]) ∧ q.N = x.N / y.N ∧ q.n = lenL (x.N / y.N) ∧ r.N = restN x.N y.N ∧ r.n = lenL (restN x.N y.N) ∧ Env w (q :: r :: e) W'
def ShortTold : Prop := ∀ (w W : World) (e : List Num) (x : Num) (M : Nat), Env w e W → x ∈ e → x.n ≤ 100000 → M < 4294967296 →
  Calls Try.prog 14 #[.slice x.A x.n x.c, .int .u32 M] W fun e' W' =>
    ∃ q : Num, e' = .returned (.tuple #[.slice q.A q.n q.c, .int .u32 (restN x.N M : Nat), .int .i64 (zeroE M)]) ∧ q.N = x.N / M ∧ q.n = lenL (x.N / M) ∧ Env w (q :: e) W'
def DividesTold : Prop := ∀ (w W : World) (e : List Num) (x : Num) (A : Option Addr) (c : Nat) (l : List Num), Env w e W → x ∈ e → x.n ≤ 100000 → Rds W W.heap.size A l → l.length ≤ c → c ≤ maxLen → l.length ≤ 1000 → (∀ z ∈ l, z.n ≤ 100000) →
  Calls Try.prog 15 #[.slice x.A x.n x.c, .slice A l.length c] W fun e' W' => e' = .returned (.bool (decide (∀ z ∈ l, x.N ∣ z.N))) ∧ Env w e W'
def TimesTold : Prop := ∀ (w W : World) (e : List Num) (x y : Num), Env w e W → x ∈ e → y ∈ e → x.n ≤ 10000 → y.n ≤ 10000 →
  Calls Try.prog 16 #[.slice x.A x.n x.c, .slice y.A y.n y.c] W fun e' W' => ∃ k : Nat, e' = .returned (.int .i64 k) ∧ TimesIs x.N y.N k ∧ Env w e W'
structure QuotTold : Prop where
  div : DivTold
  short : ShortTold
  divides : DividesTold
  times : TimesTold
end Go.Proofs.Ytfijbocblmhdbaa
