/- A part. -/
import Derived.Test.YtdeelcoipmdoiaaGreatDoorGNum
namespace Go.Proofs.YtdeelcoipmdoiaaGreatDoor
open Go Go.RowKit
def ze9 (w:World)(e:List Num)(N:Nat)(e':Ending)(W':World):Prop:=
 ∃r:Num,e'= .returned (.slice r.A r.n r.c)∧r.N=N∧r.n=lenL N∧Env w (r::e) W'
def zjP (w:World):Prop:=∀(W:World) (e:List Num) (x y:Num),Env w e W→x∈e→y∈e→x.n≤10000→y.n≤10000→
 Calls Tryz.prog 120 #[.slice x.A x.n x.c,.slice y.A y.n y.c] W (ze9 w e (Nat.gcd x.N y.N))
def zgY (w:World):Prop:=∀(W:World) (e:List Num) (x y:Num),Env w e W→x∈e→y∈e→x.n≤10000→y.n≤10000→
 Calls Tryz.prog 104 #[.slice x.A x.n x.c,.slice y.A y.n y.c] W fun e' W'=>
  ∃p q:Num,e'= .returned (.tuple #[.slice p.A p.n p.c,.slice q.A q.n q.c])∧p.N=x.N/Nat.gcd x.N y.N∧p.n=lenL (x.N/Nat.gcd x.N y.N)∧q.N=y.N/Nat.gcd x.N y.N∧q.n=lenL (y.N/Nat.gcd x.N y.N)∧Env w (p::q::e) W'
structure GcdTold (w:World):Prop where
 gcd:zjP w
 reduce:zgY w
end Go.Proofs.YtdeelcoipmdoiaaGreatDoor
