/- A part. -/
import Derived.Test.YtipckjmgdghkiaaGreatDoorGNum
namespace Go.Proofs.YtipckjmgdghkiaaGreatDoor
open Go Go.RowKit
def zfl (w:World)(e:List Num)(N:Nat)(e':Ending)(W':World):Prop:=
 ∃r:Num,e'= .returned (.slice r.A r.n r.c)/\r.N=N/\r.n=lenL N/\Env w (r::e) W'
def zj1 (w:World):Prop:=∀(W:World) (e:List Num) (x y:Num),Env w e W->x∈e->y∈e->x.n<=10000->y.n<=10000->
 Calls Tryz.prog 153 #[.slice x.A x.n x.c,.slice y.A y.n y.c] W (zfl w e (Nat.gcd x.N y.N))
def zhb (w:World):Prop:=∀(W:World) (e:List Num) (x y:Num),Env w e W->x∈e->y∈e->x.n<=10000->y.n<=10000->
 Calls Tryz.prog 116 #[.slice x.A x.n x.c,.slice y.A y.n y.c] W fun e' W'=>
  ∃p q:Num,e'= .returned (.tuple #[.slice p.A p.n p.c,.slice q.A q.n q.c])/\p.N=x.N/Nat.gcd x.N y.N/\p.n=lenL (x.N/Nat.gcd x.N y.N)/\q.N=y.N/Nat.gcd x.N y.N/\q.n=lenL (y.N/Nat.gcd x.N y.N)/\Env w (p::q::e) W'
structure GcdTold (w:World):Prop where
 gcd:zj1 w
 reduce:zhb w
end Go.Proofs.YtipckjmgdghkiaaGreatDoor
