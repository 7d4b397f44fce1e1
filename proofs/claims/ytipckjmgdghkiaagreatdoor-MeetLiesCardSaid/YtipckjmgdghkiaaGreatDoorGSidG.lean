/- A part. -/
import Derived.Test.YtipckjmgdghkiaaGreatDoorGVVecB
import Derived.Test.YtipckjmgdghkiaaGreatDoorGSidT
namespace Go.Proofs.YtipckjmgdghkiaaGreatDoor
open Go Go.RowKit
section
variable {q1 q1' q2 q2' q3 q3':Rat}
structure SmS (q1 q1' q2 q2' q3 q3':Rat):Prop where
 d1:Sm 349 (q2 - q1)
 d1':Sm 349 (q2' - q1')
 d2:Sm 349 (q3 - q1)
 d2':Sm 349 (q3' - q1')
 p1:Sm 349 ((q2 - q1)*(q3' - q1'))
 p2:Sm 349 ((q2' - q1')*(q3 - q1))
 c:Sm 349 ((q2 - q1)*(q3' - q1') - (q2' - q1')*(q3 - q1))
end
section
variable {V:World}{a:Act}{o:Oper}{t1 t2:Tmp}{A:Option Addr}{c k hi:Nat}{l:List PEl}
end
theorem PRds.bounds {V:World}{hi:Nat}{A:Option Addr}{l:List PEl}{k:Nat}{b b':Bool}{x y x' y':Num}(h:PRds V hi A l)(hk:k<l.length)(hel:l[k]=(b,x,y,b',x',y')):(x.n<=35184372087808/\y.n<=35184372087808)/\x'.n<=35184372087808/\y'.n<=35184372087808:=by
 obtain⟨⟨h1,h2⟩,h3,h4⟩:=h.oks hk hel
 exact⟨⟨h1.2.2.2,h2.2.2.2⟩,h3.2.2.2,h4.2.2.2⟩
section
variable {a:Act}{V:World}{o:Oper}{t1 t2 t3 t4:Tmp}{k:Nat}
end
section
variable {b:Bool}{x y:Num}{q a a' c c' p p':Rat}{V:World}{k0 k0' k1 k1' k2 k2':Nat}
theorem smq (h:qOf b x.N y.N=q)(ox:x.ok V V.heap.size)(oy:y.ok V V.heap.size):Sm (max 1 (x.n+y.n)) q:=by
 have:=Q1.sm (V:=V) (K:=x.n+y.n) ⟨b,x,y,rfl,h,by omega,by omega,ox,oy⟩
 rwa [Nat.max_comm]at this
def sX (p:PEl):Nat:=max 1 (p.2.1.n+p.2.2.1.n)
def sY (p:PEl):Nat:=max 1 (p.2.2.2.2.1.n+p.2.2.2.2.2.n)
theorem okP.sm {p:PEl}(h:okP V p):Sm (sX p) (pv p).1/\Sm (sY p) (pv p).2:=⟨smq rfl h.1.1 h.1.2,smq rfl h.2.1 h.2.2⟩
end
def IEl (z:Int)(v:Value)(V:World):Prop:=∃p:Addr,v= .pointer (some p)/\p.block<V.heap.size/\V.cell? p=some (.int .i64 z)
section
variable {V V':World}{v v1:Value}{z:Int}{L:List Int}{a:Act}{o:Oper}{t1:Tmp}
theorem IEl.keep (h:IEl z v V)(hb:Below V.heap.size V V'):IEl z v V':=by
 obtain⟨p,h1,h2,h3⟩:=h
 exact⟨p,h1,zv3 h2 hb.size,(hb.cell h2).trans h3⟩
instance:Keeps (IEl z):=⟨fun h hb=>IEl.keep h hb⟩
end
section
variable {V:World}{v:Value}{ps:List PEl}{p0 p1 p2:PEl}{K:Nat}
theorem GP.oks (h:GP ps v V):∀p∈ps,okP V p:=by
 obtain⟨A,c,-,hR,-⟩:=h
 exact fun p hp=>hR.mem hp
end
section
variable {a a' b b' p p' d d' t:Rat}
theorem via {P Q:Prop}(h:P)(k:P->Q):Q:=k h
end
section
variable {a:Act}{V:World}{o:Oper}{t1 t2 t3 t4:Tmp}{b0 d0 b1 d1 b2 d2 b3 d3:Bool}{x0 y0 z0 w0 x1 y1 z1 w1 x2 y2 z2 w2 x3 y3 z3 w3:Num}
end
end Go.Proofs.YtipckjmgdghkiaaGreatDoor
