/- A part. -/
import Derived.Test.YtipckjmgdghkiaaGreatDoorGPOps
namespace Go.Proofs.YtipckjmgdghkiaaGreatDoor
open Go Go.RowKit
section
variable {w W:World}{e:List Num}{x y x' y':Num}
end
section
variable {v v' v1 v2 v3:Value}{V V':World}{K K' N M:Nat}{q q' q1 q2:Rat}{Z Z':Int}
theorem zqV (h:QT K q v V)(h':QT K' q' v' V)(he:q=q'):Calls Tryz.prog 14 #[v,v'] V (zaf V fun v _=>v= .bool true):=by
 subst he
 obtain⟨b,x,y,rfl,hq,-,-,o1,o2⟩:=h
 obtain⟨b',x',y',rfl,hq',-,-,o1',o2'⟩:=h'
 exact gv (zqT (e:=[x,y,x',y']) (Env.start (by simp[o1,o2,o1',o2'])) (by simp) (by simp) (by simp) (by simp) hq hq')
def GL (ps:List (Bool×Num×Num))(v:Value)(V:World):Prop:=∃(A:Option Addr) (c:Nat),v= .slice A ps.length c/\QRds V V.heap.size A ps/\ps.length<=100000000000000
theorem GL.keep {ps:List (Bool×Num×Num)}(h:GL ps v V)(hb:Below V.heap.size V V'):GL ps v V':=by
 obtain⟨A,c,h1,h2,h3⟩:=h;exact⟨A,c,h1,(h2.below hb).more hb.size,h3⟩
section
variable {ls:List (Tmp × Value)}{a:Act}{o:Oper}{t1 t2 t3:Tmp}{b b' b'':Bool}{x y x' y' x'' y'':Num}
end
end
section
variable {v v' v1 v2 v3:Value}{V V':World}{K K' N M:Nat}{q q' q0 q1 q2:Rat}{Z Z':Int}
structure AddMul (V0:World):Prop where
 add2:∀ {V:World} {K:Nat} {q1 q2:Rat} {v:Value},TT V->Below V0.heap.size V0 V->QRow K [q1,q2] v V->K<=1000->Calls Tryz.prog 39 #[v] V (zaf V (QT (2*max K 1+1) (q1+q2)))
 mul2:∀ {V:World} {K:Nat} {q1 q2:Rat} {v:Value},TT V->Below V0.heap.size V0 V->QRow K [q1,q2] v V->K<=1000->Calls Tryz.prog 40 #[v] V (zaf V (QT (2*max K 1) (q1*q2)))
theorem QV.sml {u:Value}(h:QV K q u v V)(hs:Sm K' q):QV K' q u v V:=by
 obtain⟨b,x,y,h1,h2,h3,h4,h5⟩:=h
 exact⟨b,x,y,h1,h2,(zb0 h2 hs).1,(zb0 h2 hs).2,h5⟩
theorem zud (h:q=0):erq q=30:=(zm1 h).symm
theorem zsw (h:q≠0):erq q=0:=(zqf h).symm
end
end Go.Proofs.YtipckjmgdghkiaaGreatDoor
