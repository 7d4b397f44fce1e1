/- A part. -/
import Derived.Test.YtdeelcoipmdoiaaGreatDoorGPOps
namespace Go.Proofs.YtdeelcoipmdoiaaGreatDoor
open Go Go.RowKit
section
variable {w W:World}{e:List Num}{x y x' y':Num}
end
section
variable {v v' v1 v2 v3:Value}{V V':World}{K K' N M:Nat}{q q' q1 q2:Rat}{Z Z':Int}
def GL (ps:List (Bool×Num×Num))(v:Value)(V:World):Prop:=∃(A:Option Addr) (c:Nat),v= .slice A ps.length c∧QRds V V.heap.size A ps∧ps.length≤100000000000000
theorem GL.keep {ps:List (Bool×Num×Num)}(h:GL ps v V)(hb:Below V.heap.size V V'):GL ps v V':=by
 obtain⟨A,c,h1,h2,h3⟩:=h;exact⟨A,c,h1,(h2.below hb).more hb.size,h3⟩
theorem zl0 {ps:List (Bool×Num×Num)}{G:Bool}(h:GL ps v V)(hG:zdc ps=G):Calls Tryz.prog 8 #[v] V (zal V fun v _=>v= .bool G):=by
 obtain⟨A,c,rfl,hR,hl⟩:=h
 rw[←hG]
 exact ztk (zk2 V _ A c ps hR hl)
section
variable {ls:List (Tmp × Value)}{a:Act}{o:Oper}{t1 t2 t3:Tmp}{b b' b'':Bool}{x y x' y' x'' y'':Num}
end
end
section
variable {v v' v1 v2 v3:Value}{V V':World}{K K' N M:Nat}{q q' q0 q1 q2:Rat}{Z Z':Int}
structure AddMul (V0:World):Prop where
 mul2:∀ {V:World} {K:Nat} {q1 q2:Rat} {v:Value},TT V→Below V0.heap.size V0 V→QRow K [q1,q2] v V→K≤1000→Calls Tryz.prog 65 #[v] V (zal V (QT (2*max K 1) (q1*q2)))
theorem QV.sml {u:Value}(h:QV K q u v V)(hs:Sm K' q):QV K' q u v V:=by
 obtain⟨b,x,y,h1,h2,h3,h4,h5⟩:=h
 exact⟨b,x,y,h1,h2,(zcj h2 hs).1,(zcj h2 hs).2,h5⟩
end
end Go.Proofs.YtdeelcoipmdoiaaGreatDoor
