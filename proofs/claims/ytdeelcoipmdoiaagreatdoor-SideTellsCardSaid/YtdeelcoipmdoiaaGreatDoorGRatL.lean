/- A part. -/
import Derived.Test.YtdeelcoipmdoiaaGreatDoorGPOps
namespace Go.Proofs.YtdeelcoipmdoiaaGreatDoor
open Go Go.RowKit
section
variable {w W:World}{e:List Num}{x y x' y':Num}
end
section
variable {v v' v1 v2 v3:Value}{V V':World}{K K' N M:Nat}{q q' q1 q2:Rat}{Z Z':Int}
def GL (ps:List (Bool×Num×Num))(v:Value)(V:World):Prop:=∃(A:Option Addr) (c:Nat),v= .slice A ps.length c∧QRds V V.heap.size A ps∧ps.length≤100000000000000
theorem GL.keep {ps:List (Bool×Num×Num)}(h:GL ps v V)(hb:Below V.heap.size V V'):GL ps v V':=by
 obtain⟨A,c,h1,h2,h3⟩:=h;exact⟨A,c,h1,(h2.below hb).more hb.size,h3⟩
theorem zmP {ps:List (Bool×Num×Num)}{G:Bool}(h:GL ps v V)(hG:zc7 ps=G):Calls Tryz.prog 8 #[v] V (zaj V fun v _=>v= .bool G):=by
 obtain⟨A,c,rfl,hR,hl⟩:=h
 rw[←hG]
 exact zuk (zlV V _ A c ps hR hl)
section
variable {ls:List (Tmp × Value)}{a:Act}{o:Oper}{t1 t2 t3:Tmp}{b b' b'':Bool}{x y x' y' x'' y'':Num}
theorem zkI (hop:o.op= .buildSlice 52 3 #[(0,.tmp t1),(1,.tmp t2),(2,.tmp t3)]) (h1:a.tmps.getD t1 undef= .agg #[.bool b,.slice x.A x.n x.c,.slice y.A y.n y.c]) (h2:a.tmps.getD t2 undef= .agg #[.bool b',.slice x'.A x'.n x'.c,.slice y'.A y'.n y'.c]) (h3:a.tmps.getD t3 undef= .agg #[.bool b'',.slice x''.A x''.n x''.c,.slice y''.A y''.n y''.c]) (o1:x.ok V V.heap.size) (o2:y.ok V V.heap.size) (o3:x'.ok V V.heap.size) (o4:y'.ok V V.heap.size) (o5:x''.ok V V.heap.size) (o6:y''.ok V V.heap.size):zfI o a V (GL [(b,x,y),(b',x',y'),(b'',x'',y'')]):=by
 refine⟨.slice (some ⟨V.heap.size,0,none⟩) 3 3,V.alloc (.cells #[.bool b,.slice x.A x.n x.c,.slice y.A y.n y.c,.bool b',.slice x'.A x'.n x'.c,.slice y'.A y'.n y'.c,.bool b'',.slice x''.A x''.n x''.c,.slice y''.A y''.n y''.c] 27),?_,⟨_,3,rfl,QRds.lit (fun k hk=>?_) (by simp[o1,o2,o3,o4,o5,o6]),by simp⟩,zu2.alloc zu1 _⟩
 ·rw[zaf]at h1 h2 h3
  obtain⟨dst,op,ty,pos,after,guard⟩:=o
  simp only at hop
  subst hop
  go_simp
 ·match k,hk with
  |0,_=>exact⟨rfl,rfl,rfl⟩
  |1,_=>exact⟨rfl,rfl,rfl⟩
  |2,_=>exact⟨rfl,rfl,rfl⟩
end
end
section
variable {v v' v1 v2 v3:Value}{V V':World}{K K' N M:Nat}{q q' q0 q1 q2:Rat}{Z Z':Int}
structure AddMul (V0:World):Prop where
 mul2:∀ {V:World} {K:Nat} {q1 q2:Rat} {v:Value},TT V→Below V0.heap.size V0 V→QRow K [q1,q2] v V→K≤1000→Calls Tryz.prog 65 #[v] V (zaj V (QT (2*max K 1) (q1*q2)))
theorem QV.sml {u:Value}(h:QV K q u v V)(hs:Sm K' q):QV K' q u v V:=by
 obtain⟨b,x,y,h1,h2,h3,h4,h5⟩:=h
 exact⟨b,x,y,h1,h2,(zcu h2 hs).1,(zcu h2 hs).2,h5⟩
end
end Go.Proofs.YtdeelcoipmdoiaaGreatDoor
