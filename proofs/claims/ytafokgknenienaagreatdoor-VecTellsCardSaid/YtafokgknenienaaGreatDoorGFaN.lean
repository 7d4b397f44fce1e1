/- A part. -/
import Derived.Test.YtafokgknenienaaGreatDoorGFactG
import Derived.Test.YtafokgknenienaaGreatDoorGNum
namespace Go.Proofs.YtafokgknenienaaGreatDoor
open Go Go.RowKit
section
variable {w W:World}{e:List Num}{x y:Num}
def zna (w:World)(e:List Num)(N:Nat)(e':Ending)(W':World):Prop:=
 ∃r:Num,e'= .returned (.slice r.A r.n r.c)∧r.N=N∧r.n=lenL N∧Env w (r::e) W'
theorem zbq {N:Nat}{e':Ending}{W':World}(h:Env w e W)(hg:Gives W N e' W')(hN:lenL N≤35184372087808):zna w e N e' W':=by
 obtain⟨r,h1,h2,h3,h4,-⟩:=zbd h hg hN
 exact⟨r,h1,h2,h3,h4⟩
def RepN (N:Nat)(v:Value)(V:World):Prop:=∃r:Num,v= .slice r.A r.n r.c∧r.N=N∧r.n=lenL N∧r.ok V V.heap.size
theorem RepN.keep {N:Nat}{v:Value}{V V':World}(h:RepN N v V)(hb:Below V.heap.size V V'):RepN N v V':=by
 obtain⟨r,h1,h2,h3,h4⟩:=h
 exact⟨r,h1,h2,h3,h4.later hb⟩
end
theorem zhR {a:Act}(l:List Value)(hs:a.tmps.size=l.length)(hd:a.defers=[])(h:∀i,i<l.length→a.tmps.getD i undef=l.getD i undef):a= { tmps:=l.toArray,defers:=[] }:=by
 obtain⟨⟨m⟩,d⟩:=a
 simp only at hd hs
 subst hd
 have:m=l:=by
  refine List.ext_getElem (by simpa using hs) fun i h1 h2=>?_
  have:=h i h2
  simp only[Array.getD,List.getD]at this
  simp only[List.size_toArray,h1,dite_true,List.getElem?_eq_getElem h2,Option.getD_some]at this
  exact this
 rw[this]
section
variable {ops:Array Oper}{Q:Exit → Act → World → Prop}{C:World → Prop}{a:Act}{V:World}{i:Nat}{t t1 t2:Tmp}{o:Oper}{v1 v2:Value}{N M:Nat}
theorem zbl {f:FuncId}(hop:∃ts,o.op= .call { callee:= .value (.func f),args:= #[.tmp t1],argTypes:=ts })(h1:a.tmps[t1]?.getD undef=v1)(en:∀args w,(callFunc f args).run Tryz.prog w= .ok (.enter f args) w):
  (execOp a.eval o).run Tryz.prog V= .ok (.enter f #[v1]) V:=by
 obtain⟨dst,op,ty,pos,after,guard⟩:=o
 obtain⟨ts,hop⟩:=hop
 simp only at hop
 subst hop
 have:=en #[v1] V
 go_simp
theorem zdh {f:FuncId}(hop:∃ts,o.op= .call { callee:= .value (.func f),args:= #[.tmp t1,.tmp t2],argTypes:=ts })(h1:a.tmps[t1]?.getD undef=v1)(h2:a.tmps[t2]?.getD undef=v2)(en:∀args w,(callFunc f args).run Tryz.prog w= .ok (.enter f args) w):
  (execOp a.eval o).run Tryz.prog V= .ok (.enter f #[v1,v2]) V:=by
 obtain⟨dst,op,ty,pos,after,guard⟩:=o
 obtain⟨ts,hop⟩:=hop
 simp only at hop
 subst hop
 have:=en #[v1,v2] V
 go_simp
theorem zlI {f:FuncId}(hop:∃ts,o.op= .call { callee:= .value (.func f),args:= #[.const v1],argTypes:=ts })(en:∀args w,(callFunc f args).run Tryz.prog w= .ok (.enter f args) w):
  (execOp a.eval o).run Tryz.prog V= .ok (.enter f #[v1]) V:=by
 obtain⟨dst,op,ty,pos,after,guard⟩:=o
 obtain⟨ts,hop⟩:=hop
 simp only at hop
 subst hop
 have:=en #[v1] V
 go_simp
def RepOne (N:Nat)(v:Value)(V:World):Prop:=∃r:Num,v= .slice r.A 1 1∧r.n=1∧r.c=1∧r.N=N∧r.ok V V.heap.size
theorem RepOne.keep {v:Value}{V V':World}(h:RepOne N v V)(hb:Below V.heap.size V V'):RepOne N v V':=by
 obtain⟨r,h1,h2,h3,h4,h5⟩:=h
 exact⟨r,h1,h2,h3,h4,h5.later hb⟩
theorem RepOne.num {v:Value}{V:World}(h:RepOne N v V):∃r:Num,v= .slice r.A r.n r.c∧r.n=1∧r.N=N∧r.ok V V.heap.size:=by
 obtain⟨r,h1,h2,h3,h4,h5⟩:=h
 exact⟨r,by rw[h1,h2,h3],h2,h4,h5⟩
def RepPair (N M:Nat)(v:Value)(V:World):Prop:=∃(g:Nat) (x y:Num),v= .slice (some ⟨g,0,none⟩) 2 2∧V.heap[g]?=some (.cells #[.slice x.A x.n x.c,.slice y.A y.n y.c] 23 (0,0))∧x.N=N∧x.n=lenL N∧x.ok V V.heap.size∧y.N=M∧y.n=lenL M∧y.ok V V.heap.size
theorem RepPair.keep {v:Value}{V V':World}(h:RepPair N M v V)(hb:Below V.heap.size V V'):RepPair N M v V':=by
 obtain⟨g,x,y,h1,h2,h3,h4,h5,h6,h7,h8⟩:=h
 exact⟨g,x,y,h1,(hb.block g (Array.getElem?_eq_some_iff.1 h2).1).trans h2,h3,h4,h5.later hb,h6,h7,h8.later hb⟩
end
end Go.Proofs.YtafokgknenienaaGreatDoor
