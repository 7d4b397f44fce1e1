/- Boxes of three cells. No function of the program. -/
import Derived.Test.YtipckjmgdghkiaaGreatDoorGSintA
import Derived.Test.YtipckjmgdghkiaaGreatDoorGFactG
namespace Go.Proofs.YtipckjmgdghkiaaGreatDoor
open Go Go.RowKit
def Box3 (W:World)(B:Nat)(t:TypeId)(a b c:Value):Prop:=W.heap[B]?=some (.cells #[a,b,c] t (0,0))
theorem Box3.new (W:World)(t:TypeId)(a b c:Value):Box3 (W.alloc (.cells #[a,b,c] t)) W.heap.size t a b c:=World.alloc_heap_new' W _
theorem Box3.lt {W:World}{B:Nat}{t:TypeId}{a b c:Value}(h:Box3 W B t a b c):B<W.heap.size:=(Array.getElem?_eq_some_iff.1 h).1
theorem Box3.cells {W:World}{B:Nat}{t:TypeId}{a b c:Value}(h:Box3 W B t a b c):W.cell? ⟨B,0,none⟩=some a/\W.cell? ⟨B,1,none⟩=some b/\W.cell? ⟨B,2,none⟩=some c/\W.frozen? ⟨B,0,none⟩=false/\W.frozen? ⟨B,1,none⟩=false/\W.frozen? ⟨B,2,none⟩=false:=by
 have h':W.heap[B]?=_:=h
 refine⟨?_,?_,?_,?_,?_,?_⟩ <;> simp[World.cell?,World.frozen?,h']
theorem Box3.below {W W':World}{B K:Nat}{t:TypeId}{a b c:Value}(h:Box3 W B t a b c)(hb:Below K W W')(hB:B<K):Box3 W' B t a b c:=(hb.block B hB).trans h
theorem Box3.kept {W W':World}{row:Option Nat}{B:Nat}{t:TypeId}{a b c:Value}(h:Box3 W B t a b c)(hg:W.grownBy W' row)(hne:some B≠row):Box3 W' B t a b c:=(hg.block B h.lt hne).trans h
theorem Box3.alloc {W:World}{B:Nat}{t:TypeId}{a b c:Value}(h:Box3 W B t a b c)(o:Obj):Box3 (W.alloc o) B t a b c:=(Below.heap_alloc W o B h.lt).trans h
theorem Box3.put {W:World}{B:Nat}{t:TypeId}{cs:Array Value}(h:W.heap[B]?=some (.cells cs t (0,0)))(i:Nat)(u:Value):(W.setCell ⟨B,i,none⟩ u).heap[B]?=some (.cells (cs.setIfInBounds i u) t (0,0)):=by
 obtain⟨hlt,hk⟩:=Array.getElem?_eq_some_iff.1 h
 show(W.heap.modify B _)[B]?=_
 rw[Array.getElem?_eq_getElem (by rw[Array.size_modify];exact hlt),Array.getElem_modify_self,hk]
 rfl
theorem Box3.set0 {W:World}{B:Nat}{t:TypeId}{a b c:Value}(u:Value)(h:Box3 W B t a b c):Box3 (W.setCell ⟨B,0,none⟩ u) B t u b c:=Box3.put h 0 u
theorem Box3.set1 {W:World}{B:Nat}{t:TypeId}{a b c:Value}(u:Value)(h:Box3 W B t a b c):Box3 (W.setCell ⟨B,1,none⟩ u) B t a u c:=Box3.put h 1 u
theorem Box3.set2 {W:World}{B:Nat}{t:TypeId}{a b c:Value}(u:Value)(h:Box3 W B t a b c):Box3 (W.setCell ⟨B,2,none⟩ u) B t a b u:=Box3.put h 2 u
theorem Box3.set {W:World}{B:Nat}{t:TypeId}{a b c:Value}(a' b' c':Value)(h:Box3 W B t a b c):Box3 (((W.setCell ⟨B,0,none⟩ a').setCell ⟨B,1,none⟩ b').setCell ⟨B,2,none⟩ c') B t a' b' c':=((h.set0 a').set1 b').set2 c'
theorem Env.setc {w W:World}{e:List Num}{g k:Nat}{a:Value}(h:Env w e W)(hg:w.heap.size<=g)(hc:W.cell? ⟨g,k,none⟩=some a)(ha:∀z:Int,a≠ .int .u32 z)(u:Value):Env w e (W.setCell ⟨g,k,none⟩ u):=
 ⟨h.1.setCell (p:=⟨g,k,none⟩) hg _,fun z hz=>⟨by
  rw[World.size_setCell]
  refine⟨(h.2 z hz).1.1,fun hn=>?_⟩
  obtain⟨ad,e1,hb,hcs⟩:=(h.2 z hz).1.2 hn
  refine⟨ad,e1,hb,fun j hj=>?_⟩
  rw[World.cell?_setCell_other _ _ _ _ (fun e2=>?_)]
  ·exact hcs j hj
  ·have h1:=hcs j hj
   rw[<-e2,hc]at h1
   injection h1 with h1
   exact ha _ h1,(h.2 z hz).2⟩⟩
theorem Env.box3 {w W:World}{e:List Num}{T:TypeId}{g n c n' c':Nat}{b:Bool}{A A':Option Addr}(h:Env w e W)(B:Box3 W g T (.bool b) (.slice A n c) (.slice A' n' c'))(hg:w.heap.size<=g)(u v z:Value):
  Env w e (((W.setCell ⟨g,0,none⟩ u).setCell ⟨g,1,none⟩ v).setCell ⟨g,2,none⟩ z):=
 ((h.setc hg B.cells.1 (by intro z e;cases e) u).setc hg (B.set0 u).cells.2.1 (by intro z e;cases e) v).setc hg ((B.set0 u).set1 v).cells.2.2.1 (by intro z e;cases e) z
section
variable {w W:World}{e:List Num}{x y:Num}
def zo5 (w:World)(e:List Num)(N:Nat)(e':Ending)(W':World):Prop:=
 ∃r:Num,e'= .returned (.slice r.A r.n r.c)/\r.N=N/\r.n=lenL N/\Env w (r::e) W'
theorem zbB {N:Nat}{e':Ending}{W':World}(h:Env w e W)(hg:Gives W N e' W')(hN:lenL N<=35184372087808):zo5 w e N e' W':=by
 obtain⟨r,h1,h2,h3,h4,-⟩:=zbh h hg hN
 exact⟨r,h1,h2,h3,h4⟩
def RepN (N:Nat)(v:Value)(V:World):Prop:=∃r:Num,v= .slice r.A r.n r.c/\r.N=N/\r.n=lenL N/\r.ok V V.heap.size
theorem RepN.keep {N:Nat}{v:Value}{V V':World}(h:RepN N v V)(hb:Below V.heap.size V V'):RepN N v V':=by
 obtain⟨r,h1,h2,h3,h4⟩:=h
 exact⟨r,h1,h2,h3,h4.later hb⟩
end
theorem zi1 {a:Act}(l:List Value)(hs:a.tmps.size=l.length)(hd:a.defers=[])(h:∀i,i<l.length->a.tmps.getD i undef=l.getD i undef):a= { tmps:=l.toArray,defers:=[] }:=by
 obtain⟨⟨m⟩,d⟩:=a
 simp only at hd hs
 subst hd
 have:m=l:=by
  refine List.ext_getElem (by simpa using hs) fun i h1 h2=>?_
  have:=h i h2
  simp only[Array.getD,List.getD]at this
  simp only[List.size_toArray,h1,dite_true,List.getElem?_eq_getElem h2,Option.getD_some]at this
  exact this
 rw[this]
section
variable {ops:Array Oper}{Q:Exit -> Act -> World -> Prop}{C:World -> Prop}{a:Act}{V:World}{i:Nat}{t t1 t2:Tmp}{o:Oper}{v1 v2:Value}{N M:Nat}
theorem zbq {f:FuncId}(hop:∃ts,o.op= .call { callee:= .value (.func f),args:= #[.tmp t1],argTypes:=ts })(h1:a.tmps[t1]?.getD undef=v1)(en:∀args w,(callFunc f args).run Tryz.prog w= .ok (.enter f args) w):
  (execOp a.eval o).run Tryz.prog V= .ok (.enter f #[v1]) V:=by
 obtain⟨dst,op,ty,pos,after,guard⟩:=o
 obtain⟨ts,hop⟩:=hop
 simp only at hop
 subst hop
 have:=en #[v1] V
 go_simp
theorem zdR {f:FuncId}(hop:∃ts,o.op= .call { callee:= .value (.func f),args:= #[.tmp t1,.tmp t2],argTypes:=ts })(h1:a.tmps[t1]?.getD undef=v1)(h2:a.tmps[t2]?.getD undef=v2)(en:∀args w,(callFunc f args).run Tryz.prog w= .ok (.enter f args) w):
  (execOp a.eval o).run Tryz.prog V= .ok (.enter f #[v1,v2]) V:=by
 obtain⟨dst,op,ty,pos,after,guard⟩:=o
 obtain⟨ts,hop⟩:=hop
 simp only at hop
 subst hop
 have:=en #[v1,v2] V
 go_simp
theorem zns {f:FuncId}(hop:∃ts,o.op= .call { callee:= .value (.func f),args:= #[.const v1],argTypes:=ts })(en:∀args w,(callFunc f args).run Tryz.prog w= .ok (.enter f args) w):
  (execOp a.eval o).run Tryz.prog V= .ok (.enter f #[v1]) V:=by
 obtain⟨dst,op,ty,pos,after,guard⟩:=o
 obtain⟨ts,hop⟩:=hop
 simp only at hop
 subst hop
 have:=en #[v1] V
 go_simp
def RepOne (N:Nat)(v:Value)(V:World):Prop:=∃r:Num,v= .slice r.A 1 1/\r.n=1/\r.c=1/\r.N=N/\r.ok V V.heap.size
theorem RepOne.keep {v:Value}{V V':World}(h:RepOne N v V)(hb:Below V.heap.size V V'):RepOne N v V':=by
 obtain⟨r,h1,h2,h3,h4,h5⟩:=h
 exact⟨r,h1,h2,h3,h4,h5.later hb⟩
theorem RepOne.num {v:Value}{V:World}(h:RepOne N v V):∃r:Num,v= .slice r.A r.n r.c/\r.n=1/\r.N=N/\r.ok V V.heap.size:=by
 obtain⟨r,h1,h2,h3,h4,h5⟩:=h
 exact⟨r,by rw[h1,h2,h3],h2,h4,h5⟩
def RepPair (N M:Nat)(v:Value)(V:World):Prop:=∃(g:Nat) (x y:Num),v= .slice (some ⟨g,0,none⟩) 2 2/\V.heap[g]?=some (.cells #[.slice x.A x.n x.c,.slice y.A y.n y.c] 23 (0,0))/\x.N=N/\x.n=lenL N/\x.ok V V.heap.size/\y.N=M/\y.n=lenL M/\y.ok V V.heap.size
theorem RepPair.keep {v:Value}{V V':World}(h:RepPair N M v V)(hb:Below V.heap.size V V'):RepPair N M v V':=by
 obtain⟨g,x,y,h1,h2,h3,h4,h5,h6,h7,h8⟩:=h
 exact⟨g,x,y,h1,(hb.block g (Array.getElem?_eq_some_iff.1 h2).1).trans h2,h3,h4,h5.later hb,h6,h7,h8.later hb⟩
end
def zf9 (l:List Num):List Value:=l.map fun x=> .slice x.A x.n x.c
theorem zjX {W:World}{r b:Nat}{cs:Array Value}{T:TypeId}{fr:Nat×Nat}(hb:W.heap[b]?=some (.cells cs T fr))(hr:∃o:Obj,W.heap[r]?=some o/\o.isCells=false):b≠r:=by
 rintro rfl
 obtain⟨o,ho,hc⟩:=hr
 rw[hb]at ho
 cases ho
 cases hc
theorem zgA {W W':World}{base:Nat}{e:TypeId}{size k:Nat}{v:Value}{xs:List Value}{row:Option Nat}(h:W.ownsRow base e size v k xs)(hg:W.grownBy W' row)(hrow:∀r,row=some r->∃o:Obj,W.heap[r]?=some o/\o.isCells=false):W'.ownsRow base e size v k xs:=by
 refine h.kept hg ?_
 rcases h.2 with⟨rfl,_⟩|⟨g,cap,cur,rfl,_,hgg,_⟩
 ·exact .inl rfl
 ·exact .inr fun e=>zjX hgg (hrow g e.symm) rfl
theorem zdB {B:Nat}{W W':World}{row:Option Nat}(hg:W.grownBy W' row)(hrow:∀j,row=some j->∃cs T fr,W.heap[j]?=some (.cells cs T fr)):KeepsFrom B W W':=
 ⟨hg.size,fun k o _ hk ho=>(hg.block k (Array.getElem?_eq_some_iff.1 hk).1 (fun e=>by
  obtain⟨cs,T,fr,h⟩:=hrow k e.symm
  rw[h]at hk
  cases hk
  cases ho)).trans hk⟩
theorem zfe {W:World}{base:Nat}{e:TypeId}{size k:Nat}{v:Value}{xs:List Value}(h:W.ownsRow base e size v k xs):∀j,v.ownBlock=some j->∃cs T fr,W.heap[j]?=some (.cells cs T fr):=by
 intro j hj
 rcases h.2 with⟨rfl,_⟩|⟨g,cap,cur,rfl,_,hgg,_⟩
 ·cases hj
 ·simp only[Value.ownBlock,Option.some.injEq]at hj
  subst hj
  exact⟨_,_,_,hgg⟩
theorem znt:(Tryz.prog.info? 23).map (fun i=>(i.zero,i.size,i.bytes))=some (some (.slice none 0 0),1,24):=by kernel_rfl
theorem zha {W:World}{base g:Nat}{v:Value}{ls:List Num}(h:W.ownsRow base 23 1 v ls.length (zf9 ls)) (hb:base<=W.heap.size) (hl:ls.length<=1000000) (x:Num) (hg:W.heap.size=g) (k:Nat):
  ∃v' WC,(Builtin.append_ #[159,159] 159 #[v,.slice (some ⟨g,0,none⟩) 1 1]).run Tryz.prog ((W.drewN k).alloc (.cells #[.slice x.A x.n x.c] 23))= .ok v' WC/\WC.ownsRow base 23 1 v' (ls++[x]).length (zf9 (ls++[x]))/\
   W.grownBy WC v.ownBlock/\(v'.ownBlock=v.ownBlock\/ ∃j,v'.ownBlock=some j/\W.heap.size<=j):=by
 subst hg
 obtain⟨i0,hi,hz0,hz1,hz2⟩:=info_parts znt
 have h':((W.drewN k).alloc (.cells #[.slice x.A x.n x.c] 23)).ownsRow base 23 1 v ls.length (zf9 ls):=World.ownsRow.alloc (w:=W.drewN k) h _
 obtain⟨v',WC,h1,h2,h3,-,h4⟩:=run_append_own_at (P:=Tryz.prog) (w:=(W.drewN k).alloc (.cells #[.slice x.A x.n x.c] 23)) base 159 159 23 i0 (.slice none 0 0) 1 24 Tryz.underlying159 hi hz0 hz1 hz2 rfl (by decide) v ls.length (zf9 ls) h'
  ⟨W.heap.size,0,none⟩ 1 1 [.slice x.A x.n x.c] rfl (by
   intro j u hj
   have hc:=World.alloc_heap_new' (W.drewN k) (.cells #[.slice x.A x.n x.c] 23)
   match j,hj with
   |0,hj=>rw[zaW];simp only[World.cell?];rw[show(W.drewN k).heap.size=W.heap.size from rfl]at hc;rw[hc];exact hj) (by simp[Value.oneCell']) (by simp only[maxLen];omega) (by omega) (by rw[World.size_alloc];exact zv2 hb (Nat.le_succ _))
 refine⟨v',WC,h1,?_,((zaJ W k v.ownBlock).trans (World.grownBy_alloc _ _ _)).trans h3,?_⟩
 ·rw[List.length_append,show zf9 (ls++[x])=zf9 ls++[.slice x.A x.n x.c] by simp[zf9]]
  exact h2
 ·rcases h4 with h4|h4
  ·exact .inl h4
  ·exact .inr ⟨_,h4,by rw[World.size_alloc];exact Nat.le_succ _⟩
theorem zes {v:Value}{W:World}{base:Nat}{e:TypeId}{k:Nat}{xs:List Value}(h:W.ownsRow base e 1 v k xs){b:Nat}(hb:b<base):v.ownBlock=none\/v.ownBlock≠some b:=by
 rcases h.2 with⟨rfl,_⟩|⟨g,cap,cur,rfl,hg,_⟩
 ·exact .inl rfl
 ·exact .inr (by simp only[Value.ownBlock];intro e;injection e;omega)
theorem zo6 {v:Value}{W:World}{base:Nat}{e:TypeId}{k:Nat}{xs:List Value}(h:W.ownsRow base e 1 v k xs){b:Nat}(hb:b<base):some b≠v.ownBlock:=fun e2=>by
 rcases zes h hb with e|e
 ·rw[<-e2]at e;cases e
 ·exact e e2.symm
theorem zii {v:Value}{W:World}{base:Nat}{e:TypeId}{k:Nat}{xs:List Value}(h:W.ownsRow base e 1 v k xs):∃A' n' c',v= .slice A' n' c':=by
 rcases h.2 with⟨rfl,_⟩|⟨g,cap,cur,rfl,_⟩
 ·exact⟨_,_,_,rfl⟩
 ·exact⟨_,_,_,rfl⟩
theorem zo7 {v:Value}{W:World}{base:Nat}{e:TypeId}{k:Nat}{xs:List Value}(h:W.ownsRow base e 1 v k xs):∀b,v.ownBlock=some b->b<W.heap.size:=fun b hb=>(h.lt b hb).2
theorem zd6 {W WC:World}{base b:Nat}{e T:TypeId}{k:Nat}{v:Value}{xs:List Value}{cs:Array Value}(h:W.ownsRow base e 1 v k xs)(hG:W.grownBy WC v.ownBlock)(hb:W.heap[b]?=some (.cells cs T (0,0)))(hT:T≠e):WC.heap[b]?=some (.cells cs T (0,0)):=by
 refine(hG.block b (Array.getElem?_eq_some_iff.1 hb).1 (fun he=>?_)).trans hb
 rcases h.2 with⟨rfl,_⟩|⟨g,cap,cur,rfl,hg,hgg,_⟩
 ·cases he
 ·simp only[Value.ownBlock,Option.some.injEq]at he
  subst he
  rw[hb]at hgg
  cases hgg
  exact hT rfl
end Go.Proofs.YtipckjmgdghkiaaGreatDoor
