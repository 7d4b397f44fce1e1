/- A part. -/
import Derived.Test.YtipckjmgdghkiaaGreatDoorGNum
namespace Go.Proofs.YtipckjmgdghkiaaGreatDoor
open Go Go.RowKit
def zOf (b:Bool)(N:Nat):Int:=if b then -(N:Int)else N
theorem zbQ (N:Nat):zOf false N=N:=rfl
theorem zce (N:Nat):zOf true N= -(N:Int):=rfl
theorem zbu (b:Bool)(N:Nat):(zOf b N).natAbs=N:=by cases b <;> simp[zOf]
theorem zc7 (Z:Int):zOf (decide (Z<0)) Z.natAbs=Z:=by
 unfold zOf
 by_cases h:Z<0
 ·rw[if_pos (by simpa using h)];omega
 ·rw[if_neg (by simpa using h)];omega
def Zs (w:World)(e:List Num)(Z:Int)(e':Ending)(W':World):Prop:=
 ∃r:Num,e'= .returned (.agg #[.bool (decide (Z<0)),.slice r.A r.n r.c])/\r.N=Z.natAbs/\r.n=lenL Z.natAbs/\Env w (r::e) W'
theorem Env.put2 {w W W1:World}{e:List Num}{r:Num}{lo g:Nat}(h:Env w e W)(hb:Below W.heap.size W W1)(hF:Fr W1 lo W1.heap.size r.A r.n r.N)(hr:r.n<=r.c/\r.c<=maxLen/\r.n<=35184372087808)(hlo:g<lo)(hg:W.heap.size<=g)(v v':Value):
  Env w (r::e) ((W1.setCell ⟨g,0,none⟩ v).setCell ⟨g,1,none⟩ v'):=by
 have h2:=(hb.setCell (p:=⟨g,0,none⟩) hg v).setCell (p:=⟨g,1,none⟩) hg v'
 refine(h.step h2).add ⟨?_,hr⟩
 exact(((hF.setCell hlo v).setCell hlo v').rd).more (by simp)
theorem Env.over {w W0 W:World}{e:List Num}(h:Env W0 e W)(hb:Below w.heap.size w W0):Env w e W:=⟨hb.trans (h.1.mono hb.size),h.2⟩
theorem Env.here {w W:World}{e:List Num}(h:Env w e W):Env W e W:=Env.start h.2
def Box2 (W:World)(B:Nat)(t:TypeId)(a b:Value):Prop:=W.heap[B]?=some (.cells #[a,b] t (0,0))
theorem Box2.new (W:World)(t:TypeId)(a b:Value):Box2 (W.alloc (.cells #[a,b] t)) W.heap.size t a b:=World.alloc_heap_new' W _
theorem Box2.lt {W:World}{B:Nat}{t:TypeId}{a b:Value}(h:Box2 W B t a b):B<W.heap.size:=(Array.getElem?_eq_some_iff.1 h).1
theorem Box2.cells {W:World}{B:Nat}{t:TypeId}{a b:Value}(h:Box2 W B t a b):W.cell? ⟨B,0,none⟩=some a/\W.cell? ⟨B,1,none⟩=some b/\W.frozen? ⟨B,0,none⟩=false/\W.frozen? ⟨B,1,none⟩=false:=by
 have h':W.heap[B]?=_:=h
 refine⟨?_,?_,?_,?_⟩ <;> simp[World.cell?,World.frozen?,h']
theorem Box2.below {W W':World}{B K:Nat}{t:TypeId}{a b:Value}(h:Box2 W B t a b)(hb:Below K W W')(hB:B<K):Box2 W' B t a b:=(hb.block B hB).trans h
theorem Box2.alloc {W:World}{B:Nat}{t:TypeId}{a b:Value}(h:Box2 W B t a b)(o:Obj):Box2 (W.alloc o) B t a b:=(Below.heap_alloc W o B h.lt).trans h
theorem Box2.set0 {W:World}{B:Nat}{t:TypeId}{a b:Value}(a':Value)(h:Box2 W B t a b):Box2 (W.setCell ⟨B,0,none⟩ a') B t a' b:=by
 obtain⟨hlt,hk⟩:=Array.getElem?_eq_some_iff.1 h
 show(W.heap.modify B _)[B]?=_
 rw[Array.getElem?_eq_getElem (by rw[Array.size_modify];exact hlt),Array.getElem_modify_self,hk]
 rfl
theorem Box2.set1 {W:World}{B:Nat}{t:TypeId}{a b:Value}(b':Value)(h:Box2 W B t a b):Box2 (W.setCell ⟨B,1,none⟩ b') B t a b':=by
 obtain⟨hlt,hk⟩:=Array.getElem?_eq_some_iff.1 h
 show(W.heap.modify B _)[B]?=_
 rw[Array.getElem?_eq_getElem (by rw[Array.size_modify];exact hlt),Array.getElem_modify_self,hk]
 rfl
theorem Box2.set {W:World}{B:Nat}{t:TypeId}{a b:Value}(a' b':Value)(h:Box2 W B t a b):Box2 ((W.setCell ⟨B,0,none⟩ a').setCell ⟨B,1,none⟩ b') B t a' b':=(h.set0 a').set1 b'
theorem zoU:(Tryz.prog.info? 25).map (·.size)=some 2:=by kernel_rfl
theorem zbp {W:World}{B:Nat}{t:TypeId}{a b:Value}(h:Box2 W B t a b){fn:Func}{p:Tmp}(hr:fn.results= #[.cell p 25]) {tmps:Array Value} (hp:tmps.getD p undef= .pointer (some ⟨B,0,none⟩)):
  (results fn tmps).run Tryz.prog W= .ok (.agg #[a,b]) W:=
 results_cell_row hr tmps W B t #[a,b] (0,0) _ hp h Tryz.underlying25 rfl zoU
theorem Box2.kept {W W':World}{row:Option Nat}{B:Nat}{t:TypeId}{a b:Value}(h:Box2 W B t a b)(hg:W.grownBy W' row)(hne:some B≠row):Box2 W' B t a b:=(hg.block B h.lt hne).trans h
theorem zbA (W:World)(g i:Nat)(v:Value):W.grownBy (W.setCell ⟨g,i,none⟩ v) (some g):=⟨rfl,rfl,rfl,(KeepsWalks.setCell W _ v).size,fun k _ hk=>Below.heap_setCell _ _ _ k (fun e=>hk (by rw[e]))⟩
theorem zgx (a:Addr)(k:Nat):a.add (k*2+1)=⟨(a.add (k*2)).block,(a.add (k*2)).off+1,none⟩:=by
 unfold Addr.add
 by_cases h:k*2=0
 ·rw[if_neg (by omega),if_pos h,h]
 ·rw[if_neg (by omega),if_neg h];rfl
def ZRds (W:World)(hi:Nat)(A:Option Addr)(l:List (Bool×Num)):Prop:=
 ∀k (h:k<l.length),(∃ad:Addr,A=some ad/\ad.block<hi/\W.cell? (ad.add (k*2))=some (.bool l[k].1)/\W.cell? (ad.add (k*2+1))=some (.slice l[k].2.A l[k].2.n l[k].2.c))/\l[k].2.ok W hi
theorem ZRds.below {W W':World}{hi:Nat}{A:Option Addr}{l:List (Bool×Num)}(h:ZRds W hi A l)(hb:Below hi W W'):ZRds W' hi A l:=fun k hk=>by
 obtain⟨⟨ad,e,h1,h2,h3⟩,h4⟩:=h k hk
 exact⟨⟨ad,e,h1,(hb.cell (by rw[zaM];exact h1)).trans h2,(hb.cell (by rw[zaM];exact h1)).trans h3⟩,h4.below hb⟩
theorem ZRds.more {W:World}{hi hi':Nat}{A:Option Addr}{l:List (Bool×Num)}(h:ZRds W hi A l)(hh:hi<=hi'):ZRds W hi' A l:=fun k hk=>by
 obtain⟨⟨ad,e,h1,h2,h3⟩,h4⟩:=h k hk
 exact⟨⟨ad,e,by omega,h2,h3⟩,h4.more hh⟩
def zP (p:Bool×Num):Int:=zOf p.1 p.2.N
def zdl (l:List (Bool×Num)):Int:=(l.map zP).sum
def zeN (l:List (Bool×Num)):Int:=(l.map zP).foldr (· * ·) 1
theorem ZRds.two {w W:World}{e:List Num}{x y:Num}(b b':Bool)(h:Env w e W)(hx:x∈e)(hy:y∈e){t:TypeId}:
  ZRds (W.alloc (.cells #[.bool b,.slice x.A x.n x.c,.bool b',.slice y.A y.n y.c] t)) (W.heap.size+1) (some ⟨W.heap.size,0,none⟩) [(b,x),(b',y)]:=fun k hk=>by
 have hc:=World.alloc_heap_new' W (.cells #[.bool b,.slice x.A x.n x.c,.bool b',.slice y.A y.n y.c] t)
 have hx':=((h.alloc (.cells #[.bool b,.slice x.A x.n x.c,.bool b',.slice y.A y.n y.c] t)).2 x hx)
 have hy':=((h.alloc (.cells #[.bool b,.slice x.A x.n x.c,.bool b',.slice y.A y.n y.c] t)).2 y hy)
 rw[World.size_alloc]at hx' hy'
 match k,hk with
 |0,_=>exact⟨⟨_,rfl,Nat.lt_succ_self _,by rw[zaW];simp only[World.cell?,hc];rfl,by rw[zaW];simp only[World.cell?,hc];rfl⟩,hx'⟩
 |1,_=>exact⟨⟨_,rfl,Nat.lt_succ_self _,by rw[zaW];simp only[World.cell?,hc];rfl,by rw[zaW];simp only[World.cell?,hc];rfl⟩,hy'⟩
theorem ZRds.three {w W:World}{e:List Num}{x y z:Num}(b b' b'':Bool)(h:Env w e W)(hx:x∈e)(hy:y∈e)(hz:z∈e){t:TypeId}:
  ZRds (W.alloc (.cells #[.bool b,.slice x.A x.n x.c,.bool b',.slice y.A y.n y.c,.bool b'',.slice z.A z.n z.c] t)) (W.heap.size+1) (some ⟨W.heap.size,0,none⟩) [(b,x),(b',y),(b'',z)]:=fun k hk=>by
 have hc:=World.alloc_heap_new' W (.cells #[.bool b,.slice x.A x.n x.c,.bool b',.slice y.A y.n y.c,.bool b'',.slice z.A z.n z.c] t)
 have hx':=((h.alloc (.cells #[.bool b,.slice x.A x.n x.c,.bool b',.slice y.A y.n y.c,.bool b'',.slice z.A z.n z.c] t)).2 x hx)
 have hy':=((h.alloc (.cells #[.bool b,.slice x.A x.n x.c,.bool b',.slice y.A y.n y.c,.bool b'',.slice z.A z.n z.c] t)).2 y hy)
 have hz':=((h.alloc (.cells #[.bool b,.slice x.A x.n x.c,.bool b',.slice y.A y.n y.c,.bool b'',.slice z.A z.n z.c] t)).2 z hz)
 rw[World.size_alloc]at hx' hy' hz'
 match k,hk with
 |0,_=>exact⟨⟨_,rfl,Nat.lt_succ_self _,by rw[zaW];simp only[World.cell?,hc];rfl,by rw[zaW];simp only[World.cell?,hc];rfl⟩,hx'⟩
 |1,_=>exact⟨⟨_,rfl,Nat.lt_succ_self _,by rw[zaW];simp only[World.cell?,hc];rfl,by rw[zaW];simp only[World.cell?,hc];rfl⟩,hy'⟩
 |2,_=>exact⟨⟨_,rfl,Nat.lt_succ_self _,by rw[zaW];simp only[World.cell?,hc];rfl,by rw[zaW];simp only[World.cell?,hc];rfl⟩,hz'⟩
theorem ZRds.one {w W:World}{e:List Num}{x:Num}(b:Bool)(h:Env w e W)(hx:x∈e){t:TypeId}:
  ZRds (W.alloc (.cells #[.bool b,.slice x.A x.n x.c] t)) (W.heap.size+1) (some ⟨W.heap.size,0,none⟩) [(b,x)]:=fun k hk=>by
 have hc:=World.alloc_heap_new' W (.cells #[.bool b,.slice x.A x.n x.c] t)
 have hx':=((h.alloc (.cells #[.bool b,.slice x.A x.n x.c] t)).2 x hx)
 rw[World.size_alloc]at hx'
 match k,hk with
 |0,_=>exact⟨⟨_,rfl,Nat.lt_succ_self _,by rw[zaW];simp only[World.cell?,hc];rfl,by rw[zaW];simp only[World.cell?,hc];rfl⟩,hx'⟩
def zcw (a b:Int):Int:=if a<b then -1 else if b<a then 1 else 0
section
variable {w W:World}{e:List Num}
theorem Rd.sbox {W:World}{hi n N g k:Nat}{A:Option Addr}{a b u:Value}{T:TypeId}(h:Rd W hi A n N)(B:Box2 W g T a b)(ha:∀z:Int,a≠ .int .u32 z)(hv:∀z:Int,b≠ .int .u32 z)(hk:k=0\/k=1):Rd (W.setCell ⟨g,k,none⟩ u) hi A n N:=
 ⟨h.1,fun hn=>by
  obtain⟨ad,e,hb,hc⟩:=h.2 hn
  refine⟨ad,e,hb,fun j hj=>?_⟩
  rw[World.cell?_setCell_other _ _ _ _ (fun e2=>?_)]
  ·exact hc j hj
  ·have h1:=hc j hj
   obtain⟨c1,c2,-,-⟩:=B.cells
   rw[<-e2]at h1
   rcases hk with rfl|rfl
   ·rw[c1]at h1;injection h1 with h1;exact ha _ h1
   ·rw[c2]at h1;injection h1 with h1;exact hv _ h1⟩
theorem Env.boxed {g n c:Nat}{b:Bool}{A:Option Addr}{T:TypeId}(h:Env w e W)(B:Box2 W g T (.bool b) (.slice A n c))(hg:w.heap.size<=g)(b':Bool)(u:Value):
  Env w e ((W.setCell ⟨g,0,none⟩ (.bool b')).setCell ⟨g,1,none⟩ u):=
 ⟨(
  h.1.setCell (p:=⟨g,0,none⟩) hg _).setCell (p:=⟨g,1,none⟩) hg _,fun z hz=>by
  have h1:=(h.2 z hz).1.sbox (u:= .bool b') B (by intro z e;cases e) (by intro z e;cases e) (.inl rfl)
  have h2:=h1.sbox (u:=u) (B.set0 (.bool b')) (by intro z e;cases e) (by intro z e;cases e) (.inr rfl)
  exact⟨by rw[World.size_setCell,World.size_setCell];exact h2,(h.2 z hz).2⟩⟩
end
def znk (w0:World):Prop:=∀(w W:World) (e:List Num) (n:Int),Below w0.heap.size w0 W->Env w e W-> -9223372036854775808<=n/\n<=9223372036854775807->Calls Tryz.prog 84 #[.int .i64 n] W (Zs w e n)
def zld (w0:World)(f:FuncId)(g:List (Bool×Num)->Int):Prop:=∀(w W:World) (e:List Num) (A:Option Addr) (c:Nat) (l:List (Bool×Num)),Below w0.heap.size w0 W->Env w e W->ZRds W W.heap.size A l->l.length<=c->c<=maxLen->l.length<=1000->(∀z∈l,z.2.n<=10000)->
 Calls Tryz.prog f #[.slice A l.length c] W (Zs w e (g l))
def zle (w0:World)(f:FuncId)(g:Int->Value):Prop:=∀(w W:World) (e:List Num) (b:Bool) (x:Num) (Z:Int),Below w0.heap.size w0 W->Env w e W->x∈e->x.n<=10000->zOf b x.N=Z->
 Calls Tryz.prog f #[.agg #[.bool b,.slice x.A x.n x.c]] W fun e' W'=>e'= .returned (g Z)/\Env w e W'
def ziT (w0:World)(f:FuncId)(g:Int->Int->Value):Prop:=∀(w W:World) (e:List Num) (b:Bool) (x:Num) (b':Bool) (y:Num) (Z Z':Int),Below w0.heap.size w0 W->Env w e W->x∈e->y∈e->x.n<=10000->y.n<=10000->zOf b x.N=Z->zOf b' y.N=Z'->
 Calls Tryz.prog f #[.agg #[.bool b,.slice x.A x.n x.c],.agg #[.bool b',.slice y.A y.n y.c]] W fun e' W'=>e'= .returned (g Z Z')/\Env w e W'
structure SintTold (w0:World):Prop where
 of:znk w0
 add:zld w0 118 zdl
 sign:zle w0 114 fun Z=> .int .i64 Z.sign
 cmp:ziT w0 186 fun Z Z'=> .int .i64 (zcw Z Z')
theorem SintTold.later {w0 w:World}(S:SintTold w0)(hb:Below w0.heap.size w0 w):SintTold w where
 of:=fun w' W e n h=>S.of w' W e n (hb.trans (h.mono hb.size))
 add:=fun w' W e A c l h=>S.add w' W e A c l (hb.trans (h.mono hb.size))
 sign:=fun w' W e b x Z h=>S.sign w' W e b x Z (hb.trans (h.mono hb.size))
 cmp:=fun w' W e b x b' y Z Z' h=>S.cmp w' W e b x b' y Z Z' (hb.trans (h.mono hb.size))
end Go.Proofs.YtipckjmgdghkiaaGreatDoor
