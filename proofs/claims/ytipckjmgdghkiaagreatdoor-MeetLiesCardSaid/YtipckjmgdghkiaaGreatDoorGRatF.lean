/- A part. -/
import Derived.Deep.MidRow
import Derived.Test.YtipckjmgdghkiaaGreatDoorGRefF
namespace Go.Proofs.YtipckjmgdghkiaaGreatDoor
open Go Go.RowKit
section
def zqw (l:List (Tmp×Value))(a:Act):Prop:=∀p∈l,a.tmps.getD p.1 undef=p.2
structure Bx where
 g:Nat
 t:TypeId
 cs:List Value
def za6:Value->Bool
 | .int .u32 _=>false
 |_=>true
theorem zox {v:Value}(h:za6 v=true):∀z:Int,v≠ .int .u32 z:=by
 rintro z rfl;cases h
structure Boxes (lo:Nat) (l:List Bx) (V:World):Prop where
 here:∀b∈l,lo<=b.g/\V.heap[b.g]?=some (.cells b.cs.toArray b.t (0,0))/\b.cs.all za6=true
 apart:l.Pairwise (fun b c=>b.g≠c.g)
structure Frm (n:Nat) (ls:List (Tmp×Value)) (lb:List Bx) (w:World) (e:List Num) (a:Act) (V:World):Prop where
 size:a.tmps.size=n
 defers:a.defers=[]
 slots:zqw ls a
 boxes:Boxes w.heap.size lb V
 env:Env w e V
variable {n:Nat}{ls:List (Tmp × Value)}{lb:List Bx}{w V V':World}{e:List Num}{a:Act}{P:Program}
theorem Frm.at (S:Frm n ls lb w e a V)(i:Nat){t:Tmp}{v:Value}(hi:ls[i]?=some (t,v)):a.tmps.getD t undef=v:=S.slots _ (List.mem_of_getElem? hi)
theorem Frm.bx (S:Frm n ls lb w e a V)(i:Nat){b:Bx}(hi:lb[i]?=some b):V.heap[b.g]?=some (.cells b.cs.toArray b.t (0,0)):=(S.boxes.here b (List.mem_of_getElem? hi)).2.1
theorem Frm.bxlo (S:Frm n ls lb w e a V)(i:Nat){b:Bx}(hi:lb[i]?=some b):w.heap.size<=b.g:=(S.boxes.here b (List.mem_of_getElem? hi)).1
theorem Frm.num (S:Frm n ls lb w e a V)(i:Nat){x:Num}(hi:e[i]?=some x):x.ok V V.heap.size:=S.env.2 x (List.mem_of_getElem? hi)
theorem Frm.below (S:Frm n ls lb w e a V):Below w.heap.size w V:=S.env.1
theorem Boxes.below {lo:Nat}(h:Boxes lo lb V)(hb:Below V.heap.size V V'):Boxes lo lb V':=
 ⟨fun b hm=>by
  obtain⟨h1,h2,h3⟩:=h.here b hm
  exact⟨h1,(hb.block b.g (Array.getElem?_eq_some_iff.1 h2).1).trans h2,h3⟩,h.apart⟩
theorem Frm.later (S:Frm n ls lb w e a V)(hb:Below V.heap.size V V'):Frm n ls lb w e a V':=⟨S.size,S.defers,S.slots,S.boxes.below hb,S.env.step hb⟩
theorem Frm.know (S:Frm n ls lb w e a V){x:Num}(h:x.ok V V.heap.size):Frm n ls lb w (x::e) a V:=⟨S.size,S.defers,S.slots,S.boxes,S.env.add h⟩
theorem Frm.add (S:Frm n ls lb w e a V){t:Tmp}{v:Value}(h:a.tmps.getD t undef=v):Frm n ((t,v)::ls) lb w e a V:=
 ⟨S.size,S.defers,fun p hp=>by exact(List.mem_cons.1 hp).elim (fun e=>by subst e;exact h) (fun hp=>S.slots p hp),S.boxes,S.env⟩
def keepS (ks:List Nat)(ls:List (Tmp×Value)):List (Tmp×Value):=ls.filter (fun p=>ks.contains p.1)
theorem Frm.keep (S:Frm n ls lb w e a V)(ks:List Nat){ls':List (Tmp×Value)}(h:keepS ks ls=ls'):Frm n ls' lb w e a V:=
 ⟨S.size,S.defers,fun p hp=>S.slots p (by subst h;exact(List.mem_filter.1 hp).1),S.boxes,S.env⟩
theorem Frm.pick (S:Frm n ls lb w e a V)(e':List Num)(h:∀z∈e',z∈e):Frm n ls lb w e' a V:=⟨S.size,S.defers,S.slots,S.boxes,S.env.pick h⟩
def at_ {α:Type}(l:List α)(is:List Nat):List α:=is.filterMap (l[·]?)
def zfd (t:Tmp)(ls:List (Tmp×Value)):List (Tmp×Value):=ls.filter (fun p=>p.1 != t)
theorem Frm.put (S:Frm n ls lb w e a V){t:Tmp}(v:Value)(ht:t<n){ls':List (Tmp×Value)}(h:zfd t ls=ls'):Frm n ((t,v)::ls') lb w e (a.put (some t) v) V:=by
 refine⟨by rw[zdT];exact S.size,S.defers,fun p hp=>?_,S.boxes,S.env⟩
 subst h
 rcases List.mem_cons.1 hp with rfl|hp
 ·exact zdU _ _ _ (by rw[S.size];exact ht)
 ·obtain⟨h1,h2⟩:=List.mem_filter.1 hp
  rw[zb2 _ _ (fun e2=>by rw[e2]at h2;simp at h2)]
  exact S.slots p h1
theorem Frm.alloc (S:Frm n ls lb w e a V)(t:TypeId)(cs:List Value)(hn:cs.all za6=true):Frm n ls (lb++[⟨V.heap.size,t,cs⟩]) w e a (V.alloc (.cells cs.toArray t)):=by
 refine⟨S.size,S.defers,S.slots,⟨fun b hb=>?_,?_⟩,S.env.alloc _⟩
 ·rcases List.mem_append.1 hb with hb|hb
  ·have h:=(S.boxes.below (zv1.alloc zv0 (.cells cs.toArray t))).here b hb
   exact h
  ·rw[List.mem_singleton]at hb
   subst hb
   exact⟨S.env.1.size,World.alloc_heap_new' V _,hn⟩
 ·rw[List.pairwise_append]
  refine⟨S.boxes.apart,List.pairwise_singleton _ _,fun b hb c hc=>?_⟩
  rw[List.mem_singleton]at hc
  subst hc
  have:=(Array.getElem?_eq_some_iff.1 (S.boxes.here b hb).2.1).1
  show b.g≠V.heap.size
  omega
def zcy (cs:List Value)(o:Nat):List Value->List Value
 |[]=>cs
 |v::vs=>zcy (cs.set o v) (o+1) vs
theorem ziL:∀(vs cs:List Value) (o:Nat),cs.all za6=true->vs.all za6=true->(zcy cs o vs).all za6=true
 |[],_,_,h,_=>h
 |v::vs,cs,o,h,h'=>by
  simp only[List.all_cons,Bool.and_eq_true]at h'
  refine ziL vs _ _ ?_ h'.2
  rw[List.all_eq_true]at h ⊢
  intro x hx
  rcases List.mem_or_eq_of_mem_set hx with hx|rfl
  ·exact h x hx
  ·exact h'.1
theorem ziM:∀(vs cs:List Value) (o:Nat),(zcy cs o vs).length=cs.length
 |[],_,_=>rfl
 |v::vs,cs,o=>by rw[zcy,ziM];simp
theorem zoy {lo g:Nat}{i o:Nat}{t:TypeId}{cs:List Value}{v:Value}(h:Boxes lo lb V)(hi:lb[i]?=some ⟨g,t,cs⟩)(hv:za6 v=true):
  Boxes lo (lb.set i ⟨g,t,cs.set o v⟩) (V.setCell ⟨g,o,none⟩ v):=by
 have hil:i<lb.length:=(List.getElem?_eq_some_iff.1 hi).1
 have hie:lb[i]=⟨g,t,cs⟩:=(List.getElem?_eq_some_iff.1 hi).2
 have hap:∀j (hj:j<lb.length),j≠i->lb[j].g≠g:=fun j hj hne=>by
  rcases Nat.lt_or_gt_of_ne hne with hlt|hlt
  ·have:=List.pairwise_iff_getElem.1 h.apart j i hj hil hlt
   rw[hie]at this;exact this
  ·have:=List.pairwise_iff_getElem.1 h.apart i j hil hj hlt
   rw[hie]at this;exact this.symm
 refine⟨fun b hb=>?_,?_⟩
 ·obtain⟨j,hj,rfl⟩:=List.mem_iff_getElem.1 hb
  rw[List.length_set]at hj
  rw[List.getElem_set]
  obtain⟨a1,a2,a3⟩:=h.here _ (List.mem_of_getElem? hi)
  by_cases e2:i=j
  ·subst e2
   rw[if_pos rfl]
   refine⟨a1,?_,?_⟩
   ·obtain⟨hlt,hk⟩:=Array.getElem?_eq_some_iff.1 a2
    show(V.heap.modify g _)[g]?=_
    rw[Array.getElem?_eq_getElem (by rw[Array.size_modify];exact hlt),Array.getElem_modify_self,hk]
    simp
   ·show(cs.set o v).all za6=true
    rw[List.all_eq_true]at a3 ⊢
    intro x hx
    rcases List.mem_or_eq_of_mem_set hx with hx|rfl
    ·exact a3 x hx
    ·exact hv
  ·rw[if_neg e2]
   obtain⟨b1,b2,b3⟩:=h.here _ (List.getElem_mem hj)
   exact⟨b1,(Below.heap_setCell _ _ _ _ (hap j hj (fun e=>e2 e.symm))).trans b2,b3⟩
 ·rw[List.pairwise_iff_getElem]
  intro j k hj hk hjk
  rw[List.length_set]at hj hk
  have key:∀m (hm:m<lb.length),((lb.set i ⟨g,t,cs.set o v⟩)[m]'(by rw[List.length_set];exact hm)).g=lb[m].g:=fun m hm=>by
   rw[List.getElem_set]
   by_cases e2:i=m
   ·subst e2;rw[if_pos rfl,hie]
   ·rw[if_neg e2]
  rw[key j hj,key k hk]
  exact List.pairwise_iff_getElem.1 h.apart j k hj hk hjk
theorem Frm.setc {g i o:Nat}{t:TypeId}{cs:List Value}(S:Frm n ls lb w e a V)(hi:lb[i]?=some ⟨g,t,cs⟩)(ho:o<cs.length){v:Value}(hv:za6 v=true):
  Frm n ls (lb.set i ⟨g,t,cs.set o v⟩) w e a (V.setCell ⟨g,o,none⟩ v):=by
 refine⟨S.size,S.defers,S.slots,zoy S.boxes hi hv,?_⟩
 obtain⟨a1,a2,a3⟩:=S.boxes.here _ (List.mem_of_getElem? hi)
 refine S.env.setc a1 (a:=cs[o]) ?_ ?_ v
 ·rw[cell_of_row V g o cs.toArray t (0,0) a2];simp[ho]
 ·exact zox (List.all_eq_true.1 a3 _ (List.getElem_mem ho))
theorem Frm.stores:∀(vs:List Value) (lb:List Bx) (V:World) (g i o:Nat) (t:TypeId) (cs:List Value),Frm n ls lb w e a V->lb[i]?=some ⟨g,t,cs⟩->o+vs.length<=cs.length->vs.all za6=true->
  Frm n ls (lb.set i ⟨g,t,zcy cs o vs⟩) w e a (V.setCells g o vs)
 |[],lb,V,g,i,o,t,cs,S,hi,_,_=>by
  have hil:i<lb.length:=(List.getElem?_eq_some_iff.1 hi).1
  have e2:lb.set i ⟨g,t,zcy cs o []⟩=lb:=by
   have hie:lb[i]=⟨g,t,cs⟩:=(List.getElem?_eq_some_iff.1 hi).2
   show lb.set i ⟨g,t,cs⟩=lb
   rw[<-hie,List.set_getElem_self]
  rw[e2];exact S
 |v::vs,lb,V,g,i,o,t,cs,S,hi,hl,hv=>by
  simp only[List.all_cons,Bool.and_eq_true]at hv
  simp only[List.length_cons]at hl
  have h1:=S.setc hi (o:=o) (by omega) hv.1
  have hil:i<lb.length:=(List.getElem?_eq_some_iff.1 hi).1
  have h2:=Frm.stores vs _ _ g i (o+1) t (cs.set o v) h1 (by simp[hil]) (by simp;omega) hv.2
  rw[List.set_set]at h2
  exact h2
variable {ops:Array Oper}{Q:Exit -> Act -> World -> Prop}{rest:List Oper}{o:Oper}{t:Tmp}{v:Value}{F:Value -> World -> Prop}{i:Nat}
def zaf (V:World)(F:Value->World->Prop)(en:Ending)(V':World):Prop:=∃v,en= .returned v/\F v V'/\Below V.heap.size V V'
theorem zoz {K:Act->World->Prop}(h:o.wp P a V K Q)(hg:o.guard=none)(hK:∀a V,K a V->wpList P ops Q rest a V):wpList P ops Q (o::rest) a V:=
 wpList_plain hg fun _ hL=>Oper.wp_mono (fun a V hk=>hL a V (hK a V hk)) h
theorem zqx (S:Frm n ls lb w e a V)(hr:(execOp a.eval o).run P V= .ok (.value v) V)(hg:o.guard=none)(hd:o.dst=some t)(ht:t<n){ls':List (Tmp×Value)}(hl:zfd t ls=ls')
  (k:∀a,Frm n ((t,v)::ls') lb w e a V->wpList P ops Q rest a V):wpList P ops Q (o::rest) a V:=
 zoz (K:=fun a' V'=>a'=a.put (some t) v/\V'=V) (by simp[Oper.wp,hr,Oper.upon,hd]) hg (by rintro a' V' ⟨rfl,rfl⟩;exact k _ (S.put v ht hl))
theorem zsf (S:Frm n ls lb w e a V)(hr:(execOp a.eval o).run P V= .ok (.value v) V')(hb:Below V.heap.size V V')(hF:F v V')(hg:o.guard=none)(hd:o.dst=some t)(ht:t<n){ls':List (Tmp×Value)}(hl:zfd t ls=ls')
  (k:∀v a V',F v V'->Below V.heap.size V V'->Frm n ((t,v)::ls') lb w e a V'->wpList P ops Q rest a V'):wpList P ops Q (o::rest) a V:=
 zoz (K:=fun a' V2=>a'=a.put (some t) v/\V2=V') (by simp[Oper.wp,hr,Oper.upon,hd]) hg (by rintro a' V2 ⟨rfl,rfl⟩;exact k _ _ _ hF hb ((S.later hb).put v ht hl))
theorem zt1 (S:Frm n ls lb w e a V){T:TypeId}{cs:List Value}(hr:(execOp a.eval o).run P V= .ok (.value (.pointer (some ⟨V.heap.size,0,none⟩))) (V.alloc (.cells cs.toArray T)))(hn:cs.all za6=true)(hg:o.guard=none)(hd:o.dst=some t)(ht:t<n)
  {ls':List (Tmp×Value)} (hl:zfd t ls=ls') {lb':Nat->List Bx} (hlb:∀g,lb++[⟨g,T,cs⟩]=lb' g)
  (k:∀g a V',V.heap.size=g->Frm n ((t,.pointer (some ⟨g,0,none⟩))::ls') (lb' g) w e a V'->wpList P ops Q rest a V'):wpList P ops Q (o::rest) a V:=
 zoz (K:=fun a' V2=>a'=a.put (some t) (.pointer (some ⟨V.heap.size,0,none⟩))/\V2=V.alloc (.cells cs.toArray T)) (by simp[Oper.wp,hr,Oper.upon,hd]) hg (by rintro a' V2 ⟨rfl,rfl⟩;exact k _ _ _ rfl (hlb _▸(S.alloc T cs hn).put _ ht hl))
theorem zkV (S:Frm n ls lb w e a V){g off:Nat}{T:TypeId}{cs vs:List Value}(hi:lb[i]?=some ⟨g,T,cs⟩)(hr:(∀j,j<cs.length->(V.cell? ⟨g,j,none⟩).isSome=true/\V.frozen? ⟨g,j,none⟩=false)->(execOp a.eval o).run P V= .ok .skip (V.setCells g off vs))
  (hlen:off+vs.length<=cs.length) (hn:vs.all za6=true) (hg:o.guard=none) (hd:o.dst=none) {lb':List Bx} (hlb:lb.set i ⟨g,T,zcy cs off vs⟩=lb')
  (k:∀V',Frm n ls lb' w e a V'->wpList P ops Q rest a V'):wpList P ops Q (o::rest) a V:=by
 have hb:=S.bx i hi
 have hr':=hr (fun j hj=>by
  constructor
  ·rw[cell_of_row V g j cs.toArray T (0,0) hb];simp[hj]
  ·simp[World.frozen?,hb])
 subst hlb
 exact zoz (K:=fun a' V2=>a'=a.put none undef/\V2=V.setCells g off vs) (by simp[Oper.wp,hr',Oper.upon,hd]) hg (by rintro a' V2 ⟨rfl,rfl⟩;exact k _ (Frm.stores vs _ _ g i off T cs S hi hlen hn))
theorem zsg (S:Frm n ls lb w e a V){f:FuncId}{args:Array Value}(hr:(execOp a.eval o).run P V= .ok (.enter f args) V)(hc:Calls P f args V (zaf V F))(hg:o.guard=none)(hd:o.dst=some t)(ht:t<n){ls':List (Tmp×Value)}(hl:zfd t ls=ls')
  (k:∀v a V',F v V'->Below V.heap.size V V'->Frm n ((t,v)::ls') lb w e a V'->wpList P ops Q rest a V'):wpList P ops Q (o::rest) a V:=by
 refine zoz (K:=fun a' V'=>∃v,a'=a.put (some t) v/\F v V'/\Below V.heap.size V V') ?_ hg ?_
 ·simp only[Oper.wp,hr,Oper.upon,hd]
  refine hc.mono ?_
  rintro en V' ⟨v,rfl,h1,h2⟩
  exact⟨v,rfl,h1,h2⟩
 ·rintro a' V' ⟨v,rfl,h1,h2⟩
  exact k _ _ _ h1 h2 ((S.later h2).put v ht hl)
theorem zsh (S:Frm n ls lb w e a V){j:Nat}{oj:Oper}{tj:Tmp}{b c:Bool}(h:o.guard=some (j,b))(hj:ops[j]?=some oj)(hdj:oj.dst=some tj)(hv:a.tmps.getD tj undef= .bool c)(hne:(c==b)=false)(hd:o.dst=some t)(ht:t<n){ls':List (Tmp×Value)}(hl:zfd t ls=ls')
  (k:∀a,Frm n ((t,undef)::ls') lb w e a V->wpList P ops Q rest a V):wpList P ops Q (o::rest) a V:=by
 unfold wpList
 rw[if_neg (by rw[zdm h hj hdj hv,hne];decide),hd]
 exact k _ (S.put undef ht hl)
theorem zsi (S:Frm n ls lb w e a V){j:Nat}{oj:Oper}{tj:Tmp}{b c:Bool}(h:o.guard=some (j,b))(hj:ops[j]?=some oj)(hdj:oj.dst=some tj)(hv:a.tmps.getD tj undef= .bool c)(hne:(c==b)=true)(hr:(execOp a.eval o).run P V= .ok (.value v) V)(hd:o.dst=some t)(ht:t<n){ls':List (Tmp×Value)}(hl:zfd t ls=ls')
  (k:∀a,Frm n ((t,v)::ls') lb w e a V->wpList P ops Q rest a V):wpList P ops Q (o::rest) a V:=by
 unfold wpList
 rw[if_pos (by rw[zdm h hj hdj hv,hne])]
 refine .inl ?_
 simp only[Oper.wp,hr,Oper.upon,hd]
 exact k _ (S.put v ht hl)
theorem zqy (S:Frm n ls lb w e a V){j:Nat}{oj:Oper}{tj:Tmp}{b c:Bool}(h:o.guard=some (j,b))(hj:ops[j]?=some oj)(hdj:oj.dst=some tj)(hv:a.tmps.getD tj undef= .bool c)(hne:(c==b)=true){f:FuncId}{args:Array Value}(hr:(execOp a.eval o).run P V= .ok (.enter f args) V)(hc:Calls P f args V (zaf V F))(hd:o.dst=some t)(ht:t<n){ls':List (Tmp×Value)}(hl:zfd t ls=ls')
  (k:∀v a V',F v V'->Below V.heap.size V V'->Frm n ((t,v)::ls') lb w e a V'->wpList P ops Q rest a V'):wpList P ops Q (o::rest) a V:=by
 unfold wpList
 rw[if_pos (by rw[zdm h hj hdj hv,hne])]
 refine .inl ?_
 simp only[Oper.wp,hr,Oper.upon,hd]
 refine hc.mono ?_
 rintro en V' ⟨v,rfl,h1,h2⟩
 exact k _ _ _ h1 h2 ((S.later h2).put v ht hl)
abbrev zcA (P:Program)(ops:Array Oper)(Q:Exit->Act->World->Prop)(i:Nat)(t:Tmp)(F:Value->World->Prop)(a:Act)(V:World):Prop:=
 wpOp P ops Q i (fun a' V'=>∃v,a'=a.put (some t) v/\F v V'/\Below V.heap.size V V'/\True) a V
theorem zqz (ho:ops[i]?=some o)(hd:o.dst=some t)(hw:Region.wanted o (yielded ops a.tmps)=true)(hr:(execOp a.eval o).run P V= .ok (.value v) V)(hF:F v V):zcA P ops Q i t F a V:=zal (C:=fun _=>True) ho hd hw hr trivial hF
theorem zsj (ho:ops[i]?=some o)(hd:o.dst=some t)(hw:Region.wanted o (yielded ops a.tmps)=true)(hr:(execOp a.eval o).run P V= .ok (.value v) V')(hb:Below V.heap.size V V')(hF:F v V'):zcA P ops Q i t F a V:=zeR (C:=fun _=>True) ho hd hw hr hb trivial hF
theorem zm7 {f:FuncId}{args:Array Value}(ho:ops[i]?=some o)(hd:o.dst=some t)(hw:Region.wanted o (yielded ops a.tmps)=true)(hr:(execOp a.eval o).run P V= .ok (.enter f args) V)(hc:Calls P f args V (zaf V F)):zcA P ops Q i t F a V:=
 za8 (C:=fun _=>True) ho hd hw hr (hc.mono (by rintro en V' ⟨v,rfl,h1,h2⟩;exact⟨v,rfl,h1,h2,trivial⟩))
theorem zsk (ho:ops[i]?=some o)(hd:o.dst=some t)(hw:Region.wanted o (yielded ops a.tmps)=false)(hF:F undef V):zcA P ops Q i t F a V:=znu (C:=fun _=>True) ho hd hw trivial hF
def zkW (ls:List (Tmp×Value))(dst:List Tmp):Bool:=ls.all (fun p=> !dst.contains p.1)
theorem zmd {id:Nat}{l:List Oper}{W0:World}{a0:Act}(m:Nat)(dst:List Tmp)(fact:Nat->Value->World->Prop)(S0:Frm n ls lb w e a0 W0)(hm:P.follows .mixedOrders=true)(hB:zc8 .any l.toArray m=true)(hdl:dst.length=m)(hnd:dst.Nodup)(hds:dst.all (· <n)=true)(hfr:zkW ls dst=true)
  (hmono:∀i v V V',fact i v V->Below V.heap.size V V'->fact i v V')
  (hstep:∀i t,dst[i]?=some t->∀a V,Frm n ls lb w e a V->Below W0.heap.size W0 V->(∀j t',dst[j]?=some t'->Region.waitsFor .any l.toArray i j=true->fact j (a.tmps.getD t' undef) V)->zcA P l.toArray Q i t (fact i) a V)
  (hfin:∀a V,Frm n ls lb w e a V->Below W0.heap.size W0 V->(∀j t',dst[j]?=some t'->fact j (a.tmps.getD t' undef) V)->wpList P l.toArray Q (l.drop m) a V):
  (Code.region id l.toArray true).wp P Q a0 W0:=by
 have hS:∀a V,Below W0.heap.size W0 V->FrameOf dst a0 a->Frm n ls lb w e a V:=fun a V hC hF=>by
  refine⟨hF.size.trans S0.size,hF.defers.trans S0.defers,fun p hp=>(hF.same p.1 ?_).trans (S0.slots p hp),S0.boxes.below hC,S0.env.step hC⟩
  have:=List.all_eq_true.1 hfr p hp
  simpa using this
 refine zbn m dst fact (fun V=>Below W0.heap.size W0 V) hm hB hdl hnd (fun t ht=>?_) zv1.drew (fun i v V V' h hb _=>hmono i v V V' h hb) (fun i t ht a V hC hF hd=>?_) (fun a V hC hF hf=>hfin a V (hS a V hC hF) hC hf)
 ·have:=List.all_eq_true.1 hds t ht
  rw[S0.size];simpa using this
 ·refine wpOp_mono ?_ (hstep i t ht a V (hS a V hC hF) hC hd)
  rintro a' V' ⟨v,h1,h2,h3,-⟩
  exact⟨v,h1,h2,h3,hC.trans (h3.mono hC.size)⟩
theorem zaD {id:Nat}{l:List Oper}(h:wpList P l.toArray Q l a V):(Code.region id l.toArray false).wp P Q a V:=wp_region_lit h
variable {x:Operand}{t1 t2 t3:Tmp}{v1 v2 v3:Value}
theorem zao (ho:o.op= .move (.tmp t1))(h:a.tmps.getD t1 undef=v):(execOp a.eval o).run P V= .ok (.value v) V:=by
 unfold execOp;simp only[ho];show Result.ok (Next.value (a.tmps.getD t1 undef)) V=_;rw[h]
theorem zak (ho:o.op= .assign (.tmp t1))(h:a.tmps.getD t1 undef=v):(execOp a.eval o).run P V= .ok (.value v) V:=by
 unfold execOp;simp only[ho];show Result.ok (Next.value (a.tmps.getD t1 undef)) V=_;rw[h]
theorem zkX (ho:o.op= .move (.const v)):(execOp a.eval o).run P V= .ok (.value v) V:=by unfold execOp;simp only[ho];rfl
theorem zcB (ho:o.op= .assign (.const v)):(execOp a.eval o).run P V= .ok (.value v) V:=by unfold execOp;simp only[ho];rfl
theorem zas (b:Bool){y z:Operand}(ho:o.op= .pick (.tmp t1) y z)(h:a.tmps.getD t1 undef= .bool b)(h2:(if b then a.eval y else a.eval z)=v):(execOp a.eval o).run P V= .ok (.value v) V:=by
 unfold execOp;simp only[ho]
 have h1:a.eval (.tmp t1)= .bool b:=h
 rw[h1]
 subst h2
 cases b <;> rfl
theorem zaT {vs:Array Value}{k:Nat}(ho:o.op= .extract (.tmp t1) k)(h:a.tmps.getD t1 undef= .tuple vs)(hk:vs[k]?=some v):(execOp a.eval o).run P V= .ok (.value v) V:=by
 unfold execOp;simp only[ho]
 have h1:a.eval (.tmp t1)= .tuple vs:=h
 rw[h1]
 simp[Instr.extract,hk]
theorem zam {T:TypeId}{z:Value}{cs:List Value}(ho:o.op= .alloc T)(hz:(zeroValue T).run P V= .ok z V)(hc:z.cells=cs.toArray):(execOp a.eval o).run P V= .ok (.value (.pointer (some ⟨V.heap.size,0,none⟩))) (V.alloc (.cells cs.toArray T)):=by
 unfold execOp;simp only[ho,Instr.alloc,Sem.run_bind,hz,Result.andThen_ok,newVar,newRow,hc]
 rfl
theorem zt2 {T:TypeId}{cs:List Value}(ho:o.op= .box T (.tmp t1))(h:a.tmps.getD t1 undef=v)(hc:v.cells=cs.toArray):(execOp a.eval o).run P V= .ok (.value (.pointer (some ⟨V.heap.size,0,none⟩))) (V.alloc (.cells cs.toArray T)):=by
 have h1:a.eval (.tmp t1)=v:=h
 unfold execOp;simp only[ho,Instr.box,Sem.run_bind,newVar,newRow,h1,hc]
 rfl
theorem zab {T:TypeId}{k g off:Nat}(ho:o.op= .fieldAddr T (.tmp t1) k)(h:a.tmps.getD t1 undef= .pointer (some ⟨g,off,none⟩))(hp:(Instr.fieldAt T (.pointer (some ⟨g,off,none⟩)) k).run P V= .ok v V):(execOp a.eval o).run P V= .ok (.value v) V:=by
 have h1:a.eval (.tmp t1)= .pointer (some ⟨g,off,none⟩):=h
 unfold execOp;simp only[ho,h1,Sem.run_bind,hp]
 rfl
theorem zad {T U:TypeId}{g off:Nat}{cs:List Value}{vs:List Value}{d:TypeDesc}(ho:o.op= .load T (.tmp t1))(h:a.tmps.getD t1 undef= .pointer (some ⟨g,off,none⟩))(hb:V.heap[g]?=some (.cells cs.toArray U (0,0)))(hu:P.underlying T=some d)(hd:d.isRow=true)(hi:(P.info? T).map (·.size)=some vs.length)(hv:(cs.drop off).take vs.length=vs):
  (execOp a.eval o).run P V= .ok (.value (.agg vs.toArray)) V:=by
 have h1:a.eval (.tmp t1)= .pointer (some ⟨g,off,none⟩):=h
 have hr:V.rangeAt g off vs:=fun j v hj=>by
  rw[cell_of_row V g (off+j) cs.toArray U (0,0) hb]
  rw[<-hv]at hj
  simp only[List.getElem?_take,List.getElem?_drop]at hj
  split at hj
  ·simpa using hj
  ·cases hj
 unfold execOp;simp only[ho,h1,Sem.run_bind,run_loadAt_mid V g off T vs d hr hu hd hi]
 rfl
theorem zap {T U:TypeId}{g off:Nat}{cs:List Value}(ho:o.op= .load T (.tmp t1))(h:a.tmps.getD t1 undef= .pointer (some ⟨g,off,none⟩))(hb:V.heap[g]?=some (.cells cs.toArray U (0,0)))(hagg:(isAgg T).run P V= .ok false V)(hv:cs[off]?=some v):
  (execOp a.eval o).run P V= .ok (.value v) V:=by
 have h1:a.eval (.tmp t1)= .pointer (some ⟨g,off,none⟩):=h
 have hc:V.cell? ⟨g,off,none⟩=some v:=by rw[cell_of_row V g off cs.toArray U (0,0) hb];simpa using hv
 unfold execOp;simp only[ho,h1,Sem.run_bind,Instr.loadAt,Instr.sureAddr,Sem.run_pure,Result.andThen_ok,loadVar,hagg]
 simp[hc]
theorem zaj {T:TypeId}{g off m:Nat}{vs:List Value}(ho:o.op= .store T (.tmp t1) (.tmp t2))(h:a.tmps.getD t1 undef= .pointer (some ⟨g,off,none⟩))(h2:a.tmps.getD t2 undef= .agg vs.toArray)(hi:(P.info? T).map (·.size)=some vs.length)(h1:vs.all (·.oneCell')=true)(hm:off+vs.length<=m)
  (ht:∀j,j<m->(V.cell? ⟨g,j,none⟩).isSome=true/\V.frozen? ⟨g,j,none⟩=false):
  (execOp a.eval o).run P V= .ok .skip (V.setCells g off vs):=by
 have e1:a.eval (.tmp t1)= .pointer (some ⟨g,off,none⟩):=h
 have e2:a.eval (.tmp t2)= .agg vs.toArray:=h2
 unfold execOp;simp only[ho,e1,e2,Sem.run_bind,run_storeAt_mid V g off T vs.toArray (fun j hj=>ht _ (by simp at hj;omega)) (by simpa using hi) (all_oneCell_toArray (List.all_eq_true.1 h1))]
 rfl
theorem ze3 {T:TypeId}{g off m:Nat}{X:Operand}(ho:o.op= .store T (.tmp t1) X)(h:a.tmps.getD t1 undef= .pointer (some ⟨g,off,none⟩))(h2:a.eval X=v)(hsz:(sizeOf T).run P V= .ok 1 V)(hc:v.cells= #[v])(hone:v.oneCell'=true)(hm:off+1<=m)
  (ht:∀j,j<m->(V.cell? ⟨g,j,none⟩).isSome=true/\V.frozen? ⟨g,j,none⟩=false):
  (execOp a.eval o).run P V= .ok .skip (V.setCells g off [v]):=by
 have e1:a.eval (.tmp t1)= .pointer (some ⟨g,off,none⟩):=h
 have h3:=ht off (by omega)
 obtain⟨u,hu⟩:=Option.isSome_iff_exists.1 h3.1
 unfold execOp;simp only[ho,e1,h2,Sem.run_bind,Instr.storeAt,Instr.sureAddr,Sem.run_pure,Result.andThen_ok,storeVar,hsz,hc]
 simp[storeCells,run_store P V _ v _ hone,h3.2,hu,World.setCells,Addr.add]
theorem zau:∀z∈([]:List Num),z.ok V V.heap.size:=fun z hz=>by cases hz
theorem zaa {x:Num}{l:List Num}(h:x.ok V V.heap.size)(hs:∀z∈l,z.ok V V.heap.size):∀z∈x::l,z.ok V V.heap.size:=fun z hz=>(List.mem_cons.1 hz).elim (fun e=>by subst e;exact h) (hs z)
theorem zqA {f:FuncId}{fn:Func}{c:Code}{args:Array Value}{R:Ending->World->Prop}(hf:P.funcs[f]?=some fn)(hb:fn.body=some c)(hn:fn.ntmps=n)(hsz:args.size<=n)(ls:List (Tmp×Value))(hl:args.toList.zipIdx.map (fun p=>(p.2,p.1))=ls)(he:∀z∈e,z.ok V V.heap.size)
  (k:∀a,Frm n ls [] V e a V->c.wp P (bodyPost P fn R) a V):Calls P f args V R:=by
 refine calls_of_wp hf hb ?_
 refine k _ ⟨by simp;omega,rfl,fun p hp=>?_,⟨by simp,List.Pairwise.nil⟩,Env.start he⟩
 subst hl
 obtain⟨⟨v,i⟩,hm,rfl⟩:=List.mem_map.1 hp
 have h1:=List.mem_zipIdx hm
 simp only[Nat.zero_add,Nat.sub_zero,Array.length_toList]at h1
 obtain⟨-,h2,h3⟩:=h1
 simp only[Array.getD_eq_getD_getElem?]
 rw[Array.getElem?_append_left (by simpa using h2)]
 rw[h3]
 simp[h2]
theorem zay {fn:Func}{R:Ending->World->Prop}{t:Tmp}(hr:fn.results= #[.tmp t])(S:Frm n ls lb w e a V)(h:a.tmps.getD t undef=v)(hR:R (.returned v) V):bodyPost P fn R .ret a V:=
 bodyPost_ret (results_tmp hr _ _ _) S.defers (by rw[h];exact hR)
theorem zoA {fn:Func}{R:Ending->World->Prop}{t u:Tmp}{v':Value}(hr:fn.results= #[.tmp t,.tmp u])(S:Frm n ls lb w e a V)(h:a.tmps.getD t undef=v)(h':a.tmps.getD u undef=v')(hR:R (.returned (.tuple #[v,v'])) V):bodyPost P fn R .ret a V:=
 bodyPost_ret (results_tmp2 hr _ _ _) S.defers (by rw[h,h'];exact hR)
theorem zar {fn:Func}{R:Ending->World->Prop}{t:Tmp}{T:TypeId}{g:Nat}{cs:List Value}{d:TypeDesc}(hr:fn.results= #[.cell t T])(S:Frm n ls lb w e a V)(h:a.tmps.getD t undef= .pointer (some ⟨g,0,none⟩))(hi:lb[i]?=some ⟨g,T,cs⟩)(hu:P.underlying T=some d)(hd:d.isRow=true)(hs:(P.info? T).map (·.size)=some cs.length)
  (hR:R (.returned (.agg cs.toArray)) V):bodyPost P fn R .ret a V:=
 bodyPost_ret (results_cell_row hr a.tmps V g T cs.toArray (0,0) d h (S.bx i hi) hu (by cases d <;> simp_all [TypeDesc.isRow]) (by simpa using hs)) S.defers hR
theorem ze4 {fn:Func}{R:Ending->World->Prop}{t u:Tmp}{T:TypeId}{g:Nat}{cs:List Value}{d:TypeDesc}(hr:fn.results= #[.cell t T,.tmp u])(S:Frm n ls lb w e a V)(h:a.tmps.getD t undef= .pointer (some ⟨g,0,none⟩))(hi:lb[i]?=some ⟨g,T,cs⟩)(hu:P.underlying T=some d)(hd:d.isRow=true)(hs:(P.info? T).map (·.size)=some cs.length)
  (h':a.tmps.getD u undef=v) (hR:R (.returned (.tuple #[.agg cs.toArray,v])) V):bodyPost P fn R .ret a V:=by
 refine bodyPost_ret ?_ S.defers hR
 have e1:a.tmps[t]?.getD undef= .pointer (some ⟨g,0,none⟩):=by rw[<-zae];exact h
 have e3:a.tmps[u]?.getD undef=v:=by rw[<-zae];exact h'
 have r1:=run_loadVar_row (P:=P) V g T T cs.toArray (0,0) d (S.bx i hi) hu (by cases d <;> simp_all [TypeDesc.isRow]) (by simpa using hs)
 simp[results,hr,e1,e3,asAddr,r1]
theorem Frm.box {W0:World}{a0:Act}{g:Nat}{T:TypeId}{cs:List Value}{n0:Nat}{ls0:List (Tmp×Value)}{e0:List Num}(S:Frm n ls lb w e a V)(S0:Frm n0 ls0 lb w e0 a0 W0)(hg:W0.heap.size<=g)(hb:V.heap[g]?=some (.cells cs.toArray T (0,0)))(hn:cs.all za6=true):Frm n ls (lb++[⟨g,T,cs⟩]) w e a V:=by
 refine⟨S.size,S.defers,S.slots,⟨fun b hm=>?_,?_⟩,S.env⟩
 ·rcases List.mem_append.1 hm with hm|hm
  ·exact S.boxes.here b hm
  ·rw[List.mem_singleton]at hm
   subst hm
   exact⟨by have:=S0.env.1.size;show w.heap.size<=g;omega,hb,hn⟩
 ·rw[List.pairwise_append]
  refine⟨S.boxes.apart,List.pairwise_singleton _ _,fun b hm c hc=>?_⟩
  rw[List.mem_singleton]at hc
  subst hc
  have:=(Array.getElem?_eq_some_iff.1 (S0.boxes.here b hm).2.1).1
  show b.g≠g
  omega
end
section
section
variable {P:Program}{ops:Array Oper}{md:Region.Mode}{Q:Exit -> Act -> World -> Prop}
theorem zoB (I:Array Bool->Act->World->Prop)(hback:zij md ops ops.size=true)
  (hstep:∀listed a w i,listed.size=ops.size->i<ops.size->listed.getD i false=false->(∀j,Region.waitsFor md ops i j=true->listed.getD j false=true)->(∀j,Region.waitsFor md ops j i=true->listed.getD j false=false)->I listed a w->wpOp P ops Q i (fun a' w'=>I (listed.setIfInBounds i true) a' w') a w)
  (hfin:∀listed a w,(∀j,j<ops.size->listed.getD j false=true)->I listed a w->Q .normal a w):
  ∀(f:Nat) (listed:Array Bool) (a:Act) (w:World),HeadInv md ops ops.size listed->unl listed ops.size=f->I listed a w->wpAny P md ops Q f listed a w:=by
 intro f
 induction f with
 |zero=>
  intro listed a w inv hf hI
  have hall:∀j,j<ops.size->listed.getD j false=true:=fun j hj=>by
   have:=zcZ hf j hj
   have hjs:j<listed.size:=by rw[inv.size];omega
   simpa[hjs]using this
  refine⟨?_,hfin listed a w hall hI⟩
  rw[List.eq_nil_iff_forall_not_mem]
  intro i hi
  obtain⟨h1,oi,hoi,-⟩:=mem_ready.1 hi
  have:=hall i (Array.getElem?_eq_some_iff.1 hoi).1
  rw[getD_both h1]at this;cases this
 |succ f ih=>
  intro listed a w inv hf hI
  obtain⟨m,hmn,hmun,hmall⟩:=zdS (listed:=listed) (n:=ops.size) (by omega)
  have hmr:m∈Region.ready md ops listed:=by
   refine mem_ready.2 ⟨hmun,ops[m],by simp[hmn],fun e he hb=>?_⟩
   have h1:=List.all_eq_true.1 hback m (List.mem_range.2 hmn)
   simp only[hmn,Array.getElem?_eq_getElem]at h1
   have h2:=Array.all_eq_true_iff_forall_mem.1 h1 e he
   simp only[hb,Bool.not_true,Bool.false_or,decide_eq_true_eq]at h2
   have h3:=hmall e.on h2
   have hes:e.on<listed.size:=by rw[inv.size];omega
   simpa[hes]using h3
  refine⟨fun h0=>(by rw[h0]at hmr;cases hmr),fun i hi=>?_⟩
  obtain⟨hiun,oi,hoi,hall⟩:=mem_ready.1 hi
  have hilt:i<ops.size:=(Array.getElem?_eq_some_iff.1 hoi).1
  refine wpOp_mono (fun a' w' h=>ih _ _ _ (inv.set hi hilt) (by have:=zfB hiun ops.size;rw[if_pos hilt]at this;omega) h) (hstep listed a w i inv.size hilt (getD_both hiun) (fun j hw=>?_) (fun j hw=>?_) hI)
  ·obtain⟨oj,hoj,e,he,hb,hon⟩:=Region.waitsFor_spec hw
   have:oj=oi:=Option.some.inj (hoj.symm.trans hoi)
   subst this
   rw[<-hon];exact hall e he hb
  ·cases hl:listed.getD j false with
   |false=>rfl
   |true=>
    obtain⟨oj,hoj,e,he,hb,hon⟩:=Region.waitsFor_spec hw
    have:=inv.closed j oj hoj hl e he hb
    rw[hon,getD_both hiun]at this;cases this
end
def Sto (shs:List (TypeId×Nat))(g:Nat)(vs:List Value)(V V':World):Prop:=∃(T:TypeId) (cs:List Value),V.heap[g]?=some (.cells cs.toArray T (0,0))/\V'.heap[g]?=some (.cells vs.toArray T (0,0))/\cs.all za6=true/\vs.all za6=true/\vs.length=cs.length/\(T,cs.length)∈shs/\
 V'.heap.size=V.heap.size/\(∀k,k≠g->V'.heap[k]?=V.heap[k]?)/\V'.os=V.os/\V'.tape=V.tape/\V'.output=V.output
variable {n:Nat}{ls:List (Tmp × Value)}{lb:List Bx}{w V V':World}{e:List Num}{a:Act}{P:Program}{shs:List (TypeId × Nat)}{g:Nat}{vs:List Value}
theorem Sto.limb (h:Sto shs g vs V V'){p:Addr}{z:Int}(hp:V.cell? p=some (.int .u32 z)):V'.cell? p=some (.int .u32 z):=by
 obtain⟨T,cs,h1,h2,h3,h4,h5,h6,h7,h8,-⟩:=h
 by_cases hg:p.block=g
 ·exfalso
  subst hg
  obtain⟨b,off,sub⟩:=p
  have hh:V.heap[b]?=some (.cells cs.toArray T (0,0)):=h1
  cases sub with
  |none=>
   rw[cell_of_row V b off cs.toArray T (0,0) hh]at hp
   have hm:(Value.int .u32 z)∈cs:=List.mem_of_getElem? (by simpa using hp)
   have:=List.all_eq_true.1 h3 _ hm
   cases this
  |some s=>
   simp[World.cell?,hh]at hp
 ·rw[World.cell?_of_block (w:=V) (h8 _ hg)];exact hp
theorem Sto.size (h:Sto shs g vs V V'):V'.heap.size=V.heap.size:=by obtain⟨T,cs,h1,h2,h3,h4,h5,h6,h7,h8,-⟩:=h;exact h7
theorem Sto.num (h:Sto shs g vs V V'){x:Num}(hx:x.ok V V.heap.size):x.ok V' V'.heap.size:=by
 obtain⟨⟨h1,h2⟩,h3⟩:=hx
 refine⟨⟨h1,fun hn=>?_⟩,h3⟩
 obtain⟨ad,e1,hb,hc⟩:=h2 hn
 exact⟨ad,e1,by rw[h.size];exact hb,fun j hj=>h.limb (hc j hj)⟩
theorem Sto.other (h:Sto shs g vs V V'){k:Nat}(hk:k≠g):V'.heap[k]?=V.heap[k]?:=by obtain⟨T,cs,h1,h2,h3,h4,h5,h6,h7,h8,-⟩:=h;exact h8 k hk
theorem Sto.below (h:Sto shs g vs V V'){B:Nat}(hB:B<=g):Below B V V':=by
 obtain⟨T,cs,h1,h2,h3,h4,h5,h6,h7,h8,h9,h10,h11⟩:=h
 exact⟨h9,h10,h11,by omega,fun k hk=>h8 k (by omega)⟩
theorem Sto.env (h:Sto shs g vs V V')(hE:Env w e V)(hg:w.heap.size<=g):Env w e V':=⟨hE.1.trans (h.below hg),fun z hz=>h.num (hE.2 z hz)⟩
theorem Sto.boxes (h:Sto shs g vs V V'){lo:Nat}(hb:Boxes lo lb V)(hg:∀b∈lb,b.g≠g):Boxes lo lb V':=
 ⟨fun b hm=>by obtain⟨h1,h2,h3⟩:=hb.here b hm;exact⟨h1,(h.other (hg b hm)).trans h2,h3⟩,hb.apart⟩
theorem zdN (g:Nat):∀(vs:List Value) (o:Nat) (V:World) (cs:Array Value) (T:TypeId),V.heap[g]?=some (.cells cs T (0,0))->(V.setCells g o vs).heap[g]?=some (.cells (zcy cs.toList o vs).toArray T (0,0))/\(V.setCells g o vs).heap.size=V.heap.size/\(∀k,k≠g->(V.setCells g o vs).heap[k]?=V.heap[k]?)/\(V.setCells g o vs).os=V.os/\(V.setCells g o vs).tape=V.tape/\(V.setCells g o vs).output=V.output
 |[],o,V,cs,T,h=>⟨by simpa[zcy,World.setCells]using h,rfl,fun _ _=>rfl,rfl,rfl,rfl⟩
 |v::vs,o,V,cs,T,h=>by
  have h1:(V.setCell ⟨g,o,none⟩ v).heap[g]?=some (.cells (cs.setIfInBounds o v) T (0,0)):=Box3.put h o v
  obtain⟨a1,a2,a3,a4,a5,a6⟩:=zdN g vs (o+1) _ _ _ h1
  refine⟨?_,?_,fun k hk=>?_,a4,a5,a6⟩
  ·rw[World.setCells,a1];simp[zcy]
  ·rw[World.setCells,a2];simp
  ·rw[World.setCells,a3 k hk];exact Below.heap_setCell _ _ _ _ hk
theorem zkY:∀(vs cs:List Value),vs.length=cs.length->zcy cs 0 vs=vs:=by
 have key:∀(vs cs pre:List Value),vs.length=cs.length->zcy (pre++cs) pre.length vs=pre++vs:=by
  intro vs
  induction vs with
  |nil=>intro cs pre h;cases cs with
   |nil=>simp[zcy]
   |cons c cs=>simp at h
  |cons v vs ih=>
   intro cs pre h
   match cs,h with
   |c::cs,h=>
    simp only[List.length_cons,Nat.add_right_cancel_iff]at h
    have:=ih cs (pre++[v]) h
    simp only[List.append_assoc,List.singleton_append,List.length_append,List.length_cons,List.length_nil]at this
    rw[zcy,<-this]
    simp
 intro vs cs h
 simpa using key vs cs [] h
theorem zt3 {T:TypeId}{cs:List Value}(h:V.heap[g]?=some (.cells cs.toArray T (0,0)))(hc:cs.all za6=true)(hv:vs.all za6=true)(hl:vs.length=cs.length)(hs:(T,cs.length)∈shs):Sto shs g vs V (V.setCells g 0 vs):=by
 obtain⟨a1,a2,a3,a4,a5,a6⟩:=zdN g vs 0 V _ _ h
 rw[List.toList_toArray,zkY vs cs hl]at a1
 exact⟨T,cs,h,a1,hc,hv,hl,hs,a2,a3,a4,a5,a6⟩
structure Al where
 i:Nat
 t:Tmp
 T:TypeId
 cs:List Value
structure St where
 i:Nat
 tb:Tmp
 T:TypeId
 P:Value->World->Prop
def zt4 (s:St)(g0:Nat)(out:List Nat)(v:Value)(V:World):Prop:=∃(g:Nat) (vs:List Value),v= .pointer (some ⟨g,0,none⟩)/\(g0<=g\/g∈out)/\V.heap[g]?=some (.cells vs.toArray s.T (0,0))/\vs.all za6=true/\s.P (.agg vs.toArray) V
def zsl (p:Al)(g0:Nat)(kept:Bool)(v:Value)(V:World):Prop:=∃(g:Nat) (cs:List Value),v= .pointer (some ⟨g,0,none⟩)/\g0<=g/\V.heap[g]?=some (.cells cs.toArray p.T (0,0))/\cs.length=p.cs.length/\cs.all za6=true/\(kept=true->cs=p.cs)
structure RegI (dst:List (Option Tmp)) (fact:Nat->Value->World->Prop) (als:List Al) (sts:List St) (sb:List (Nat×Bx)) (n:Nat) (ls:List (Tmp×Value)) (lb:List Bx) (w:World) (e:List Num) (W0:World) (listed:Array Bool) (a:Act) (V:World):Prop where
 frm:Frm n ls lb w e a V
 size:W0.heap.size<=V.heap.size
 val:∀i t,dst[i]?=some (some t)->als.all (fun p=>p.i != i)=true->listed.getD i false=true->fact i (a.tmps.getD t undef) V
 alc:∀p∈als,listed.getD p.i false=true->zsl p W0.heap.size (sts.all (fun s=>s.tb != p.t)) (a.tmps.getD p.t undef) V
 dis:∀p∈als,∀q∈als,p.i≠q.i->listed.getD p.i false=true->listed.getD q.i false=true->a.tmps.getD p.t undef≠a.tmps.getD q.t undef
 sto:∀s∈sts,listed.getD s.i false=true->zt4 s W0.heap.size (sb.map (·.2.g)) (a.tmps.getD s.tb undef) V/\∀q∈als,q.t=s.tb->listed.getD q.i false=true
 pre:∀p∈sb,listed.getD p.1 false=false->V.heap[p.2.g]?=some (.cells p.2.cs.toArray p.2.t (0,0))
def id_ (o:Option Tmp):Option Tmp:=o
theorem zqB {dst:List (Option Tmp)}(hnd:(dst.filterMap id_).Nodup){i j:Nat}{t:Tmp}(hi:dst[i]?=some (some t))(hj:dst[j]?=some (some t)):i=j:=by
 induction dst generalizing i j with
 |nil=>simp at hi
 |cons d dst ih=>
  have hmem:∀k,dst[k]?=some (some t)->t∈dst.filterMap id_:=fun k hk=>List.mem_filterMap.2 ⟨some t,List.mem_of_getElem? hk,rfl⟩
  cases d with
  |none=>
   have hnd':(dst.filterMap id_).Nodup:=by rw[List.filterMap_cons]at hnd;exact hnd
   cases i with
   |zero=>simp at hi
   |succ i=>cases j with
    |zero=>simp at hj
    |succ j=>exact congrArg (· +1) (ih hnd' (by simpa using hi) (by simpa using hj))
  |some u=>
   have hnd2:(u::dst.filterMap id_).Nodup:=by rw[List.filterMap_cons]at hnd;exact hnd
   have hnd':=List.nodup_cons.1 hnd2
   cases i with
   |zero=>cases j with
    |zero=>rfl
    |succ j=>
     simp at hi;subst hi
     exact absurd (hmem j (by simpa using hj)) hnd'.1
   |succ i=>cases j with
    |zero=>
     simp at hj;subst hj
     exact absurd (hmem i (by simpa using hi)) hnd'.1
    |succ j=>exact congrArg (· +1) (ih hnd'.2 (by simpa using hi) (by simpa using hj))
theorem zgm {als:List Al}(h:(als.map (·.i)).Nodup){p q:Al}(hp:p∈als)(hq:q∈als)(e2:p.i=q.i):p=q:=by
 induction als with
 |nil=>cases hp
 |cons x als ih=>
  simp only[List.map_cons,List.nodup_cons,List.mem_map,not_exists,not_and]at h
  rcases List.mem_cons.1 hp with hp1|hp1
  ·rcases List.mem_cons.1 hq with hq1|hq1
   ·rw[hp1,hq1]
   ·subst hp1;exact absurd e2.symm (h.1 q hq1)
  ·rcases List.mem_cons.1 hq with hq1|hq1
   ·subst hq1;exact absurd e2 (h.1 p hp1)
   ·exact ih h.2 hp1 hq1
theorem zvf {sb:List (Nat×Bx)}(h:sb.Pairwise (fun b c=>b.2.g≠c.2.g)){p q:Nat×Bx}(hp:p∈sb)(hq:q∈sb)(hne:p≠q):p.2.g≠q.2.g:=by
 induction sb with
 |nil=>cases hp
 |cons x sb ih=>
  rw[List.pairwise_cons]at h
  rcases List.mem_cons.1 hp with hp1|hp1
  ·rcases List.mem_cons.1 hq with hq1|hq1
   ·exact absurd (hp1.trans hq1.symm) hne
   ·subst hp1;exact h.1 q hq1
  ·rcases List.mem_cons.1 hq with hq1|hq1
   ·subst hq1;exact(h.1 p hp1).symm
   ·exact ih h.2 hp1 hq1
theorem List.contains_eq_false_iff_not_mem' {l:List Nat}{a:Nat}:l.contains a=false↔a∉l:=by simp
theorem zme {ops:Array Oper}{Q:Exit->Act->World->Prop}{i:Nat}{o:Oper}{t:Tmp}{v:Value}{K:Act->World->Prop}(ho:ops[i]?=some o)(hd:o.dst=some t)(hw:Region.wanted o (yielded ops a.tmps)=true)(hr:(execOp a.eval o).run P V= .ok (.value v) V')(hK:K (a.put (some t) v) V'):wpOp P ops Q i K a V:=by
 unfold wpOp
 simp only[ho,hw,if_true,Oper.wp,hr,Oper.upon,hd]
 exact .inl hK
theorem zkZ {ops:Array Oper}{Q:Exit->Act->World->Prop}{i:Nat}{o:Oper}{K:Act->World->Prop}(ho:ops[i]?=some o)(hd:o.dst=none)(hw:Region.wanted o (yielded ops a.tmps)=true)(hr:(execOp a.eval o).run P V= .ok .skip V')(hK:K a V'):wpOp P ops Q i K a V:=by
 unfold wpOp
 simp only[ho,hw,if_true,Oper.wp,hr,Oper.upon,hd]
 exact .inl hK
theorem zif {listed:Array Bool}{i:Nat}(hi:i<listed.size):(listed.setIfInBounds i true).getD i false=true:=by simp[hi]
theorem zqC {id:Nat}{l:List Oper}{W0:World}{a0:Act}{Q:Exit->Act->World->Prop}(shs:List (TypeId×Nat))(dst:List (Option Tmp))(fact:Nat->Value->World->Prop)(als:List Al)(sts:List St)(sb:List (Nat×Bx))
  (S0:Frm n ls (lb++sb.map (·.2)) w e a0 W0) (hm:P.follows .mixedOrders=true) (hback:zij .any l.toArray l.length=true) (hdl:dst.length=l.length) (hnd:(dst.filterMap id_).Nodup) (hds:(dst.filterMap id_).all (· <n)=true) (hfr:zkW ls (dst.filterMap id_)=true)
  (hals:∀p∈als,dst[p.i]?=some (some p.t)) (hsts:∀s∈sts,dst[s.i]?=some none) (hnone:∀i,dst[i]?=some none->∃s∈sts,s.i=i) (halsN:(als.map (·.i)).Nodup) (hstsN:∀s∈sts,∀s'∈sts,s.i=s'.i->s=s') (htb:∀s∈sts,∀s'∈sts,s.tb=s'.tb->s=s')
  (hsrc:∀s∈sts,(∃q∈als,q.t=s.tb/\Region.waitsFor .any l.toArray s.i q.i=true)\/(∃p∈sb,p.1=s.i/\(s.tb,Value.pointer (some ⟨p.2.g,0,none⟩))∈ls))
  (hmono:∀i v V V',fact i v V->Below V.heap.size V V'->fact i v V') (hmonoS:∀i g vs v V V',fact i v V->Sto shs g vs V V'->fact i v V')
  (hP:∀s∈sts,∀v V V',s.P v V->Below V.heap.size V V'->s.P v V') (hPS:∀s∈sts,∀g vs v V V',s.P v V->Sto shs g vs V V'->s.P v V')
  (hval:∀i t,dst[i]?=some (some t)->als.all (fun p=>p.i != i)=true->∀a V,Frm n ls lb w e a V->W0.heap.size<=V.heap.size->(∀j t',dst[j]?=some (some t')->als.all (fun p=>p.i != j)=true->Region.waitsFor .any l.toArray i j=true->fact j (a.tmps.getD t' undef) V)->
    (∀p∈sb,Region.waitsFor .any l.toArray p.1 i=true->V.heap[p.2.g]?=some (.cells p.2.cs.toArray p.2.t (0,0)))->zcA P l.toArray Q i t (fact i) a V)
  (hal:∀p∈als,p.cs.all za6=true/\∃o,l.toArray[p.i]?=some o/\o.guard=none/\o.dst=some p.t/\∀a V,Frm n ls lb w e a V->(execOp a.eval o).run P V= .ok (.value (.pointer (some ⟨V.heap.size,0,none⟩))) (V.alloc (.cells p.cs.toArray p.T)))
  (hst:∀s∈sts,∃o k,l.toArray[s.i]?=some o/\o.guard=none/\o.dst=none/\(s.T,k)∈shs/\(∀p∈als,p.t=s.tb->p.T=s.T/\p.cs.length=k)/\(∀p∈sb,p.1=s.i->p.2.t=s.T/\p.2.cs.length=k)/\∀a V g,Frm n ls lb w e a V->a.tmps.getD s.tb undef= .pointer (some ⟨g,0,none⟩)->(∀j t',dst[j]?=some (some t')->als.all (fun p=>p.i != j)=true->Region.waitsFor .any l.toArray s.i j=true->fact j (a.tmps.getD t' undef) V)->
    ∃vs,vs.all za6=true/\vs.length=k/\s.P (.agg vs.toArray) V/\((∀j,j<k->(V.cell? ⟨g,j,none⟩).isSome=true/\V.frozen? ⟨g,j,none⟩=false)->(execOp a.eval o).run P V= .ok .skip (V.setCells g 0 vs)))
  (hfin:∀a V,Frm n ls lb w e a V->W0.heap.size<=V.heap.size->(∀j t',dst[j]?=some (some t')->als.all (fun p=>p.i != j)=true->fact j (a.tmps.getD t' undef) V)->(∀p∈als,zsl p W0.heap.size (sts.all (fun s=>s.tb != p.t)) (a.tmps.getD p.t undef) V)->
    (∀p∈als,∀q∈als,p.i≠q.i->a.tmps.getD p.t undef≠a.tmps.getD q.t undef)->(∀s∈sts,zt4 s W0.heap.size (sb.map (·.2.g)) (a.tmps.getD s.tb undef) V)->(∀p∈sb,sts.all (fun s=>s.i != p.1)=true->V.heap[p.2.g]?=some (.cells p.2.cs.toArray p.2.t (0,0)))->Q .normal a V)
  (hsbs:∀p∈sb,∃s∈sts,s.i=p.1):
  (Code.region id l.toArray true).wp P Q a0 W0:=by
 have hinj:∀(i j:Nat) (t:Tmp),dst[i]?=some (some t)->dst[j]?=some (some t)->i=j:=fun i j t hi hj=>zqB hnd hi hj
 have hbx0:=S0.boxes
 have hlb:Boxes w.heap.size lb W0:=⟨fun b hb=>hbx0.here b (List.mem_append_left _ hb),(List.pairwise_append.1 hbx0.apart).1⟩
 have hlbsb:∀b∈lb,∀p∈sb,b.g≠p.2.g:=fun b hb p hp=>(List.pairwise_append.1 hbx0.apart).2.2 b hb p.2 (List.mem_map.2 ⟨p,hp,rfl⟩)
 have hsbsb:∀p∈sb,∀q∈sb,p≠q->p.2.g≠q.2.g:=fun p hp q hq hne=>by
  have h1:=(List.pairwise_append.1 hbx0.apart).2.1
  rw[List.pairwise_map]at h1
  exact zvf h1 hp hq hne
 have hlt0:∀b,b∈lb\/(∃p∈sb,p.2=b)->b.g<W0.heap.size:=fun b hb=>by
  have:b∈lb++sb.map (·.2):=by
    rcases hb with hb|⟨p,hp,rfl⟩
    ·exact List.mem_append_left _ hb
    ·exact List.mem_append_right _ (List.mem_map.2 ⟨p,hp,rfl⟩)
  exact(Array.getElem?_eq_some_iff.1 (hbx0.here b this).2.1).1
 have hF0:Frm n ls lb w e a0 W0.drew:=⟨S0.size,S0.defers,S0.slots,⟨hlb.here,hlb.apart⟩,⟨S0.env.1.drew,S0.env.2⟩⟩
 refine wp_region_any hm ?_
 have hu:∀k,k<=l.toArray.size->unl (Array.replicate l.toArray.size false) k=k:=by
  intro k
  induction k with
  |zero=>intro _;rfl
  |succ k ih=>
    intro hk
    simp only[unl,ih (by omega)]
    rw[getD_in (by simp at hk ⊢;omega) (getD_replicate_false _ _)]
    simp
 have hI0:RegI dst fact als sts sb n ls lb w e W0 (Array.replicate l.toArray.size false) a0 W0.drew:=
  ⟨hF0,Nat.le_refl _,fun i t _ _ h=>(by rw[getD_replicate_false]at h;cases h),fun p _ h=>(by rw[getD_replicate_false]at h;cases h),fun p _ q _ _ h=>(by rw[getD_replicate_false]at h;cases h),fun s _ h=>(by rw[getD_replicate_false]at h;cases h),
   fun p hp _=>(hbx0.here p.2 (List.mem_append_right _ (List.mem_map.2 ⟨p,hp,rfl⟩))).2.1⟩
 refine zoB (RegI dst fact als sts sb n ls lb w e W0) (by simpa using hback) ?_ ?_ l.toArray.size (Array.replicate l.toArray.size false) a0 W0.drew ⟨by simp,fun j oj _ hl=>(by rw[getD_replicate_false]at hl;cases hl),fun t ht ht'=>by omega⟩ (hu _ zv0) hI0
 ·intro listed a V i hsz hi hun hwt hwt' I
  have hi':i<dst.length:=by rw[hdl];simpa using hi
  have hself:(listed.setIfInBounds i true).getD i false=true:=zif (by rw[hsz];exact hi)
  have hoth:∀j,j≠i->(listed.setIfInBounds i true).getD j false=listed.getD j false:=fun j hj=>getD_set_ne false (Ne.symm hj)
  have grow:∀t v V',dst[i]?=some (some t)->Below V.heap.size V V'->(als.all (fun p=>p.i != i)=true->fact i v V')->(∀p∈als,p.i=i->zsl p W0.heap.size true v V'/\∀g,g<V.heap.size->v≠ .pointer (some ⟨g,0,none⟩))->
     RegI dst fact als sts sb n ls lb w e W0 (listed.setIfInBounds i true) (a.put (some t) v) V':=by
    intro t v V' hd hb hf ha
    have ht:t<n:=by
     have:=List.all_eq_true.1 hds t (List.mem_filterMap.2 ⟨some t,List.mem_of_getElem? hd,rfl⟩)
     simpa using this
    have hput:(a.put (some t) v).tmps.getD t undef=v:=zdU _ _ _ (by rw[I.frm.size];exact ht)
    have hne:∀j t',dst[j]?=some (some t')->j≠i->(a.put (some t) v).tmps.getD t' undef=a.tmps.getD t' undef:=fun j t' hj hji=>zb2 _ _ (fun e2=>by subst e2;exact hji (hinj j i t hj hd))
    have hls:∀p∈ls,p.1≠t:=fun p hp e2=>by
     have:=List.all_eq_true.1 hfr p hp
     simp only[Bool.not_eq_true',List.contains_eq_false_iff_not_mem']at this
     exact this (by rw[e2];exact List.mem_filterMap.2 ⟨some t,List.mem_of_getElem? hd,rfl⟩)
    refine⟨?_,zv2 I.size hb.size,fun j t' hj hv hl=>?_,fun p hp hl=>?_,fun p hp q hq hpq hlp hlq=>?_,fun s hs hl=>?_,fun p hp hl=>?_⟩
    ·have F:=I.frm.later hb
     exact⟨by rw[zdT];exact F.size,F.defers,fun p hp=>by rw[zb2 _ _ (fun e2=>hls p hp e2.symm)];exact F.slots p hp,F.boxes,F.env⟩
    ·by_cases e2:j=i
     ·subst e2
      rw[hd]at hj;cases hj
      rw[hput];exact hf hv
     ·rw[hoth j e2]at hl
      rw[hne j t' hj e2]
      exact hmono _ _ _ _ (I.val j t' hj hv hl) hb
    ·by_cases e2:p.i=i
     ·have h1:=hals p hp
      rw[e2,hd]at h1;cases h1
      rw[hput]
      obtain⟨g,cs,b1,b2,b3,b4,b5,b6⟩:=(ha p hp e2).1
      exact⟨g,cs,b1,b2,b3,b4,b5,fun _=>b6 rfl⟩
     ·rw[hoth _ e2]at hl
      rw[hne p.i p.t (hals p hp) e2]
      obtain⟨g,cs,b1,b2,b3,b4⟩:=I.alc p hp hl
      exact⟨g,cs,b1,b2,(hb.block g (Array.getElem?_eq_some_iff.1 b3).1).trans b3,b4⟩
    ·by_cases ep:p.i=i
     ·have h1:=hals p hp
      rw[ep,hd]at h1;cases h1
      have eq:q.i≠i:=fun h=>hpq (ep.trans h.symm)
      rw[hoth _ eq]at hlq
      rw[hput,hne q.i q.t (hals q hq) eq]
      obtain⟨g,cs,b1,b2,b3,-⟩:=I.alc q hq hlq
      rw[b1]
      exact(ha p hp ep).2 g (Array.getElem?_eq_some_iff.1 b3).1
     ·rw[hoth _ ep]at hlp
      rw[hne p.i p.t (hals p hp) ep]
      by_cases eq:q.i=i
      ·have h1:=hals q hq
       rw[eq,hd]at h1;cases h1
       rw[hput]
       obtain⟨g,cs,b1,b2,b3,-⟩:=I.alc p hp hlp
       rw[b1]
       exact fun h=>(ha q hq eq).2 g (Array.getElem?_eq_some_iff.1 b3).1 h.symm
      ·rw[hoth _ eq]at hlq
       rw[hne q.i q.t (hals q hq) eq]
       exact I.dis p hp q hq hpq hlp hlq
    ·have hsi:s.i≠i:=fun h=>by have:=hsts s hs;rw[h,hd]at this;cases this
     rw[hoth _ hsi]at hl
     obtain⟨⟨g,vs,b1,b2,b3,b4,b5⟩,h6⟩:=I.sto s hs hl
     refine⟨?_,fun q hq hqt=>?_⟩
     ·have hst':s.tb≠t:=by
       intro h
       rcases hsrc s hs with⟨q,hq,hqt,-⟩|⟨p,hp,-,hpl⟩
       ·have h7:=h6 q hq hqt
        have h8:=hals q hq
        rw[hqt,h]at h8
        have:=hinj _ _ _ h8 hd
        rw[this,hun]at h7;cases h7
       ·exact hls _ hpl h
      rw[zb2 _ _ (Ne.symm hst')]
      exact⟨g,vs,b1,b2,(hb.block g (Array.getElem?_eq_some_iff.1 b3).1).trans b3,b4,hP s hs _ _ _ b5 hb⟩
     ·have h7:=h6 q hq hqt
      have hqi:q.i≠i:=fun h=>by rw[h,hun]at h7;cases h7
      rw[hoth _ hqi];exact h7
    ·by_cases e2:p.1=i
     ·rw[e2,hself]at hl;cases hl
     ·rw[hoth _ e2]at hl
      have h1:=I.pre p hp hl
      exact(hb.block _ (Array.getElem?_eq_some_iff.1 h1).1).trans h1
  cases hdi:dst[i]with
  |some t=>
    have hd:dst[i]?=some (some t):=by rw[List.getElem?_eq_getElem hi',hdi]
    by_cases hai:als.all (fun p=>p.i != i)=true
    ·refine wpOp_mono ?_ (hval i t hd hai a V I.frm I.size (fun j t' hj hv hw=>I.val j t' hj hv (hwt j hw)) (fun p hp hw=>I.pre p hp (hwt' _ hw)))
     rintro a' V' ⟨v,rfl,h1,h2,-⟩
     exact grow t v V' hd h2 (fun _=>h1) (fun p hp hpi=>by have:=List.all_eq_true.1 hai p hp;simp[hpi]at this)
    ·obtain⟨p,hp,hpi⟩:∃p∈als,p.i=i:=by
      simp only[List.all_eq_true,bne_iff_ne,ne_eq,Classical.not_forall,Classical.not_not]at hai
      obtain⟨p,hp,h⟩:=hai
      exact⟨p,hp,h⟩
     subst hpi
     obtain⟨hn,o,ho,hg,hdo,hr⟩:=hal p hp
     have hpt:t=p.t:=by have:=hals p hp;rw[hd]at this;cases this;rfl
     subst hpt
     refine zme ho hdo (zac hg) (hr a V I.frm) ?_
     have hb:Below V.heap.size V (V.alloc (.cells p.cs.toArray p.T)):=zv1.alloc zv0 _
     refine grow p.t _ _ hd hb (fun h=>by have:=List.all_eq_true.1 h p hp;simp at this) (fun q hq hqi=>⟨?_,fun g hg e2=>?_⟩)
     ·have:q=p:=zgm halsN hq hp hqi
      subst this
      exact⟨V.heap.size,q.cs,rfl,I.size,World.alloc_heap_new' V _,rfl,hn,fun _=>rfl⟩
     ·injection e2 with e2;injection e2 with e2;injection e2 with e2;omega
  |none=>
    have hd:dst[i]?=some none:=by rw[List.getElem?_eq_getElem hi',hdi]
    obtain⟨s,hs,hsi⟩:=hnone i hd
    subst hsi
    obtain⟨o,k,ho,hg,hdo,hsh,hka,hkb,hx⟩:=hst s hs
    obtain⟨g,cs,hgp,hgo,hgh,hgl,hgn,hgq,hgs⟩:∃(g:Nat) (cs:List Value),a.tmps.getD s.tb undef= .pointer (some ⟨g,0,none⟩)/\(W0.heap.size<=g\/g∈sb.map (·.2.g))/\V.heap[g]?=some (.cells cs.toArray s.T (0,0))/\cs.length=k/\cs.all za6=true/\(∀q∈als,q.t=s.tb->listed.getD q.i false=true)/\(∀p∈sb,p.1≠s.i->p.2.g≠g):=by
     rcases hsrc s hs with⟨q,hq,hqt,hqw⟩|⟨p,hp,hpi,hpl⟩
     ·obtain⟨g,cs,b1,b2,b3,b4,b5,-⟩:=I.alc q hq (hwt _ hqw)
      obtain⟨c1,c2⟩:=hka q hq hqt
      refine⟨g,cs,by rw[<-hqt];exact b1,.inl b2,by rw[<-c1];exact b3,b4.trans c2,b5,fun q' hq' hqt'=>?_,fun p hp _=>?_⟩
      ·have h1:=hals q hq
       have h2:=hals q' hq'
       rw[hqt]at h1;rw[hqt']at h2
       rw[hinj _ _ _ h2 h1];exact hwt _ hqw
      ·have:=hlt0 p.2 (.inr ⟨p,hp,rfl⟩);omega
     ·have h1:=I.pre p hp (by rw[hpi];exact hun)
      obtain⟨c1,c2⟩:=hkb p hp hpi
      refine⟨p.2.g,p.2.cs,I.frm.slots _ hpl,.inr (List.mem_map.2 ⟨p,hp,rfl⟩),by rw[<-c1];exact h1,c2,(hbx0.here p.2 (List.mem_append_right _ (List.mem_map.2 ⟨p,hp,rfl⟩))).2.2,fun q hq hqt=>?_,fun p' hp' hne=>hsbsb p' hp' p hp (fun h=>hne (by rw[h];exact hpi))⟩
      exfalso
      have h2:=List.all_eq_true.1 hfr _ hpl
      simp only[Bool.not_eq_true',List.contains_eq_false_iff_not_mem']at h2
      exact h2 (List.mem_filterMap.2 ⟨some s.tb,List.mem_of_getElem? (by rw[<-hqt];exact hals q hq),rfl⟩)
    obtain⟨vs,hvn,hvl,hvP,hr⟩:=hx a V g I.frm hgp (fun j t' hj hv hw=>I.val j t' hj hv (hwt j hw))
    have hr':=hr (fun j hj=>by
     constructor
     ·rw[cell_of_row V g j cs.toArray s.T (0,0) hgh];simp[hgl,hj]
     ·simp[World.frozen?,hgh])
    have hS:Sto shs g vs V (V.setCells g 0 vs):=zt3 hgh hgn hvn (by omega) (by rw[hgl];exact hsh)
    have hge:w.heap.size<=g:=by
     rcases hgo with h|h
     ·have:=S0.env.1.size;omega
     ·obtain⟨p,hp,rfl⟩:=List.mem_map.1 h
      exact(hbx0.here p.2 (List.mem_append_right _ (List.mem_map.2 ⟨p,hp,rfl⟩))).1
    have hlbg:∀b∈lb,b.g≠g:=fun b hb=>by
     rcases hgo with h|h
     ·have:=hlt0 b (.inl hb);omega
     ·obtain⟨p,hp,rfl⟩:=List.mem_map.1 h
      exact hlbsb b hb p hp
    refine zkZ ho hdo (zac hg) hr' ?_
    have hg2:(V.setCells g 0 vs).heap[g]?=some (.cells vs.toArray s.T (0,0)):=by
     obtain⟨T,cs',x1,x2,-⟩:=hS
     rw[hgh]at x1
     injection x1 with x1
     injection x1 with x3 x4
     rw[x4];exact x2
    refine⟨⟨I.frm.size,I.frm.defers,I.frm.slots,hS.boxes I.frm.boxes hlbg,hS.env I.frm.env hge⟩,by rw[hS.size];exact I.size,fun j t' hj hv hl=>?_,fun p hp hl=>?_,fun p hp q hq hpq hlp hlq=>?_,fun s' hs' hl=>?_,fun p hp hl=>?_⟩
    ·have hji:j≠s.i:=fun h=>by rw[h,hd]at hj;cases hj
     rw[hoth j hji]at hl
     exact hmonoS _ _ _ _ _ _ (I.val j t' hj hv hl) hS
    ·have hji:p.i≠s.i:=fun h=>by have:=hals p hp;rw[h,hd]at this;cases this
     rw[hoth _ hji]at hl
     obtain⟨g',cs',b1,b2,b3,b4,b5,b6⟩:=I.alc p hp hl
     by_cases hgg:g'=g
     ·subst hgg
      have hpt:p.t=s.tb:=by
       rcases hsrc s hs with⟨q,hq,hqt,hqw⟩|⟨p',hp',hpi',hpl'⟩
       ·by_cases hpq:p.i=q.i
        ·rw[zgm halsN hp hq hpq];exact hqt
        ·exfalso
         refine I.dis p hp q hq hpq hl (hwt _ hqw) ?_
         rw[hqt,hgp,b1]
       ·exfalso
        have h1:=I.frm.slots _ hpl'
        rw[hgp]at h1
        injection h1 with h1;injection h1 with h1;injection h1 with h1
        have:=hlt0 p'.2 (.inr ⟨p',hp',rfl⟩)
        omega
      obtain⟨c1,c2⟩:=hka p hp hpt
      exact⟨g',vs,b1,b2,by rw[c1];exact hg2,by omega,hvn,fun h=>by have:=List.all_eq_true.1 h s hs;simp[hpt]at this⟩
     ·exact⟨g',cs',b1,b2,(hS.other hgg).trans b3,b4,b5,b6⟩
    ·have h1:p.i≠s.i:=fun h=>by have:=hals p hp;rw[h,hd]at this;cases this
     have h2:q.i≠s.i:=fun h=>by have:=hals q hq;rw[h,hd]at this;cases this
     rw[hoth _ h1]at hlp
     rw[hoth _ h2]at hlq
     exact I.dis p hp q hq hpq hlp hlq
    ·by_cases e2:s'.i=s.i
     ·have:s'=s:=hstsN s' hs' s hs e2
      subst this
      refine⟨⟨g,vs,hgp,hgo,hg2,hvn,hPS s' hs' _ _ _ _ _ hvP hS⟩,fun q hq hqt=>?_⟩
      have h2:q.i≠s'.i:=fun h=>by have:=hals q hq;rw[h,hd]at this;cases this
      rw[hoth _ h2];exact hgq q hq hqt
     ·rw[hoth _ e2]at hl
      obtain⟨⟨g',vs',b1,b2,b3,b4,b5⟩,h6⟩:=I.sto s' hs' hl
      have hgg:g'≠g:=by
       intro hgg
       subst hgg
       rcases hsrc s hs with⟨q,hq,hqt,hqw⟩|⟨p,hp,hpi,hpl⟩
       ·rcases hsrc s' hs' with⟨q',hq',hqt',-⟩|⟨p',hp',hpi',hpl'⟩
        ·have hqq:q.i≠q'.i:=fun h=>by
          have:=zgm halsN hq hq' h
          subst this
          exact e2 (by rw[htb s' hs' s hs (hqt'.symm.trans hqt)])
         exact I.dis q hq q' hq' hqq (hwt _ hqw) (h6 q' hq' hqt') (by rw[hqt,hqt',hgp,b1])
        ·have h1:=I.frm.slots _ hpl'
         rw[b1]at h1
         injection h1 with h1;injection h1 with h1;injection h1 with h1
         obtain⟨g2,cs2,d1,d2,-⟩:=I.alc q hq (hwt _ hqw)
         rw[hqt,hgp]at d1
         injection d1 with d1;injection d1 with d1;injection d1 with d1
         have:=hlt0 p'.2 (.inr ⟨p',hp',rfl⟩)
         omega
       ·have h0:=I.frm.slots _ hpl
        rw[hgp]at h0
        injection h0 with h0;injection h0 with h0;injection h0 with h0
        have hl0:=hlt0 p.2 (.inr ⟨p,hp,rfl⟩)
        rcases hsrc s' hs' with⟨q',hq',hqt',-⟩|⟨p',hp',hpi',hpl'⟩
        ·obtain⟨g2,cs2,d1,d2,-⟩:=I.alc q' hq' (h6 q' hq' hqt')
         rw[hqt',b1]at d1
         injection d1 with d1;injection d1 with d1;injection d1 with d1
         omega
        ·have h1:=I.frm.slots _ hpl'
         rw[b1]at h1
         injection h1 with h1;injection h1 with h1;injection h1 with h1
         exact hsbsb p' hp' p hp (fun h=>e2 (by rw[<-hpi',<-hpi,h])) (by omega)
      refine⟨⟨g',vs',b1,b2,(hS.other hgg).trans b3,b4,hPS s' hs' _ _ _ _ _ b5 hS⟩,fun q hq hqt=>?_⟩
      have h2:q.i≠s.i:=fun h=>by have:=hals q hq;rw[h,hd]at this;cases this
      rw[hoth _ h2];exact h6 q hq hqt
    ·by_cases e2:p.1=s.i
     ·rw[e2,hself]at hl;cases hl
     ·rw[hoth _ e2]at hl
      exact(hS.other (hgs p hp e2)).trans (I.pre p hp hl)
 ·intro listed a V hall I
  have hl:∀j (x:Option Tmp),dst[j]?=some x->listed.getD j false=true:=fun j x hj=>hall j (by have:=(List.getElem?_eq_some_iff.1 hj).1;rw[hdl]at this;simpa using this)
  exact hfin a V I.frm I.size (fun j t' hj hv=>I.val j t' hj hv (hl j _ hj)) (fun p hp=>I.alc p hp (hl _ _ (hals p hp))) (fun p hp q hq hpq=>I.dis p hp q hq hpq (hl _ _ (hals p hp)) (hl _ _ (hals q hq))) (fun s hs=>(I.sto s hs (hl _ _ (hsts s hs))).1)
    (fun p hp h=>by obtain⟨s,hs,hsi⟩:=hsbs p hp;have:=List.all_eq_true.1 h s hs;simp[hsi]at this)
theorem zei {g g':Nat}(h:Value.pointer (some ⟨g,0,none⟩)=Value.pointer (some ⟨g',0,none⟩)):g=g':=by
 injection h with h;injection h with h;injection h with h
theorem zej {vs ws:List Value}(h:Value.agg vs.toArray= .agg ws.toArray):vs=ws:=by
 injection h with h
 have:=congrArg Array.toList h
 simpa using this
theorem Frm.ne (S:Frm n ls lb w e a V)(i j:Nat){b c:Bx}(hi:lb[i]?=some b)(hj:lb[j]?=some c)(h:i≠j):b.g≠c.g:=by
 obtain⟨hi1,hi2⟩:=List.getElem?_eq_some_iff.1 hi
 obtain⟨hj1,hj2⟩:=List.getElem?_eq_some_iff.1 hj
 subst hi2 hj2
 rcases Nat.lt_or_gt_of_ne h with hlt|hlt
 ·exact List.pairwise_iff_getElem.1 S.boxes.apart i j hi1 hj1 hlt
 ·exact(List.pairwise_iff_getElem.1 S.boxes.apart j i hj1 hi1 hlt).symm
theorem Frm.lt (S:Frm n ls lb w e a V)(i:Nat){b:Bx}(hi:lb[i]?=some b):b.g<V.heap.size:=(Array.getElem?_eq_some_iff.1 (S.bx i hi)).1
theorem zaB {a b c:Nat}(h:a<c)(h':c<=b):a≠b:=by omega
theorem zfv {g:Nat}:∀b∈([]:List Bx),b.g≠g:=fun b hb=>by cases hb
theorem za1 {g:Nat}{b:Bx}{l:List Bx}(h:b.g≠g)(hs:∀c∈l,c.g≠g):∀c∈b::l,c.g≠g:=fun c hc=>(List.mem_cons.1 hc).elim (fun e=>by subst e;exact h) (hs c)
theorem Frm.readd {g:Nat}{T:TypeId}{cs:List Value}(S:Frm n ls lb w e a V)(hlo:w.heap.size<=g)(hb:V.heap[g]?=some (.cells cs.toArray T (0,0)))(hn:cs.all za6=true)(hne:∀b∈lb,b.g≠g):Frm n ls (lb++[⟨g,T,cs⟩]) w e a V:=by
 refine⟨S.size,S.defers,S.slots,⟨fun b hm=>?_,?_⟩,S.env⟩
 ·rcases List.mem_append.1 hm with hm|hm
  ·exact S.boxes.here b hm
  ·rw[List.mem_singleton]at hm
   subst hm
   exact⟨hlo,hb,hn⟩
 ·rw[List.pairwise_append]
  refine⟨S.boxes.apart,List.pairwise_singleton _ _,fun b hm c hc=>?_⟩
  rw[List.mem_singleton]at hc
  subst hc
  exact hne b hm
theorem Frm.reorder {lb':List Bx}(S:Frm n ls lb w e a V)(is:List Nat)(h:at_ lb is=lb')(hnd:is.Nodup):Frm n ls lb' w e a V:=by
 subst h
 refine⟨S.size,S.defers,S.slots,⟨fun b hb=>?_,?_⟩,S.env⟩
 ·obtain⟨i,_,hi⟩:=List.mem_filterMap.1 hb
  exact S.boxes.here b (List.mem_of_getElem? hi)
 ·unfold at_
  rw[List.pairwise_filterMap]
  refine hnd.imp ?_
  intro i j hij b hb c hc
  exact S.ne i j hb hc hij
theorem zfw {F:Value->World->Prop}{v:Value}{o:Oper}{T:TypeId}{tb tv:Tmp}{k g:Nat}(hF:F v V)(hp:∃vs:List Value,v= .agg vs.toArray/\vs.all za6=true/\vs.length=k/\vs.all (·.oneCell')=true)(ho:o.op= .store T (.tmp tb) (.tmp tv))(hg:a.tmps.getD tb undef= .pointer (some ⟨g,0,none⟩))(hv:a.tmps.getD tv undef=v)(hi:(P.info? T).map (·.size)=some k):
  ∃vs:List Value,vs.all za6=true/\vs.length=k/\F (.agg vs.toArray) V/\((∀j,j<k->(V.cell? ⟨g,j,none⟩).isSome=true/\V.frozen? ⟨g,j,none⟩=false)->(execOp a.eval o).run P V= .ok .skip (V.setCells g 0 vs)):=by
 obtain⟨vs,rfl,h1,h2,h3⟩:=hp
 subst h2
 exact⟨vs,h1,rfl,hF,fun ht=>zaj ho hg hv hi h3 (by omega) ht⟩
theorem zaO {α:Type}{p:α->Prop}:∀x∈([]:List α),p x:=fun x hx=>by cases hx
theorem all_cons {α:Type}{p:α->Prop}{x:α}{l:List α}(h:p x)(hs:∀y∈l,p y):∀y∈x::l,p y:=fun y hy=>(List.mem_cons.1 hy).elim (fun e=>by subst e;exact h) (hs y)
theorem zqD {f:St->Nat}{l:List St}{s s':St}(hs:s∈l)(hs':s'∈l)(h:f s=f s')(hn:(l.map f).Nodup):s=s':=by
 induction l with
 |nil=>cases hs
 |cons x l ih=>
  simp only[List.map_cons,List.nodup_cons,List.mem_map,not_exists,not_and]at hn
  rcases List.mem_cons.1 hs with h1|h1
  ·rcases List.mem_cons.1 hs' with h2|h2
   ·rw[h1,h2]
   ·subst h1;exact absurd h.symm (hn.1 s' h2)
  ·rcases List.mem_cons.1 hs' with h2|h2
   ·subst h2;exact absurd h (hn.1 s h1)
   ·exact ih h1 h2 hn.2
theorem Frm.sel (S:Frm n ls lb w e a V)(is:List Nat){ls':List (Tmp×Value)}(h:at_ ls is=ls'):Frm n ls' lb w e a V:=
 ⟨S.size,S.defers,fun p hp=>by
  subst h
  obtain⟨i,_,hi⟩:=List.mem_filterMap.1 hp
  exact S.slots p (List.mem_of_getElem? hi),S.boxes,S.env⟩
theorem Frm.seln (S:Frm n ls lb w e a V)(is:List Nat){e':List Num}(h:at_ e is=e'):Frm n ls lb w e' a V:=
 S.pick e' (fun z hz=>by
  subst h
  obtain⟨i,_,hi⟩:=List.mem_filterMap.1 hz
  exact List.mem_of_getElem? hi)
end
def zan (a b:Rat):Int:=if a<b then -1 else if b<a then 1 else 0
theorem zcO {a b:Rat}(h:a<b):zan a b= -1:=by simp[zan,h]
theorem zek {a b:Rat}(h:b<a):zan a b=1:=by
 have h2: ¬a<b:=by grind
 simp[zan,h,h2]
theorem zel (a:Rat):zan a a=0:=by
 have h2: ¬a<a:=by grind
 simp[zan,h2]
theorem zgn (a b:Rat):zan a b=(a.num*b.den - b.num*a.den).sign:=by
 have h1:=Rat.lt_iff a b
 have h2:=Rat.lt_iff b a
 by_cases h:a<b
 ·rw[zcO h,Int.sign_eq_neg_one_of_neg (by have:=h1.mp h;omega)]
 ·by_cases h':b<a
  ·rw[zek h',Int.sign_eq_one_of_pos (by have:=h2.mp h';omega)]
  ·have e:a=b:=by grind
   subst e
   rw[zel,Int.sub_self];rfl
def room (lo hi:Rat)(s:Nat):Prop:=(((lo*2^s).floor+1:Int):Rat)<hi*2^s
theorem zqE {lo hi:Rat}{s:Nat}(h:1<(hi - lo)*2^s):room lo hi s:=by
 unfold room
 have:=Rat.floor_le (lo*2^s)
 rw[Rat.intCast_add]
 have h1:((1:Int):Rat)=1:=rfl
 rw[h1]
 grind
theorem zqF (q:Rat):(0:Rat)<(q.den:Nat):=Rat.natCast_pos.mpr q.den_pos
theorem zf0 (q:Rat):q*(q.den:Nat)=(q.num:Int):=by
 have h:=Rat.mkRat_self q
 rw[Rat.mkRat_eq_div]at h
 have h0:=zqF q
 generalize (q.den:Rat)=d at h h0 ⊢
 generalize (q.num:Rat)=n at h ⊢
 grind
theorem zqG {lo hi:Rat}(h:lo<hi):1<=(hi - lo)*((lo.den:Nat)*(hi.den:Nat)):=by
 have h1:=(Rat.lt_iff lo hi).mp h
 have e1:=zf0 lo
 have e2:=zf0 hi
 have h2:((lo.num*hi.den+1:Int):Rat)<=((hi.num*lo.den:Int):Rat):=Rat.intCast_le_intCast.mpr (by omega)
 rw[Rat.intCast_add,Rat.intCast_mul,Rat.intCast_mul]at h2
 have h3:((1:Int):Rat)=1:=rfl
 rw[h3]at h2
 have h4:(((lo.den:Nat):Int):Rat)=(lo.den:Nat):=rfl
 have h5:(((hi.den:Nat):Int):Rat)=(hi.den:Nat):=rfl
 rw[h4,h5,<-e1,<-e2]at h2
 grind
theorem zsm {lo hi:Rat}(h:lo<hi){s:Nat}(hs:lo.den*hi.den<2^s):room lo hi s:=by
 refine zqE ?_
 have h1:=zqG h
 have h2:((lo.den:Nat):Rat)*(hi.den:Nat)<2^s:=by
  have:=Rat.natCast_lt_natCast.mpr hs
  rw[Rat.natCast_mul,Rat.natCast_pow]at this
  exact this
 have h3:0<hi - lo:=by grind
 have h4:=Rat.mul_lt_mul_of_pos_left h2 h3
 grind
theorem zmf {lo hi:Rat}(h:lo<hi):∃s,room lo hi s/\∀t,t<s-> ¬room lo hi t:=by
 have h1:∃s,room lo hi s:=⟨lo.den*hi.den,zsm h (Nat.lt_two_pow_self)⟩
 obtain⟨s,hs⟩:=h1
 induction s using Nat.strongRecOn with
 |_ s ih=>
  by_cases hx:∃t,t<s/\room lo hi t
  ·obtain⟨t,h1,h2⟩:=hx
   exact ih t h1 h2
  ·exact⟨s,hs,fun t ht hr=>hx ⟨t,ht,hr⟩⟩
def zvM (lo hi:Rat)(s:Nat):Int:=if 0<=lo then(lo*2^s).floor+1 else if hi<=0 then -((-hi*2^s).floor+1)else 0
def btw (lo hi:Rat)(s:Nat):Rat:=mkRat (zvM lo hi s) (2^s)
theorem zdH {z:Int}{d:Nat}(h:d≠0):(mkRat z d).num=z/(Nat.gcd z.natAbs d:Nat)/\(mkRat z d).den=d/Nat.gcd z.natAbs d:=by
 rw[Rat.num_mkRat,Rat.den_mkRat,if_neg h,if_neg h,Nat.gcd_comm]
 exact⟨rfl,rfl⟩
theorem zd1 {z:Int}{d:Nat}(h:d≠0):(mkRat z d).num.natAbs=z.natAbs/Nat.gcd z.natAbs d/\(decide ((mkRat z d).num<0)=decide (z<0)):=by
 rw[(zdH h).1]
 have hg:0<Nat.gcd z.natAbs d:=Nat.gcd_pos_of_pos_right _ (by omega)
 have hd:Nat.gcd z.natAbs d∣z.natAbs:=Nat.gcd_dvd_left _ _
 obtain⟨q,hq⟩:=hd
 generalize Nat.gcd z.natAbs d=g at hg hq ⊢
 have e:z=z.sign*((g:Int)*q):=by
  have:=Int.sign_mul_natAbs z
  rw[hq]at this
  rw[<-Int.natCast_mul];exact this.symm
 have h1:z/(g:Int)=z.sign*q:=by
  have hg2:(g:Int)≠0:=by omega
  conv=>lhs;rw[e]
  rw[show z.sign*((g:Int)*q)=(g:Int)*(z.sign*q) by rw[Int.mul_left_comm]]
  exact Int.mul_ediv_cancel_left _ hg2
 rw[h1,hq,Nat.mul_div_cancel_left _ hg]
 constructor
 ·rw[Int.natAbs_mul,Int.natAbs_natCast]
  rcases Int.lt_trichotomy z 0 with hz|hz|hz
  ·rw[Int.sign_eq_neg_one_of_neg hz];simp
  ·subst hz
   simp only[Int.natAbs_zero]at hq
   have:q=0:=by
    rcases Nat.mul_eq_zero.mp hq.symm with h|h
    ·omega
    ·exact h
   subst this;simp
  ·rw[Int.sign_eq_one_of_pos hz];simp
 ·rcases Int.lt_trichotomy z 0 with hz|hz|hz
  ·rw[Int.sign_eq_neg_one_of_neg hz]
   have:q≠0:=by
    intro h0;subst h0;omega
   simp[hz];omega
  ·subst hz;simp
  ·rw[Int.sign_eq_one_of_pos hz]
   have h2: ¬z<0:=by omega
   simp[h2]
theorem zdI {a b:Rat}:zan a b<=0↔a<=b:=by
 by_cases h:a<b
 ·rw[zcO h];constructor
  ·intro _;exact Rat.le_of_lt h
  ·intro _;decide
 ·by_cases h2:b<a
  ·rw[zek h2];constructor
   ·intro h3;exact absurd h3 (by decide)
   ·intro h3;grind
  ·have e:a=b:=by grind
   subst e
   rw[zel];constructor
   ·intro _;exact Rat.le_refl
   ·intro _;decide
theorem zd2 {a b:Rat}:zan a b=0↔a=b:=by
 by_cases h:a<b
 ·rw[zcO h];constructor
  ·intro h3;exact absurd h3 (by decide)
  ·intro h3;grind
 ·by_cases h2:b<a
  ·rw[zek h2];constructor
   ·intro h3;exact absurd h3 (by decide)
   ·intro h3;grind
  ·have e:a=b:=by grind
   subst e
   rw[zel];simp
theorem zhL {a b c d:Rat}(h1:a<b↔c<d)(h2:b<a↔d<c):zan a b=zan c d:=by
 unfold zan
 simp only[h1,h2]
theorem zdu (a b:Rat):zan b a= -zan a b:=by
 by_cases h:a<b
 ·rw[zcO h,zek h];rfl
 ·by_cases h2:b<a
  ·rw[zcO h2,zek h2]
  ·have e:a=b:=by grind
   subst e
   rw[zel];rfl
theorem zqH (a b c:Rat):zan (a+c) (b+c)=zan a b:=zhL Rat.add_lt_add_right Rat.add_lt_add_right
theorem zqI (q:Rat):q.num.sign=zan q 0:=by
 rw[zgn]
 simp
theorem zqJ (a b c:Rat):zan (a*c) (b*c)=zan a b*c.num.sign:=by
 rw[zqI]
 by_cases h:0<c
 ·rw[zek h,Int.mul_one]
  exact zhL (Rat.mul_lt_mul_right h) (Rat.mul_lt_mul_right h)
 ·by_cases h2:c<0
  ·rw[zcO h2]
   have h3:0< -c:=by grind
   rw[show zan a b* -1= -zan a b by omega,<-zdu]
   refine zhL ?_ ?_
   ·rw[<-Rat.mul_lt_mul_right (a:=b) (b:=a) h3]
    constructor <;> intro h4 <;> grind
   ·rw[<-Rat.mul_lt_mul_right (a:=a) (b:=b) h3]
    constructor <;> intro h4 <;> grind
  ·have e:c=0:=by grind
   subst e
   rw[Rat.mul_zero,Rat.mul_zero,zel,Int.mul_zero]
theorem zdv (a b:Rat): -1<=zan a b/\zan a b<=1:=by
 unfold zan
 split
 ·decide
 ·split <;> decide
theorem zf1 {z:Int}{d:Nat}:(mkRat z d).num.natAbs<=z.natAbs/\(mkRat z d).den<=max d 1:=by
 by_cases h:d=0
 ·subst h;simp
 ·rw[(zd1 h).1,(zdH h).2]
  exact⟨Nat.div_le_self _ _,zv2 (Nat.div_le_self _ _) (by omega)⟩
theorem zjD (a b:Rat):(a+b).num.natAbs<=a.num.natAbs*b.den+b.num.natAbs*a.den/\(a+b).den<=a.den*b.den:=by
 rw[Rat.add_def']
 have h:=zf1 (z:=a.num*b.den+b.num*a.den) (d:=a.den*b.den)
 have h1:0<a.den*b.den:=Nat.mul_pos a.den_pos b.den_pos
 refine⟨zv2 h.1 (zv2 (Int.natAbs_add_le _ _) ?_),by omega⟩
 rw[Int.natAbs_mul,Int.natAbs_mul,Int.natAbs_natCast,Int.natAbs_natCast]
 exact Nat.le_refl _
theorem zjE (a b:Rat):(a*b).num.natAbs<=a.num.natAbs*b.num.natAbs/\(a*b).den<=a.den*b.den:=by
 rw[Rat.mul_def']
 have h:=zf1 (z:=a.num*b.num) (d:=a.den*b.den)
 have h1:0<a.den*b.den:=Nat.mul_pos a.den_pos b.den_pos
 refine⟨zv2 h.1 ?_,by omega⟩
 rw[Int.natAbs_mul]
 exact Nat.le_refl _
def zdw (l:List Rat):Rat:=l.foldl (· + ·) 0
def zbb (l:List Rat):Rat:=l.foldl (· * ·) 1
theorem zoC (l:List Rat)(q:Rat):zdw (l++[q])=zdw l+q:=by simp[zdw]
theorem zmg (l:List Rat)(q:Rat):zbb (l++[q])=zbb l*q:=by simp[zbb]
section
variable {w W:World}{e:List Num}
theorem ziN:(Tryz.prog.info? 27).map (·.size)=some 3:=by kernel_rfl
theorem zm8 {W:World}{B:Nat}{t:TypeId}{a b c:Value}(h:Box3 W B t a b c){fn:Func}{p:Tmp}(hr:fn.results= #[.cell p 27]) {tmps:Array Value} (hp:tmps.getD p undef= .pointer (some ⟨B,0,none⟩)):
  (results fn tmps).run Tryz.prog W= .ok (.agg #[a,b,c]) W:=
 results_cell_row hr tmps W B t #[a,b,c] (0,0) _ hp h Tryz.underlying27 rfl ziN
theorem zgo {W:World}{B:Nat}{t:TypeId}{a b c z:Value}(h:Box3 W B t a b c){fn:Func}{p u:Tmp}(hr:fn.results= #[.cell p 27,.tmp u]) {tmps:Array Value} (hp:tmps.getD p undef= .pointer (some ⟨B,0,none⟩)) (hu:tmps.getD u undef=z):
  (results fn tmps).run Tryz.prog W= .ok (.tuple #[.agg #[a,b,c],z]) W:=by
 have e1:tmps[p]?.getD undef= .pointer (some ⟨B,0,none⟩):=by simpa using hp
 have e3:tmps[u]?.getD undef=z:=by simpa using hu
 have r1:=run_loadVar_row W B t 27 #[a,b,c] (0,0) _ h Tryz.underlying27 rfl ziN
 simp[results,hr,e1,e3,asAddr,r1]
def qOf (b:Bool)(N D:Nat):Rat:=mkRat (zOf b N) D
def IsQ (q:Rat)(b:Bool)(x y:Num):Prop:=b=decide (q.num<0)/\x.N=q.num.natAbs/\x.n=lenL x.N/\y.N=q.den/\y.n=lenL y.N
def zqK (w:World)(e:List Num)(q:Rat)(e':Ending)(W':World):Prop:=∃(b:Bool) (x y:Num),e'= .returned (.agg #[.bool b,.slice x.A x.n x.c,.slice y.A y.n y.c])/\IsQ q b x y/\Env w (x::y::e) W'
def zjF (w:World)(e:List Num)(q:Rat)(er:Int)(e':Ending)(W':World):Prop:=∃(b:Bool) (x y:Num),e'= .returned (.tuple #[.agg #[.bool b,.slice x.A x.n x.c,.slice y.A y.n y.c],.int .i64 er])/\IsQ q b x y/\Env w (x::y::e) W'
theorem IsQ.q {q:Rat}{b:Bool}{x y:Num}(h:IsQ q b x y):qOf b x.N y.N=q:=by
 obtain⟨h1,h2,_,h4,_⟩:=h
 unfold qOf
 rw[h2,h4]
 have e:zOf b q.num.natAbs=q.num:=by
  subst h1
  unfold zOf
  by_cases hn:q.num<0
  ·rw[decide_eq_true hn,if_pos rfl];omega
  ·rw[decide_eq_false hn,if_neg (by simp)];omega
 rw[e,Rat.mkRat_self]
theorem IsQ.same {q:Rat}{b b':Bool}{x y x' y':Num}(h:IsQ q b x y)(h':IsQ q b' x' y'):b=b'/\x.N=x'.N/\x.n=x'.n/\y.N=y'.N/\y.n=y'.n:=by
 obtain⟨h1,h2,h3,h4,h5⟩:=h
 obtain⟨g1,g2,g3,g4,g5⟩:=h'
 exact⟨h1.trans g1.symm,h2.trans g2.symm,by rw[h3,g3,h2,g2],h4.trans g4.symm,by rw[h5,g5,h4,g4]⟩
end
def QRds (W:World)(hi:Nat)(A:Option Addr)(l:List (Bool×Num×Num)):Prop:=
 ∀k (h:k<l.length),(∃ad:Addr,A=some ad/\ad.block<hi/\W.cell? (ad.add (k*3))=some (.bool l[k].1)/\W.cell? (ad.add (k*3+1))=some (.slice l[k].2.1.A l[k].2.1.n l[k].2.1.c)/\W.cell? (ad.add (k*3+2))=some (.slice l[k].2.2.A l[k].2.2.n l[k].2.2.c))/\l[k].2.1.ok W hi/\l[k].2.2.ok W hi
theorem QRds.below {W W':World}{hi:Nat}{A:Option Addr}{l:List (Bool×Num×Num)}(h:QRds W hi A l)(hb:Below hi W W'):QRds W' hi A l:=fun k hk=>by
 obtain⟨⟨ad,e,h1,h2,h3,h4⟩,h5,h6⟩:=h k hk
 exact⟨⟨ad,e,h1,(hb.cell (by rw[zaM];exact h1)).trans h2,(hb.cell (by rw[zaM];exact h1)).trans h3,(hb.cell (by rw[zaM];exact h1)).trans h4⟩,h5.below hb,h6.below hb⟩
theorem QRds.more {W:World}{hi hi':Nat}{A:Option Addr}{l:List (Bool×Num×Num)}(h:QRds W hi A l)(hh:hi<=hi'):QRds W hi' A l:=fun k hk=>by
 obtain⟨⟨ad,e,h1,h2,h3,h4⟩,h5,h6⟩:=h k hk
 exact⟨⟨ad,e,by omega,h2,h3,h4⟩,h5.more hh,h6.more hh⟩
theorem zmh (a:Addr)(k i:Nat)(hi:0<i):a.add (k*3+i)=⟨(a.add (k*3)).block,(a.add (k*3)).off+i,none⟩:=by
 unfold Addr.add
 by_cases h:k*3=0
 ·rw[if_neg (by omega),if_pos h,h,Nat.zero_add]
 ·rw[if_neg (by omega),if_neg h];simp only[Nat.add_assoc]
section
variable {v:Value}{V V' w:World}{K K':Nat}{e:List Num}
def N1 (K N:Nat)(v:Value)(V:World):Prop:=∃x:Num,v= .slice x.A x.n x.c/\x.N=N/\x.n<=K/\x.ok V V.heap.size
def NT (K N:Nat)(v:Value)(V:World):Prop:=∃x:Num,v= .slice x.A x.n x.c/\x.N=N/\x.n=lenL N/\x.n<=K/\x.ok V V.heap.size
def Z1 (K:Nat)(Z:Int)(v:Value)(V:World):Prop:=∃(b:Bool) (x:Num),v= .agg #[.bool b,.slice x.A x.n x.c]/\zOf b x.N=Z/\x.n<=K/\x.ok V V.heap.size
def ZT (K:Nat)(Z:Int)(v:Value)(V:World):Prop:=∃(b:Bool) (x:Num),v= .agg #[.bool b,.slice x.A x.n x.c]/\(b=decide (Z<0)/\x.N=Z.natAbs/\x.n=lenL Z.natAbs)/\x.n<=K/\x.ok V V.heap.size
def Q1 (K:Nat)(q:Rat)(v:Value)(V:World):Prop:=∃(b:Bool) (x y:Num),v= .agg #[.bool b,.slice x.A x.n x.c,.slice y.A y.n y.c]/\qOf b x.N y.N=q/\x.n<=K/\y.n<=K/\x.ok V V.heap.size/\y.ok V V.heap.size
def QT (K:Nat)(q:Rat)(v:Value)(V:World):Prop:=∃(b:Bool) (x y:Num),v= .agg #[.bool b,.slice x.A x.n x.c,.slice y.A y.n y.c]/\IsQ q b x y/\x.n<=K/\y.n<=K/\x.ok V V.heap.size/\y.ok V V.heap.size
def QM (K:Nat)(q:Rat)(v:Value)(V:World):Prop:=∃(b:Bool) (x y:Num),v= .agg #[.bool b,.slice x.A x.n x.c,.slice y.A y.n y.c]/\(y.N≠0/\qOf b x.N y.N=q)/\x.n<=K/\y.n<=K/\x.ok V V.heap.size/\y.ok V V.heap.size
def QE (K:Nat)(q:Rat)(er:Int)(v:Value)(V:World):Prop:=∃(b:Bool) (x y:Num),v= .tuple #[.agg #[.bool b,.slice x.A x.n x.c,.slice y.A y.n y.c],.int .i64 er]/\IsQ q b x y/\x.n<=K/\y.n<=K/\x.ok V V.heap.size/\y.ok V V.heap.size
def QA (K:Nat)(Z:Int)(N:Nat)(v:Value)(V:World):Prop:=∃(b:Bool) (x y:Num),v= .agg #[.bool b,.slice x.A x.n x.c,.slice y.A y.n y.c]/\(zOf b x.N=Z/\y.N=N)/\x.n<=K/\y.n<=K/\x.ok V V.heap.size/\y.ok V V.heap.size
def QP (K:Nat)(Z:Int)(N:Nat)(v:Value)(V:World):Prop:=∃(b:Bool) (x y:Num),v= .agg #[.bool b,.slice x.A x.n x.c,.slice y.A y.n y.c]/\((b=decide (Z<0)/\x.N=Z.natAbs/\x.n=lenL Z.natAbs)/\(y.N=N/\y.n=lenL N))/\x.n<=K/\y.n<=K/\x.ok V V.heap.size/\y.ok V V.heap.size
def QV (K:Nat)(q:Rat)(u:Value)(v:Value)(V:World):Prop:=∃(b:Bool) (x y:Num),v= .tuple #[.agg #[.bool b,.slice x.A x.n x.c,.slice y.A y.n y.c],u]/\IsQ q b x y/\x.n<=K/\y.n<=K/\x.ok V V.heap.size/\y.ok V V.heap.size
def ZRow (K:Nat)(l:List Int)(v:Value)(V:World):Prop:=∃(A:Option Addr) (c:Nat) (ps:List (Bool×Num)),v= .slice A ps.length c/\ZRds V V.heap.size A ps/\ps.map zP=l/\(∀p∈ps,p.2.n<=K)/\ps.length<=c/\c<=60
def qP (p:Bool×Num×Num):Rat:=qOf p.1 p.2.1.N p.2.2.N
def QRow (K:Nat)(l:List Rat)(v:Value)(V:World):Prop:=∃(A:Option Addr) (c:Nat) (ps:List (Bool×Num×Num)),v= .slice A ps.length c/\QRds V V.heap.size A ps/\ps.map qP=l/\(∀p∈ps,p.2.1.n<=K/\p.2.2.n<=K)/\ps.length<=c/\c<=maxLen/\ps.length<=60
def RBx (W:World)(T:TypeId)(cs:List Value)(v:Value)(V:World):Prop:=∃g,v= .pointer (some ⟨g,0,none⟩)/\W.heap.size<=g/\V.heap[g]?=some (.cells cs.toArray T (0,0))
theorem N1.keep {N:Nat}(h:N1 K N v V)(hb:Below V.heap.size V V'):N1 K N v V':=by
 obtain⟨x,h1,h2,h3,h4⟩:=h;exact⟨x,h1,h2,h3,h4.later hb⟩
theorem NT.keep {N:Nat}(h:NT K N v V)(hb:Below V.heap.size V V'):NT K N v V':=by
 obtain⟨x,h1,h2,h3,h4,h5⟩:=h;exact⟨x,h1,h2,h3,h4,h5.later hb⟩
theorem Z1.keep {Z:Int}(h:Z1 K Z v V)(hb:Below V.heap.size V V'):Z1 K Z v V':=by
 obtain⟨b,x,h1,h2,h3,h4⟩:=h;exact⟨b,x,h1,h2,h3,h4.later hb⟩
theorem ZT.keep {Z:Int}(h:ZT K Z v V)(hb:Below V.heap.size V V'):ZT K Z v V':=by
 obtain⟨b,x,h1,h2,h3,h4⟩:=h;exact⟨b,x,h1,h2,h3,h4.later hb⟩
theorem Q1.keep {q:Rat}(h:Q1 K q v V)(hb:Below V.heap.size V V'):Q1 K q v V':=by
 obtain⟨b,x,y,h1,h2,h3,h4,h5,h6⟩:=h;exact⟨b,x,y,h1,h2,h3,h4,h5.later hb,h6.later hb⟩
theorem QT.keep {q:Rat}(h:QT K q v V)(hb:Below V.heap.size V V'):QT K q v V':=by
 obtain⟨b,x,y,h1,h2,h3,h4,h5,h6⟩:=h;exact⟨b,x,y,h1,h2,h3,h4,h5.later hb,h6.later hb⟩
theorem QM.keep {q:Rat}(h:QM K q v V)(hb:Below V.heap.size V V'):QM K q v V':=by
 obtain⟨b,x,y,h1,h2,h3,h4,h5,h6⟩:=h;exact⟨b,x,y,h1,h2,h3,h4,h5.later hb,h6.later hb⟩
theorem QE.keep {q:Rat}{er:Int}(h:QE K q er v V)(hb:Below V.heap.size V V'):QE K q er v V':=by
 obtain⟨b,x,y,h1,h2,h3,h4,h5,h6⟩:=h;exact⟨b,x,y,h1,h2,h3,h4,h5.later hb,h6.later hb⟩
theorem QV.keep {q:Rat}{u:Value}(h:QV K q u v V)(hb:Below V.heap.size V V'):QV K q u v V':=by
 obtain⟨b,x,y,h1,h2,h3,h4,h5,h6⟩:=h;exact⟨b,x,y,h1,h2,h3,h4,h5.later hb,h6.later hb⟩
theorem QA.keep {Z:Int}{N:Nat}(h:QA K Z N v V)(hb:Below V.heap.size V V'):QA K Z N v V':=by
 obtain⟨b,x,y,h1,h2,h3,h4,h5,h6⟩:=h;exact⟨b,x,y,h1,h2,h3,h4,h5.later hb,h6.later hb⟩
theorem QP.keep {Z:Int}{N:Nat}(h:QP K Z N v V)(hb:Below V.heap.size V V'):QP K Z N v V':=by
 obtain⟨b,x,y,h1,h2,h3,h4,h5,h6⟩:=h;exact⟨b,x,y,h1,h2,h3,h4,h5.later hb,h6.later hb⟩
theorem ZRow.keep {l:List Int}(h:ZRow K l v V)(hb:Below V.heap.size V V'):ZRow K l v V':=by
 obtain⟨A,c,ps,h1,h2,h3⟩:=h;exact⟨A,c,ps,h1,(h2.below hb).more hb.size,h3⟩
theorem QRow.keep {l:List Rat}(h:QRow K l v V)(hb:Below V.heap.size V V'):QRow K l v V':=by
 obtain⟨A,c,ps,h1,h2,h3⟩:=h;exact⟨A,c,ps,h1,(h2.below hb).more hb.size,h3⟩
theorem RBx.keep {W:World}{T:TypeId}{cs:List Value}(h:RBx W T cs v V)(hb:Below V.heap.size V V'):RBx W T cs v V':=by
 obtain⟨g,h1,h2,h3⟩:=h;exact⟨g,h1,h2,(hb.block g (Array.getElem?_eq_some_iff.1 h3).1).trans h3⟩
section
variable {shs:List (TypeId × Nat)}{g:Nat}{vs:List Value}
theorem N1.keepS {N:Nat}(h:N1 K N v V)(hb:Sto shs g vs V V'):N1 K N v V':=by
 obtain⟨x,h1,h2,h3,h4⟩:=h;exact⟨x,h1,h2,h3,hb.num h4⟩
theorem NT.keepS {N:Nat}(h:NT K N v V)(hb:Sto shs g vs V V'):NT K N v V':=by
 obtain⟨x,h1,h2,h3,h4,h5⟩:=h;exact⟨x,h1,h2,h3,h4,hb.num h5⟩
theorem Z1.keepS {Z:Int}(h:Z1 K Z v V)(hb:Sto shs g vs V V'):Z1 K Z v V':=by
 obtain⟨b,x,h1,h2,h3,h4⟩:=h;exact⟨b,x,h1,h2,h3,hb.num h4⟩
theorem ZT.keepS {Z:Int}(h:ZT K Z v V)(hb:Sto shs g vs V V'):ZT K Z v V':=by
 obtain⟨b,x,h1,h2,h3,h4⟩:=h;exact⟨b,x,h1,h2,h3,hb.num h4⟩
theorem Q1.keepS {q:Rat}(h:Q1 K q v V)(hb:Sto shs g vs V V'):Q1 K q v V':=by
 obtain⟨b,x,y,h1,h2,h3,h4,h5,h6⟩:=h;exact⟨b,x,y,h1,h2,h3,h4,hb.num h5,hb.num h6⟩
theorem QT.keepS {q:Rat}(h:QT K q v V)(hb:Sto shs g vs V V'):QT K q v V':=by
 obtain⟨b,x,y,h1,h2,h3,h4,h5,h6⟩:=h;exact⟨b,x,y,h1,h2,h3,h4,hb.num h5,hb.num h6⟩
theorem QM.keepS {q:Rat}(h:QM K q v V)(hb:Sto shs g vs V V'):QM K q v V':=by
 obtain⟨b,x,y,h1,h2,h3,h4,h5,h6⟩:=h;exact⟨b,x,y,h1,h2,h3,h4,hb.num h5,hb.num h6⟩
theorem QE.keepS {q:Rat}{er:Int}(h:QE K q er v V)(hb:Sto shs g vs V V'):QE K q er v V':=by
 obtain⟨b,x,y,h1,h2,h3,h4,h5,h6⟩:=h;exact⟨b,x,y,h1,h2,h3,h4,hb.num h5,hb.num h6⟩
theorem QA.keepS {Z:Int}{N:Nat}(h:QA K Z N v V)(hb:Sto shs g vs V V'):QA K Z N v V':=by
 obtain⟨b,x,y,h1,h2,h3,h4,h5,h6⟩:=h;exact⟨b,x,y,h1,h2,h3,h4,hb.num h5,hb.num h6⟩
theorem QP.keepS {Z:Int}{N:Nat}(h:QP K Z N v V)(hb:Sto shs g vs V V'):QP K Z N v V':=by
 obtain⟨b,x,y,h1,h2,h3,h4,h5,h6⟩:=h;exact⟨b,x,y,h1,h2,h3,h4,hb.num h5,hb.num h6⟩
theorem Sto.ne_of_shape (hb:Sto shs g vs V V'){k:Nat}{T:TypeId}{cs:Array Value}(h:V.heap[k]?=some (.cells cs T (0,0)))(hs:(T,cs.size)∉shs):k≠g:=by
 rintro rfl
 obtain⟨T',cs',h1,-,-,-,-,h6,-⟩:=hb
 rw[h]at h1
 injection h1 with h1
 injection h1 with h1 h2
 subst h1 h2
 exact hs (by simpa using h6)
def ZL (K m:Nat)(l:List Int)(v:Value)(V:World):Prop:=∃(g:Nat) (ps:List (Bool×Num)) (cs:Array Value),v= .slice (some ⟨g,0,none⟩) ps.length ps.length/\V.heap[g]?=some (.cells cs 25 (0,0))/\cs.size=m/\ZRds V V.heap.size (some ⟨g,0,none⟩) ps/\ps.map zP=l/\(∀p∈ps,p.2.n<=K)/\ps.length<=60
def QL (K m:Nat)(l:List Rat)(v:Value)(V:World):Prop:=∃(g:Nat) (ps:List (Bool×Num×Num)) (cs:Array Value),v= .slice (some ⟨g,0,none⟩) ps.length ps.length/\V.heap[g]?=some (.cells cs 27 (0,0))/\cs.size=m/\QRds V V.heap.size (some ⟨g,0,none⟩) ps/\ps.map qP=l/\(∀p∈ps,p.2.1.n<=K/\p.2.2.n<=K)/\ps.length<=60
theorem ZL.row {m:Nat}{l:List Int}(h:ZL K m l v V):ZRow K l v V:=by
 obtain⟨g,ps,cs,h1,h2,h3,h4,h5,h6,h7⟩:=h;exact⟨_,_,ps,h1,h4,h5,h6,Nat.le_refl _,h7⟩
theorem QL.row {m:Nat}{l:List Rat}(h:QL K m l v V):QRow K l v V:=by
 obtain⟨g,ps,cs,h1,h2,h3,h4,h5,h6,h7⟩:=h;exact⟨_,_,ps,h1,h4,h5,h6,Nat.le_refl _,by simp[maxLen];omega,h7⟩
theorem ZL.keep {m:Nat}{l:List Int}(h:ZL K m l v V)(hb:Below V.heap.size V V'):ZL K m l v V':=by
 obtain⟨g,ps,cs,h1,h2,h3,h4,h5⟩:=h
 exact⟨g,ps,cs,h1,(hb.block g (Array.getElem?_eq_some_iff.1 h2).1).trans h2,h3,(h4.below hb).more hb.size,h5⟩
theorem QL.keep {m:Nat}{l:List Rat}(h:QL K m l v V)(hb:Below V.heap.size V V'):QL K m l v V':=by
 obtain⟨g,ps,cs,h1,h2,h3,h4,h5⟩:=h
 exact⟨g,ps,cs,h1,(hb.block g (Array.getElem?_eq_some_iff.1 h2).1).trans h2,h3,(h4.below hb).more hb.size,h5⟩
theorem ZL.keepS {m:Nat}{l:List Int}(h:ZL K m l v V)(hb:Sto shs g vs V V')(hs:(25,m)∉shs):ZL K m l v V':=by
 obtain⟨k,ps,cs,h1,h2,h3,h4,h5⟩:=h
 have hk:=hb.ne_of_shape h2 (by rw[h3];exact hs)
 refine⟨k,ps,cs,h1,(hb.other hk).trans h2,h3,fun j hj=>?_,h5⟩
 obtain⟨⟨ad,e1,h6,h7,h8⟩,h9⟩:=h4 j hj
 cases e1
 refine⟨⟨_,rfl,by rw[hb.size];exact h6,?_,?_⟩,hb.num h9⟩
 ·rw[World.cell?_of_block (w:=V) (hb.other (by rw[zaM];exact hk))];exact h7
 ·rw[World.cell?_of_block (w:=V) (hb.other (by rw[zaM];exact hk))];exact h8
theorem QL.keepS {m:Nat}{l:List Rat}(h:QL K m l v V)(hb:Sto shs g vs V V')(hs:(27,m)∉shs):QL K m l v V':=by
 obtain⟨k,ps,cs,h1,h2,h3,h4,h5⟩:=h
 have hk:=hb.ne_of_shape h2 (by rw[h3];exact hs)
 refine⟨k,ps,cs,h1,(hb.other hk).trans h2,h3,fun j hj=>?_,h5⟩
 obtain⟨⟨ad,e1,h6,h7,h8,h10⟩,h9,h11⟩:=h4 j hj
 cases e1
 refine⟨⟨_,rfl,by rw[hb.size];exact h6,?_,?_,?_⟩,hb.num h9,hb.num h11⟩
 ·rw[World.cell?_of_block (w:=V) (hb.other (by rw[zaM];exact hk))];exact h7
 ·rw[World.cell?_of_block (w:=V) (hb.other (by rw[zaM];exact hk))];exact h8
 ·rw[World.cell?_of_block (w:=V) (hb.other (by rw[zaM];exact hk))];exact h10
end
abbrev zf2 (k:Nat)(v:Value):Prop:=∃vs:List Value,v= .agg vs.toArray/\vs.all za6=true/\vs.length=k/\vs.all (·.oneCell')=true
theorem Z1.parts {Z:Int}(h:Z1 K Z v V):zf2 2 v:=by obtain⟨b,x,rfl,-⟩:=h;exact⟨[_,_],rfl,rfl,rfl,rfl⟩
theorem ZT.parts {Z:Int}(h:ZT K Z v V):zf2 2 v:=by obtain⟨b,x,rfl,-⟩:=h;exact⟨[_,_],rfl,rfl,rfl,rfl⟩
theorem Q1.parts {q:Rat}(h:Q1 K q v V):zf2 3 v:=by obtain⟨b,x,y,rfl,-⟩:=h;exact⟨[_,_,_],rfl,rfl,rfl,rfl⟩
theorem QT.parts {q:Rat}(h:QT K q v V):zf2 3 v:=by obtain⟨b,x,y,rfl,-⟩:=h;exact⟨[_,_,_],rfl,rfl,rfl,rfl⟩
theorem QM.parts {q:Rat}(h:QM K q v V):zf2 3 v:=by obtain⟨b,x,y,rfl,-⟩:=h;exact⟨[_,_,_],rfl,rfl,rfl,rfl⟩
theorem QA.parts {Z:Int}{N:Nat}(h:QA K Z N v V):zf2 3 v:=by obtain⟨b,x,y,rfl,-⟩:=h;exact⟨[_,_,_],rfl,rfl,rfl,rfl⟩
theorem QP.parts {Z:Int}{N:Nat}(h:QP K Z N v V):zf2 3 v:=by obtain⟨b,x,y,rfl,-⟩:=h;exact⟨[_,_,_],rfl,rfl,rfl,rfl⟩
theorem NT.any {N:Nat}(h:NT K N v V):N1 K N v V:=by
 obtain⟨x,h1,h2,h3,h4,h5⟩:=h;exact⟨x,h1,h2,h4,h5⟩
theorem ZT.any {Z:Int}(h:ZT K Z v V):Z1 K Z v V:=by
 obtain⟨b,x,h1,⟨h2,h3,-⟩,h4,h5⟩:=h;exact⟨b,x,h1,by rw[h2,h3];exact zc7 Z,h4,h5⟩
theorem QT.any {q:Rat}(h:QT K q v V):Q1 K q v V:=by
 obtain⟨b,x,y,h1,h2,h3,h4,h5,h6⟩:=h;exact⟨b,x,y,h1,h2.q,h3,h4,h5,h6⟩
theorem QM.any {q:Rat}(h:QM K q v V):Q1 K q v V:=by
 obtain⟨b,x,y,h1,h2,h3,h4,h5,h6⟩:=h;exact⟨b,x,y,h1,h2.2,h3,h4,h5,h6⟩
theorem QT.to {q q':Rat}(h:QT K q v V)(hq:q=q')(hK:K<=K'):QT K' q' v V:=by
 obtain⟨b,x,y,h1,h2,h3,h4,h5⟩:=h;subst hq;exact⟨b,x,y,h1,h2,by omega,by omega,h5⟩
theorem Q1.to {q q':Rat}(h:Q1 K q v V)(hq:q=q')(hK:K<=K'):Q1 K' q' v V:=by
 obtain⟨b,x,y,h1,h2,h3,h4,h5⟩:=h;subst hq;exact⟨b,x,y,h1,h2,by omega,by omega,h5⟩
theorem QM.to {q q':Rat}(h:QM K q v V)(hq:q=q')(hK:K<=K'):QM K' q' v V:=by
 obtain⟨b,x,y,h1,h2,h3,h4,h5⟩:=h;subst hq;exact⟨b,x,y,h1,h2,by omega,by omega,h5⟩
theorem ZT.to {Z Z':Int}(h:ZT K Z v V)(hq:Z=Z')(hK:K<=K'):ZT K' Z' v V:=by
 obtain⟨b,x,h1,h2,h3,h4⟩:=h;subst hq;exact⟨b,x,h1,h2,by omega,h4⟩
theorem Z1.to {Z Z':Int}(h:Z1 K Z v V)(hq:Z=Z')(hK:K<=K'):Z1 K' Z' v V:=by
 obtain⟨b,x,h1,h2,h3,h4⟩:=h;subst hq;exact⟨b,x,h1,h2,by omega,h4⟩
theorem NT.to {N N':Nat}(h:NT K N v V)(hq:N=N')(hK:K<=K'):NT K' N' v V:=by
 obtain⟨x,h1,h2,h3,h4⟩:=h;subst hq;exact⟨x,h1,h2,h3,by omega,h4.2⟩
theorem N1.to {N N':Nat}(h:N1 K N v V)(hq:N=N')(hK:K<=K'):N1 K' N' v V:=by
 obtain⟨x,h1,h2,h3,h4⟩:=h;subst hq;exact⟨x,h1,h2,by omega,h4⟩
theorem NT.lim {N:Nat}(h:NT K N v V)(hN:N<Bw^K'):NT K' N v V:=by
 obtain⟨x,h1,h2,h3,h4⟩:=h;exact⟨x,h1,h2,h3,by rw[h3];exact zai.2 hN,h4.2⟩
theorem ZT.lim {Z:Int}(h:ZT K Z v V)(hZ:Z.natAbs<Bw^K'):ZT K' Z v V:=by
 obtain⟨b,x,h1,h2,h3,h4⟩:=h;exact⟨b,x,h1,h2,by rw[h2.2.2];exact zai.2 hZ,h4⟩
theorem QT.lim {q:Rat}(h:QT K q v V)(h1:q.num.natAbs<Bw^K')(h2:q.den<Bw^K'):QT K' q v V:=by
 obtain⟨b,x,y,e1,e2,h3,h4,h5⟩:=h
 exact⟨b,x,y,e1,e2,by rw[e2.2.2.1,e2.2.1];exact zai.2 h1,by rw[e2.2.2.2.2,e2.2.2.2.1];exact zai.2 h2,h5⟩
theorem N1.lt {N:Nat}(h:N1 K N v V):N<Bw^K:=by
 obtain⟨x,h1,rfl,h3,h4⟩:=h;exact zaz h4.1.1 h3
theorem Z1.lt {Z:Int}(h:Z1 K Z v V):Z.natAbs<Bw^K:=by
 obtain⟨b,x,h1,rfl,h3,h4⟩:=h;rw[zbu];exact zaz h4.1.1 h3
theorem Q1.lt {q:Rat}(h:Q1 K q v V):q.num.natAbs<Bw^K/\q.den<=Bw^K:=by
 obtain⟨b,x,y,h1,rfl,h3,h4,h5,h6⟩:=h
 have a1:=zaz h5.1.1 h3
 have a2:=zaz h6.1.1 h4
 have:=zf1 (z:=zOf b x.N) (d:=y.N)
 rw[zbu]at this
 have:=zag K
 unfold qOf
 omega
theorem QT.lt {q:Rat}(h:QT K q v V):q.num.natAbs<Bw^K/\q.den<Bw^K:=by
 obtain⟨b,x,y,h1,h2,h3,h4,h5,h6⟩:=h
 have a1:=zaz h5.1.1 h3
 have a2:=zaz h6.1.1 h4
 rw[h2.2.1]at a1
 rw[h2.2.2.2.1]at a2
 exact⟨a1,a2⟩
theorem gz {f:FuncId}{args:Array Value}{Z:Int}(h:Calls Tryz.prog f args V (Zs V e Z))(hl:Z.natAbs<Bw^K):Calls Tryz.prog f args V (zaf V (ZT K Z)):=h.mono (by
 rintro en V' ⟨r,rfl,h1,h2,hE⟩
 exact⟨_,rfl,⟨_,r,rfl,⟨rfl,h1,h2⟩,by rw[h2];exact zai.2 hl,hE.2 r (by simp)⟩,hE.1⟩)
theorem gn {f:FuncId}{args:Array Value}{N lo:Nat}(h:Calls Tryz.prog f args V (zh5 V e lo N (fun r=> .slice r.A r.n r.c)))(hl:N<Bw^K):Calls Tryz.prog f args V (zaf V (NT K N)):=h.mono (by
 rintro en V' ⟨r,rfl,h1,h2,hE,-⟩
 exact⟨_,rfl,⟨r,rfl,h1,h2,by rw[h2];exact zai.2 hl,hE.2 r (by simp)⟩,hE.1⟩)
theorem gv {f:FuncId}{args:Array Value}{c:Value}(h:Calls Tryz.prog f args V fun en V'=>en= .returned c/\Env V e V'):Calls Tryz.prog f args V (zaf V fun v _=>v=c):=h.mono (by
 rintro en V' ⟨rfl,hE⟩
 exact⟨_,rfl,rfl,hE.1⟩)
theorem zdd {f:FuncId}{args:Array Value}{F G:Value->World->Prop}(h:Calls Tryz.prog f args V (zaf V F))(hF:∀v V',F v V'->G v V'):Calls Tryz.prog f args V (zaf V G):=h.mono (by
 rintro en V' ⟨v,rfl,h1,h2⟩
 exact⟨v,rfl,hF _ _ h1,h2⟩)
theorem zt5 {x:Num}(h:x.ok V V.heap.size):Env V [x] V:=Env.start (by simp[h])
theorem zmi {x y:Num}(h:x.ok V V.heap.size)(h':y.ok V V.heap.size):Env V [x,y] V:=Env.start (by simp[h,h'])
end
section
variable {ls:List (Tmp × Value)}{lb:List Bx}{w V V':World}{e:List Num}{a:Act}{o:Oper}{v v1 v2 v3:Value}{t t1 t2 t3:Tmp}{K:Nat}
theorem zca:(Tryz.prog.info? 25).map (·.size)=some 2:=by kernel_rfl
theorem zah:(Tryz.prog.info? 27).map (·.size)=some 3:=by kernel_rfl
theorem zcb:(Tryz.prog.info? 94).map (·.size)=some 2:=by kernel_rfl
theorem zaN:(Tryz.prog.info? 96).map (·.size)=some 3:=by kernel_rfl
theorem zco (g:Nat):(Instr.fieldAt 25 (.pointer (some ⟨g,0,none⟩)) 0).run Tryz.prog V= .ok (.pointer (some ⟨g,0,none⟩)) V:=by go_simp
theorem zbX (g:Nat):(Instr.fieldAt 25 (.pointer (some ⟨g,0,none⟩)) 1).run Tryz.prog V= .ok (.pointer (some ⟨g,1,none⟩)) V:=by go_simp
theorem zbD (g:Nat):(Instr.fieldAt 27 (.pointer (some ⟨g,0,none⟩)) 0).run Tryz.prog V= .ok (.pointer (some ⟨g,0,none⟩)) V:=by go_simp
theorem zbc (g:Nat):(Instr.fieldAt 27 (.pointer (some ⟨g,0,none⟩)) 1).run Tryz.prog V= .ok (.pointer (some ⟨g,2,none⟩)) V:=by go_simp
theorem zax (g:Nat):(Instr.fieldAt 94 (.pointer (some ⟨g,0,none⟩)) 0).run Tryz.prog V= .ok (.pointer (some ⟨g,0,none⟩)) V:=by go_simp
theorem zaA (g:Nat):(Instr.fieldAt 96 (.pointer (some ⟨g,0,none⟩)) 0).run Tryz.prog V= .ok (.pointer (some ⟨g,0,none⟩)) V:=by go_simp
theorem za2 (g:Nat):(Instr.fieldAt 96 (.pointer (some ⟨g,0,none⟩)) 1).run Tryz.prog V= .ok (.pointer (some ⟨g,2,none⟩)) V:=by go_simp
theorem zjG (b:Bool)(A:Option Addr)(n c:Nat):(Instr.build 25 #[(0,.bool b),(1,.slice A n c)]).run Tryz.prog V= .ok (.agg #[.bool b,.slice A n c]) V:=by go_simp
theorem zsn (A:Option Addr)(n c:Nat):(Instr.build 25 #[(1,.slice A n c)]).run Tryz.prog V= .ok (.agg #[.bool false,.slice A n c]) V:=by go_simp
theorem zhM (b:Bool)(A B:Option Addr)(n c m d:Nat):(Instr.build 27 #[(0,.agg #[.bool b,.slice A n c]),(1,.slice B m d)]).run Tryz.prog V= .ok (.agg #[.bool b,.slice A n c,.slice B m d]) V:=by go_simp
theorem zcP (b:Bool)(A:Option Addr)(n c:Nat):(Instr.build 94 #[(0,.agg #[.bool b,.slice A n c])]).run Tryz.prog V= .ok (.agg #[.bool b,.slice A n c]) V:=by go_simp
theorem zd3 (b:Bool)(A B:Option Addr)(n c m d:Nat):(Instr.build 96 #[(0,.agg #[.bool b,.slice A n c]),(1,.slice B m d)]).run Tryz.prog V= .ok (.agg #[.bool b,.slice A n c,.slice B m d]) V:=by go_simp
theorem zmj (B:Option Addr)(m d:Nat):(Instr.build 96 #[(1,.slice B m d)]).run Tryz.prog V= .ok (.agg #[.bool false,.slice none 0 0,.slice B m d]) V:=by go_simp
theorem zcG {T:TypeId}{i:Nat}(ho:o.op= .build T #[(i,.tmp t1)])(h1:a.tmps.getD t1 undef=v1)(hr:(Instr.build T #[(i,v1)]).run Tryz.prog V= .ok v V):(execOp a.eval o).run Tryz.prog V= .ok (.value v) V:=by
 have e1:a.eval (.tmp t1)=v1:=h1
 unfold execOp;simp only[ho,List.map_toArray,List.map_cons,List.map_nil,e1,Sem.run_bind,hr]
 rfl
theorem zaU {T:TypeId}{i j:Nat}(ho:o.op= .build T #[(i,.tmp t1),(j,.tmp t2)])(h1:a.tmps.getD t1 undef=v1)(h2:a.tmps.getD t2 undef=v2)(hr:(Instr.build T #[(i,v1),(j,v2)]).run Tryz.prog V= .ok v V):(execOp a.eval o).run Tryz.prog V= .ok (.value v) V:=by
 have e1:a.eval (.tmp t1)=v1:=h1
 have e2:a.eval (.tmp t2)=v2:=h2
 unfold execOp;simp only[ho,List.map_toArray,List.map_cons,List.map_nil,e1,e2,Sem.run_bind,hr]
 rfl
theorem zf3 {f:FuncId}(hop:∃ts,o.op= .call { callee:= .value (.func f),args:= #[.tmp t1],argTypes:=ts })(h1:a.tmps.getD t1 undef=v1)(en:∀args w,(callFunc f args).run Tryz.prog w= .ok (.enter f args) w):(execOp a.eval o).run Tryz.prog V= .ok (.enter f #[v1]) V:=
 zbq hop (by rw[<-zae];exact h1) en
theorem zk0 {f:FuncId}(hop:∃ts,o.op= .call { callee:= .value (.func f),args:= #[.tmp t1,.tmp t2],argTypes:=ts })(h1:a.tmps.getD t1 undef=v1)(h2:a.tmps.getD t2 undef=v2)(en:∀args w,(callFunc f args).run Tryz.prog w= .ok (.enter f args) w):(execOp a.eval o).run Tryz.prog V= .ok (.enter f #[v1,v2]) V:=
 zdR hop (by rw[<-zae];exact h1) (by rw[<-zae];exact h2) en
theorem zqL {f:FuncId}(hop:∃ts,o.op= .call { callee:= .value (.func f),args:= #[.tmp t1,.tmp t2,.tmp t3],argTypes:=ts })(h1:a.tmps.getD t1 undef=v1)(h2:a.tmps.getD t2 undef=v2)(h3:a.tmps.getD t3 undef=v3)(en:∀args w,(callFunc f args).run Tryz.prog w= .ok (.enter f args) w):(execOp a.eval o).run Tryz.prog V= .ok (.enter f #[v1,v2,v3]) V:=by
 rw[zae]at h1 h2 h3
 obtain⟨dst,op,ty,pos,after,guard⟩:=o
 obtain⟨ts,hop⟩:=hop
 simp only at hop
 subst hop
 have:=en #[v1,v2,v3] V
 go_simp
theorem zqM {f:FuncId}(hop:∃ts,o.op= .call { callee:= .value (.func f),args:= #[],argTypes:=ts })(en:∀args w,(callFunc f args).run Tryz.prog w= .ok (.enter f args) w):(execOp a.eval o).run Tryz.prog V= .ok (.enter f #[]) V:=by
 obtain⟨dst,op,ty,pos,after,guard⟩:=o
 obtain⟨ts,hop⟩:=hop
 simp only at hop
 subst hop
 have:=en #[] V
 go_simp
theorem zqN {f:FuncId}(hop:∃ts,o.op= .call { callee:= .value (.func f),args:= #[.const v1],argTypes:=ts })(en:∀args w,(callFunc f args).run Tryz.prog w= .ok (.enter f args) w):(execOp a.eval o).run Tryz.prog V= .ok (.enter f #[v1]) V:=zns hop en
theorem zoD {f:FuncId}(hop:∃ts,o.op= .call { callee:= .value (.func f),args:= #[.const v1,.const v2],argTypes:=ts })(en:∀args w,(callFunc f args).run Tryz.prog w= .ok (.enter f args) w):(execOp a.eval o).run Tryz.prog V= .ok (.enter f #[v1,v2]) V:=by
 obtain⟨dst,op,ty,pos,after,guard⟩:=o
 obtain⟨ts,hop⟩:=hop
 simp only at hop
 subst hop
 have:=en #[v1,v2] V
 go_simp
theorem zbl {T:TypeId}{b:Bool}(ho:o.op= .unOp .not T (.tmp t1))(h:a.tmps.getD t1 undef= .bool b):(execOp a.eval o).run Tryz.prog V= .ok (.value (.bool (!b))) V:=by
 rw[zae]at h
 obtain⟨dst,op,ty,pos,after,guard⟩:=o
 simp only at ho
 subst ho
 cases b <;> go_simp
section
variable {x y:Int}{X Y:Operand}
theorem zc9 (ho:o.op= .binOp .lss 3 X Y 3) (h:a.eval X= .int .i64 x) (h':a.eval Y= .int .i64 y):(execOp a.eval o).run Tryz.prog V= .ok (.value (.bool (decide (x<y)))) V:=by
 obtain⟨dst,op,ty,pos,after,guard⟩:=o;simp only at ho;subst ho
 unfold execOp;simp only[h,h'];go_simp
theorem zcp (ho:o.op= .binOp .gtr 3 X Y 3) (h:a.eval X= .int .i64 x) (h':a.eval Y= .int .i64 y):(execOp a.eval o).run Tryz.prog V= .ok (.value (.bool (decide (y<x)))) V:=by
 obtain⟨dst,op,ty,pos,after,guard⟩:=o;simp only at ho;subst ho
 unfold execOp;simp only[h,h'];go_simp
theorem zdx (T:TypeId)(hT:T=3\/T=61) (ho:o.op= .binOp .eql T X Y T) (h:a.eval X= .int .i64 x) (h':a.eval Y= .int .i64 y):(execOp a.eval o).run Tryz.prog V= .ok (.value (.bool (decide (x=y)))) V:=by
 obtain⟨dst,op,ty,pos,after,guard⟩:=o;simp only at ho;subst ho
 rcases hT with rfl|rfl
 ·unfold execOp;simp only[h,h'];go_simp;rfl
 ·unfold execOp;simp only[h,h'];go_simp;rfl
theorem zgp (T:TypeId)(hT:T=3\/T=61) (ho:o.op= .binOp .neq T X Y T) (h:a.eval X= .int .i64 x) (h':a.eval Y= .int .i64 y):(execOp a.eval o).run Tryz.prog V= .ok (.value (.bool (!decide (x=y)))) V:=by
 obtain⟨dst,op,ty,pos,after,guard⟩:=o;simp only at ho;subst ho
 rcases hT with rfl|rfl
 ·unfold execOp;simp only[h,h'];go_simp;rfl
 ·unfold execOp;simp only[h,h'];go_simp;rfl
theorem zm9 {b c:Bool}(ho:o.op= .binOp .neq 4 X Y 4) (h:a.eval X= .bool b) (h':a.eval Y= .bool c):(execOp a.eval o).run Tryz.prog V= .ok (.value (.bool (b != c))) V:=by
 obtain⟨dst,op,ty,pos,after,guard⟩:=o;simp only at ho;subst ho
 unfold execOp;simp only[h,h'];cases b <;> cases c <;> go_simp
def Inr (x:Int):Prop:= -9223372036854775808<=x/\x<=9223372036854775807
theorem zna {x:Int}(h:Inr x):IntKind.i64.wrap x=x:=by
 rw[IntKind.wrap_i64];unfold Inr at h;omega
theorem zt6 (ho:o.op= .binOp .add 3 X Y 3) (h:a.eval X= .int .i64 x) (h':a.eval Y= .int .i64 y) (hi:Inr (x+y)):(execOp a.eval o).run Tryz.prog V= .ok (.value (.int .i64 (x+y))) V:=by
 have hw:=zna hi
 obtain⟨dst,op,ty,pos,after,guard⟩:=o;simp only at ho;subst ho
 unfold execOp;simp only[h,h'];go_simp
theorem zdO (ho:o.op= .binOp .mul 3 X Y 3) (h:a.eval X= .int .i64 x) (h':a.eval Y= .int .i64 y) (hi:Inr (x*y)):(execOp a.eval o).run Tryz.prog V= .ok (.value (.int .i64 (x*y))) V:=by
 have hw:=zna hi
 obtain⟨dst,op,ty,pos,after,guard⟩:=o;simp only at ho;subst ho
 unfold execOp;simp only[h,h'];go_simp
theorem ze5 {k m:Nat}(ho:o.op= .binOp .add 3 X Y 3) (h:a.eval X= .int .i64 (k:Nat)) (h':a.eval Y= .int .i64 (m:Nat)) (hi:k+m<9223372036854775808):(execOp a.eval o).run Tryz.prog V= .ok (.value (.int .i64 ((k+m:Nat):Int))) V:=by
 have:=zt6 (V:=V) ho h h' (by unfold Inr;omega)
 rw[this,Int.natCast_add]
theorem zbY {T:TypeId}(hT:T=23\/T=104\/T=129) {A:Option Addr} {n c:Nat} (ho:o.op= .call { callee:= .builtin .len,args:= #[.tmp t1],argTypes:= #[T] }) (h:a.tmps.getD t1 undef= .slice A n c):(execOp a.eval o).run Tryz.prog V= .ok (.value (.int .i64 (n:Nat))) V:=by
 rw[zae]at h
 obtain⟨dst,op,ty,pos,after,guard⟩:=o;simp only at ho;subst ho
 rcases hT with rfl|rfl|rfl <;> go_simp
end
theorem zqO {T:TypeId}(hT:T=27\/T=96) {K' K3 N:Nat} {Z:Int} (h:ZT K Z v1 V) (h':NT K' N v2 V) (b3:K<=K3) (b3':K'<=K3):∃v,(Instr.build T #[(0,v1),(1,v2)]).run Tryz.prog V= .ok v V/\QP K3 Z N v V:=by
 obtain⟨b,x,rfl,hz,hk,ho⟩:=h
 obtain⟨y,rfl,hN,hn,hk',ho'⟩:=h'
 rcases hT with rfl|rfl
 ·exact⟨_,zhM _ _ _ _ _ _ _,b,x,y,rfl,⟨hz,hN,hn⟩,by omega,by omega,ho,ho'⟩
 ·exact⟨_,zd3 _ _ _ _ _ _ _,b,x,y,rfl,⟨hz,hN,hn⟩,by omega,by omega,ho,ho'⟩
theorem zvg {T:TypeId}(hT:T=27\/T=96) {K' K3 N:Nat} {Z:Int} (h:Z1 K Z v1 V) (h':N1 K' N v2 V) (b3:K<=K3) (b3':K'<=K3):∃v,(Instr.build T #[(0,v1),(1,v2)]).run Tryz.prog V= .ok v V/\QA K3 Z N v V:=by
 obtain⟨b,x,rfl,hz,hk,ho⟩:=h
 obtain⟨y,rfl,hN,hk',ho'⟩:=h'
 rcases hT with rfl|rfl
 ·exact⟨_,zhM _ _ _ _ _ _ _,b,x,y,rfl,⟨hz,hN⟩,by omega,by omega,ho,ho'⟩
 ·exact⟨_,zd3 _ _ _ _ _ _ _,b,x,y,rfl,⟨hz,hN⟩,by omega,by omega,ho,ho'⟩
theorem ztk {Z:Int}(h:ZT K Z v1 V):(Instr.build 94 #[(0,v1)]).run Tryz.prog V= .ok v1 V:=by
 obtain⟨b,x,rfl,hz,hk,ho⟩:=h
 exact zcP _ _ _ _
theorem ztl {N:Nat}{b:Bool}(h:N1 K N v1 V):∃v,(Instr.build 25 #[(0,.bool b),(1,v1)]).run Tryz.prog V= .ok v V/\Z1 K (zOf b N) v V:=by
 obtain⟨x,rfl,rfl,hk,ho⟩:=h
 exact⟨_,zjG _ _ _ _,b,x,rfl,rfl,hk,ho⟩
def zjH (o:Oper)(a:Act)(V:World)(F:Value->World->Prop):Prop:=∃v V',(execOp a.eval o).run Tryz.prog V= .ok (.value v) V'/\F v V'/\Below V.heap.size V V'
theorem zso {ops:Array Oper}{Q:Exit->Act->World->Prop}{i:Nat}{F:Value->World->Prop}(ho:ops[i]?=some o)(hd:o.dst=some t)(hw:Region.wanted o (yielded ops a.tmps)=true)(h:zjH o a V F):zcA Tryz.prog ops Q i t F a V:=by
 obtain⟨v,V',h1,h2,h3⟩:=h
 exact zsj ho hd hw h1 h3 h2
theorem zsp {n:Nat}{ops:Array Oper}{Q:Exit->Act->World->Prop}{rest:List Oper}{F:Value->World->Prop}(S:Frm n ls lb w e a V)(h:zjH o a V F)(hg:o.guard=none)(hd:o.dst=some t)(ht:t<n){ls':List (Tmp×Value)}(hl:zfd t ls=ls')
  (k:∀v a V',F v V'->Below V.heap.size V V'->Frm n ((t,v)::ls') lb w e a V'->wpList Tryz.prog ops Q rest a V'):wpList Tryz.prog ops Q (o::rest) a V:=by
 obtain⟨v,V',h1,h2,h3⟩:=h
 exact zsf S h1 h3 h2 hg hd ht hl k
theorem zt7 {T:TypeId}{cs:List Value}{W:World}(hr:(execOp a.eval o).run Tryz.prog V= .ok (.value (.pointer (some ⟨V.heap.size,0,none⟩))) (V.alloc (.cells cs.toArray T)))(hW:W.heap.size<=V.heap.size):zjH o a V (RBx W T cs):=
 ⟨_,_,hr,⟨_,rfl,hW,World.alloc_heap_new' V _⟩,zv1.alloc zv0 _⟩
theorem zcQ {Z1' Z2':Int}(hop:o.op= .buildSlice 121 2 #[(0,.tmp t1),(1,.tmp t2)]) (h1:a.tmps.getD t1 undef=v1) (h2:a.tmps.getD t2 undef=v2) (r1:Z1 K Z1' v1 V) (r2:Z1 K Z2' v2 V):zjH o a V (ZL K 4 [Z1',Z2']):=by
 obtain⟨b,r,rfl,hz,hn,hk⟩:=r1
 obtain⟨b',s,rfl,hz',hn',hk'⟩:=r2
 have hE:Env V [r,s] V:=Env.start (by simp[hk,hk'])
 have hR:=ZRds.two (x:=r) (y:=s) (t:=25) b b' hE (by simp) (by simp)
 have hb:Below V.heap.size V (V.alloc (.cells #[.bool b,.slice r.A r.n r.c,.bool b',.slice s.A s.n s.c] 25)):=zv1.alloc zv0 _
 refine⟨.slice (some ⟨V.heap.size,0,none⟩) 2 2,V.alloc (.cells #[.bool b,.slice r.A r.n r.c,.bool b',.slice s.A s.n s.c] 25),?_,⟨_,[(b,r),(b',s)],_,rfl,World.alloc_heap_new' V _,rfl,by rw[World.size_alloc];exact hR,by simp[zP,hz,hz'],by simp[hn,hn'],by simp⟩,hb⟩
 rw[zae]at h1 h2
 obtain⟨dst,op,ty,pos,after,guard⟩:=o
 simp only at hop
 subst hop
 go_simp
theorem QRds.lit {ps:List (Bool×Num×Num)}{cs:Array Value}{T:TypeId}(hcs:∀k (h:k<ps.length),cs[k*3]?=some (.bool ps[k].1)/\cs[k*3+1]?=some (.slice ps[k].2.1.A ps[k].2.1.n ps[k].2.1.c)/\cs[k*3+2]?=some (.slice ps[k].2.2.A ps[k].2.2.n ps[k].2.2.c))(hok:∀p∈ps,p.2.1.ok V V.heap.size/\p.2.2.ok V V.heap.size):
  QRds (V.alloc (.cells cs T)) (V.alloc (.cells cs T)).heap.size (some ⟨V.heap.size,0,none⟩) ps:=fun k hk=>by
 have hb:Below V.heap.size V (V.alloc (.cells cs T)):=zv1.alloc zv0 _
 have hg:=World.alloc_heap_new' V (.cells cs T)
 obtain⟨c1,c2,c3⟩:=hcs k hk
 obtain⟨o1,o2⟩:=hok _ (List.getElem_mem hk)
 refine⟨⟨_,rfl,by rw[World.size_alloc];exact Nat.lt_succ_self _,?_,?_,?_⟩,o1.later hb,o2.later hb⟩
 ·rw[zaW,cell_of_row _ _ _ _ _ _ hg];exact c1
 ·rw[zaW,cell_of_row _ _ _ _ _ _ hg];exact c2
 ·rw[zaW,cell_of_row _ _ _ _ _ _ hg];exact c3
theorem zbW {q1 q2:Rat}(hop:o.op= .buildSlice 104 2 #[(0,.tmp t1),(1,.tmp t2)]) (h1:a.tmps.getD t1 undef=v1) (h2:a.tmps.getD t2 undef=v2) (r1:Q1 K q1 v1 V) (r2:Q1 K q2 v2 V):zjH o a V (QL K 6 [q1,q2]):=by
 obtain⟨b,x,y,rfl,hz,k1,k2,o1,o2⟩:=r1
 obtain⟨b',x',y',rfl,hz',k1',k2',o1',o2'⟩:=r2
 refine⟨.slice (some ⟨V.heap.size,0,none⟩) 2 2,V.alloc (.cells #[.bool b,.slice x.A x.n x.c,.slice y.A y.n y.c,.bool b',.slice x'.A x'.n x'.c,.slice y'.A y'.n y'.c] 27),?_,⟨_,[(b,x,y),(b',x',y')],_,rfl,World.alloc_heap_new' V _,rfl,QRds.lit (fun k hk=>?_) (by simp[o1,o2,o1',o2']),by simp[qP,hz,hz'],by simp[k1,k2,k1',k2'],by simp⟩,zv1.alloc zv0 _⟩
 ·rw[zae]at h1 h2
  obtain⟨dst,op,ty,pos,after,guard⟩:=o
  simp only at hop
  subst hop
  go_simp
 ·match k,hk with
  |0,_=>exact⟨rfl,rfl,rfl⟩
  |1,_=>exact⟨rfl,rfl,rfl⟩
def zbr (A:Option Addr)(k:Nat):Addr:=match A with
 |some ad=>ad.add k
 |none=>⟨0,0,none⟩
theorem zgq {ps:List (Bool×Num×Num)}{A:Option Addr}{c k hi:Nat}{W:World}(hR:QRds W hi A ps)(hk:k<ps.length)(ho:o.op= .indexAddr 104 (.tmp t1) (.tmp t2)) (h1:a.tmps.getD t1 undef= .slice A ps.length c) (h2:a.tmps.getD t2 undef= .int .i64 (k:Nat)):
  (execOp a.eval o).run Tryz.prog V= .ok (.value (.pointer (some (zbr A (k*3))))) V:=by
 obtain⟨⟨ad,rfl,-⟩,-⟩:=hR k hk
 rw[zae]at h1 h2
 obtain⟨dst,op,ty,pos,after,guard⟩:=o
 simp only at ho
 subst ho
 have h3:(k:Int)<(ps.length:Int):=by omega
 unfold zbr
 go_simp
theorem zhN {ps:List (Bool×Num×Num)}{A:Option Addr}{k:Nat}{b:Bool}{x y:Num}(hR:QRds V V.heap.size A ps)(hk:k<ps.length)(he:ps[k]=(b,x,y))(ho:o.op= .load 27 (.tmp t1)) (h1:a.tmps.getD t1 undef= .pointer (some (zbr A (k*3)))):
  (execOp a.eval o).run Tryz.prog V= .ok (.value (.agg #[.bool b,.slice x.A x.n x.c,.slice y.A y.n y.c])) V:=by
 obtain⟨⟨ad,rfl,h2,h3,h4,h5⟩,-⟩:=hR k hk
 rw[he]at h3 h4 h5
 rw[zmh _ _ _ (by omega)]at h4 h5
 obtain⟨p,hp⟩:∃p,ad.add (k*3)=p:=⟨_,rfl⟩
 rw[hp]at h3 h4 h5
 rw[zae]at h1
 have h1'':a.tmps[t1]?.getD undef= .pointer (some p):=by rw[h1];show Value.pointer (some (ad.add (k*3)))=_;rw[hp]
 clear h1 h2 hR hp he
 obtain⟨dst,op,ty,pos,after,guard⟩:=o
 simp only at ho
 subst ho
 go_simp
theorem zoE (b:Bool)(A B:Option Addr)(n c m d:Nat):(Instr.field 96 (.agg #[.bool b,.slice A n c,.slice B m d]) 0).run Tryz.prog V= .ok (.agg #[.bool b,.slice A n c]) V:=by
 have h1:=Tryz.runUnderlying96 V
 have h2:=Tryz.isAgg94 V
 simp[Instr.field,part,Sem.run_bind,h1,h2,asAgg]
theorem zoF {T:TypeId}{k:Nat}(ho:o.op= .field T (.tmp t1) k)(h:a.tmps.getD t1 undef=v1)(hr:(Instr.field T v1 k).run Tryz.prog V= .ok v V):(execOp a.eval o).run Tryz.prog V= .ok (.value v) V:=by
 have e1:a.eval (.tmp t1)=v1:=h
 unfold execOp;simp only[ho,e1,Sem.run_bind,hr]
 rfl
def ZS (K:Nat)(q:Rat)(v:Value)(V:World):Prop:=∃Z:Int,Z1 K Z v V/\Z.sign=zan q 0
theorem ZS.keep {q:Rat}(h:ZS K q v V)(hb:Below V.heap.size V V'):ZS K q v V':=by obtain⟨Z,h1,h2⟩:=h;exact⟨Z,h1.keep hb,h2⟩
theorem ZS.keepS {q:Rat}{shs:List (TypeId×Nat)}{g:Nat}{vs:List Value}(h:ZS K q v V)(hb:Sto shs g vs V V'):ZS K q v V':=by obtain⟨Z,h1,h2⟩:=h;exact⟨Z,h1.keepS hb,h2⟩
theorem zmk {b:Bool}{x y:Num}{q:Rat}(h:y.N≠0/\qOf b x.N y.N=q):(zOf b x.N).sign=zan q 0:=by
 rw[<-zqI,<-h.2]
 have ha:=zd1 (z:=zOf b x.N) h.1
 unfold qOf
 have hg:0<Nat.gcd (zOf b x.N).natAbs y.N:=Nat.gcd_pos_of_pos_right _ (by have:=h.1;omega)
 have hd:Nat.gcd (zOf b x.N).natAbs y.N∣(zOf b x.N).natAbs:=Nat.gcd_dvd_left _ _
 obtain⟨a1,a2⟩:=ha
 have h3:=Nat.div_mul_cancel hd
 rw[<-a1]at h3
 rw[decide_eq_decide]at a2
 generalize (mkRat (zOf b x.N) y.N).num=m at*
 generalize zOf b x.N=z at*
 rcases Int.lt_trichotomy z 0 with hz|hz|hz
 ·rw[Int.sign_eq_neg_one_of_neg hz,Int.sign_eq_neg_one_of_neg (a2.2 hz)]
 ·subst hz
  have:m.natAbs=0:=by
   rcases Nat.mul_eq_zero.1 h3 with h4|h4
   ·exact h4
   ·omega
  rw[show m=0 by omega]
 ·have h5: ¬m<0:=fun h=>by have:=a2.1 h;omega
  have h6:m≠0:=fun h=>by rw[h]at h3;simp at h3;omega
  rw[Int.sign_eq_one_of_pos hz,Int.sign_eq_one_of_pos (by omega)]
theorem zbz {b c:Bool}(hr:(execOp a.eval o).run Tryz.prog V= .ok (.value (.bool b)) V)(h:b=c):(execOp a.eval o).run Tryz.prog V= .ok (.value (.bool c)) V:=by rw[<-h];exact hr
end
section
variable {n:Nat}{ls:List (Tmp × Value)}{lb:List Bx}{w V V':World}{e:List Num}{a:Act}{o oj:Oper}{t tj:Tmp}{v:Value}{ops:Array Oper}{Q:Exit -> Act -> World -> Prop}{rest:List Oper}{F:Value -> World -> Prop}{P:Program}{j:Nat}{b c:Bool}{f:FuncId}{args:Array Value}
def zgr (t:Tmp)(ls:List (Tmp×Value)):Bool:=ls.all (fun p=>p.1 != t)
theorem zc4 (h:zgr t ls=true):zfd t ls=ls:=List.filter_eq_self.2 (fun p hp=>List.all_eq_true.1 h p hp)
theorem tv (S:Frm n ls lb w e a V)(hr:(execOp a.eval o).run P V= .ok (.value v) V)(k:∀a,Frm n ((t,v)::ls) lb w e a V->wpList P ops Q rest a V)
 (hg:o.guard=none:=by exact rfl) (hd:o.dst=some t:=by exact rfl) (ht:t<n:=by decide) (hl:zgr t ls=true:=by exact rfl):wpList P ops Q (o::rest) a V:=zqx S hr hg hd ht (zc4 hl) k
theorem tvg (S:Frm n ls lb w e a V)(hv:a.tmps.getD tj undef= .bool c)(hr:(execOp a.eval o).run P V= .ok (.value v) V)(k:∀a,Frm n ((t,v)::ls) lb w e a V->wpList P ops Q rest a V)
 (h:o.guard=some (j,b):=by exact rfl) (hj:ops[j]?=some oj:=by exact rfl) (hdj:oj.dst=some tj:=by exact rfl) (hne:(c==b)=true:=by exact rfl) (hd:o.dst=some t:=by exact rfl) (ht:t<n:=by decide) (hl:zgr t ls=true:=by exact rfl):wpList P ops Q (o::rest) a V:=zsi S h hj hdj hv hne hr hd ht (zc4 hl) k
theorem tk (S:Frm n ls lb w e a V)(hv:a.tmps.getD tj undef= .bool c)(k:∀a,Frm n ((t,undef)::ls) lb w e a V->wpList P ops Q rest a V)
 (h:o.guard=some (j,b):=by exact rfl) (hj:ops[j]?=some oj:=by exact rfl) (hdj:oj.dst=some tj:=by exact rfl) (hne:(c==b)=false:=by exact rfl) (hd:o.dst=some t:=by exact rfl) (ht:t<n:=by decide) (hl:zgr t ls=true:=by exact rfl):wpList P ops Q (o::rest) a V:=zsh S h hj hdj hv hne hd ht (zc4 hl) k
theorem tc (S:Frm n ls lb w e a V)(hr:(execOp a.eval o).run P V= .ok (.enter f args) V)(hc:Calls P f args V (zaf V F))(k:∀v a V',F v V'->Below V.heap.size V V'->Frm n ((t,v)::ls) lb w e a V'->wpList P ops Q rest a V')
 (hg:o.guard=none:=by exact rfl) (hd:o.dst=some t:=by exact rfl) (ht:t<n:=by decide) (hl:zgr t ls=true:=by exact rfl):wpList P ops Q (o::rest) a V:=zsg S hr hc hg hd ht (zc4 hl) k
theorem tcg (S:Frm n ls lb w e a V)(hv:a.tmps.getD tj undef= .bool c)(hr:(execOp a.eval o).run P V= .ok (.enter f args) V)(hc:Calls P f args V (zaf V F))(k:∀v a V',F v V'->Below V.heap.size V V'->Frm n ((t,v)::ls) lb w e a V'->wpList P ops Q rest a V')
 (h:o.guard=some (j,b):=by exact rfl) (hj:ops[j]?=some oj:=by exact rfl) (hdj:oj.dst=some tj:=by exact rfl) (hne:(c==b)=true:=by exact rfl) (hd:o.dst=some t:=by exact rfl) (ht:t<n:=by decide) (hl:zgr t ls=true:=by exact rfl):wpList P ops Q (o::rest) a V:=zqy S h hj hdj hv hne hr hc hd ht (zc4 hl) k
theorem ti (S:Frm n ls lb w e a V){T:TypeId}{cs:List Value}(hr:(execOp a.eval o).run P V= .ok (.value (.pointer (some ⟨V.heap.size,0,none⟩))) (V.alloc (.cells cs.toArray T)))(lb':Nat->List Bx)(k:∀g a V',V.heap.size=g->Frm n ((t,.pointer (some ⟨g,0,none⟩))::ls) (lb' g) w e a V'->wpList P ops Q rest a V')
 (hn:cs.all za6=true:=by exact rfl) (hg:o.guard=none:=by exact rfl) (hd:o.dst=some t:=by exact rfl) (ht:t<n:=by decide) (hl:zgr t ls=true:=by exact rfl) (hlb:∀g,lb++[⟨g,T,cs⟩]=lb' g:=by exact fun _=>rfl):wpList P ops Q (o::rest) a V:=zt1 S hr hn hg hd ht (zc4 hl) hlb k
end
section
variable {n:Nat}{ls:List (Tmp × Value)}{lb:List Bx}{w V V':World}{e:List Num}{a:Act}{o oj:Oper}{t tj:Tmp}{v:Value}{ops:Array Oper}{Q:Exit -> Act -> World -> Prop}{rest:List Oper}{F:Value -> World -> Prop}{i j:Nat}{b c:Bool}{f:FuncId}{args:Array Value}
theorem ty (S:Frm n ls lb w e a V)(h:zjH o a V F)(k:∀v a V',F v V'->Below V.heap.size V V'->Frm n ((t,v)::ls) lb w e a V'->wpList Tryz.prog ops Q rest a V')
 (hg:o.guard=none:=by exact rfl) (hd:o.dst=some t:=by exact rfl) (ht:t<n:=by decide) (hl:zgr t ls=true:=by exact rfl):wpList Tryz.prog ops Q (o::rest) a V:=zsp S h hg hd ht (zc4 hl) k
theorem sv (ho:ops[i]?=some o)(hr:(execOp a.eval o).run Tryz.prog V= .ok (.value v) V)(hF:F v V:=by exact rfl)(hd:o.dst=some t:=by exact rfl)(hg:o.guard=none:=by exact rfl):zcA Tryz.prog ops Q i t F a V:=zqz ho hd (zac hg) hr hF
theorem svg (ho:ops[i]?=some o)(hv:a.tmps.getD tj undef= .bool c)(hr:(execOp a.eval o).run Tryz.prog V= .ok (.value v) V)(hF:F v V:=by exact rfl)(hd:o.dst=some t:=by exact rfl)(h:o.guard=some (j,b):=by exact rfl)(hj:ops[j]?=some oj:=by exact rfl)(hdj:oj.dst=some tj:=by exact rfl)(hne:(c==b)=true:=by exact rfl):zcA Tryz.prog ops Q i t F a V:=zqz ho hd ((zdm h hj hdj hv).trans hne) hr hF
theorem sk (ho:ops[i]?=some o)(hv:a.tmps.getD tj undef= .bool c)(hF:F undef V:=by exact rfl)(hd:o.dst=some t:=by exact rfl)(h:o.guard=some (j,b):=by exact rfl)(hj:ops[j]?=some oj:=by exact rfl)(hdj:oj.dst=some tj:=by exact rfl)(hne:(c==b)=false:=by exact rfl):zcA Tryz.prog ops Q i t F a V:=zsk ho hd ((zdm h hj hdj hv).trans hne) hF
theorem sl (ho:ops[i]?=some o)(hr:(execOp a.eval o).run Tryz.prog V= .ok (.enter f args) V)(hc:Calls Tryz.prog f args V (zaf V F))(hd:o.dst=some t:=by exact rfl)(hg:o.guard=none:=by exact rfl):zcA Tryz.prog ops Q i t F a V:=zm7 ho hd (zac hg) hr hc
theorem slg (ho:ops[i]?=some o)(hv:a.tmps.getD tj undef= .bool c)(hr:(execOp a.eval o).run Tryz.prog V= .ok (.enter f args) V)(hc:Calls Tryz.prog f args V (zaf V F))(hd:o.dst=some t:=by exact rfl)(h:o.guard=some (j,b):=by exact rfl)(hj:ops[j]?=some oj:=by exact rfl)(hdj:oj.dst=some tj:=by exact rfl)(hne:(c==b)=true:=by exact rfl):zcA Tryz.prog ops Q i t F a V:=zm7 ho hd ((zdm h hj hdj hv).trans hne) hr hc
theorem sy (ho:ops[i]?=some o)(h:zjH o a V F)(hd:o.dst=some t:=by exact rfl)(hg:o.guard=none:=by exact rfl):zcA Tryz.prog ops Q i t F a V:=zso ho hd (zac hg) h
end
section
variable {V:World}{a:Act}{o:Oper}{t1 t2 t3:Tmp}{v1 v2 v3:Value}{f:FuncId}{fn:Func}{cd:Code}
theorem rc0 (hf : Tryz.prog.funcs[f]? = some fn) (hop : ∃ ts, o.op = .call { callee := .value (.func f), args := #[], argTypes := ts } := by exact ⟨_, rfl⟩) (hn : (fn.name == "runtime.NumGoroutine") = false := by kernel_rfl) (hb : fn.body = some cd := by exact rfl) : (execOp a.eval o).run Tryz.prog V = .ok (.enter f #[]) V := zqM hop (enters_of hf hn hb)
theorem rc1 (hf : Tryz.prog.funcs[f]? = some fn) (h1 : a.tmps.getD t1 undef = v1) (hop : ∃ ts, o.op = .call { callee := .value (.func f), args := #[.tmp t1], argTypes := ts } := by exact ⟨_, rfl⟩) (hn : (fn.name == "runtime.NumGoroutine") = false := by kernel_rfl) (hb : fn.body = some cd := by exact rfl) : (execOp a.eval o).run Tryz.prog V = .ok (.enter f #[v1]) V := zf3 hop h1 (enters_of hf hn hb)
theorem rc2 (hf : Tryz.prog.funcs[f]? = some fn) (h1 : a.tmps.getD t1 undef = v1) (h2 : a.tmps.getD t2 undef = v2) (hop : ∃ ts, o.op = .call { callee := .value (.func f), args := #[.tmp t1, .tmp t2], argTypes := ts } := by exact ⟨_, rfl⟩) (hn : (fn.name == "runtime.NumGoroutine") = false := by kernel_rfl) (hb : fn.body = some cd := by exact rfl) : (execOp a.eval o).run Tryz.prog V = .ok (.enter f #[v1, v2]) V := zk0 hop h1 h2 (enters_of hf hn hb)
theorem rc3 (hf : Tryz.prog.funcs[f]? = some fn) (h1 : a.tmps.getD t1 undef = v1) (h2 : a.tmps.getD t2 undef = v2) (h3 : a.tmps.getD t3 undef = v3) (hop : ∃ ts, o.op = .call { callee := .value (.func f), args := #[.tmp t1, .tmp t2, .tmp t3], argTypes := ts } := by exact ⟨_, rfl⟩) (hn : (fn.name == "runtime.NumGoroutine") = false := by kernel_rfl) (hb : fn.body = some cd := by exact rfl) : (execOp a.eval o).run Tryz.prog V = .ok (.enter f #[v1, v2, v3]) V := zqL hop h1 h2 h3 (enters_of hf hn hb)
theorem rcc (hf : Tryz.prog.funcs[f]? = some fn) (hop : ∃ ts, o.op = .call { callee := .value (.func f), args := #[.const v1], argTypes := ts } := by exact ⟨_, rfl⟩) (hn : (fn.name == "runtime.NumGoroutine") = false := by kernel_rfl) (hb : fn.body = some cd := by exact rfl) : (execOp a.eval o).run Tryz.prog V = .ok (.enter f #[v1]) V := zqN hop (enters_of hf hn hb)
theorem zda (hf : Tryz.prog.funcs[f]? = some fn) (hop : ∃ ts, o.op = .call { callee := .value (.func f), args := #[.const v1, .const v2], argTypes := ts } := by exact ⟨_, rfl⟩) (hn : (fn.name == "runtime.NumGoroutine") = false := by kernel_rfl) (hb : fn.body = some cd := by exact rfl) : (execOp a.eval o).run Tryz.prog V = .ok (.enter f #[v1, v2]) V := zoD hop (enters_of hf hn hb)
end
def IsV (x:Value):Value->World->Prop:=fun v _=>v=x
class Keeps (F:Value->World->Prop):Prop where
 keep:∀ {v:Value} {V V':World},F v V->Below V.heap.size V V'->F v V'
class KeepsL (fs:List (Value->World->Prop)):Prop where
 all:∀F∈fs,Keeps F
instance:KeepsL []:=⟨fun _ h=>by cases h⟩
instance {F:Value->World->Prop} {fs:List (Value->World->Prop)} [h1:Keeps F] [h2:KeepsL fs]:KeepsL (F::fs):=⟨fun G h=>by
 rcases List.mem_cons.1 h with rfl|h
 ·exact h1
 ·exact h2.all G h⟩
instance {x:Value}:Keeps (IsV x):=⟨fun h _=>h⟩
def fct (fs:List (Value->World->Prop))(i:Nat)(v:Value)(V:World):Prop:=(fs.getD i fun _ _=>True) v V
theorem zeJ {fs:List (Value->World->Prop)}{i:Nat}{F:Value->World->Prop}(h:fs[i]?=some F):fct fs i=F:=by
 funext v V
 unfold fct
 rw[List.getD_eq_getElem?_getD,h]
 rfl
theorem zk1 {fs:List (Value->World->Prop)}[h:KeepsL fs](i:Nat)(v:Value)(V V':World)(hf:fct fs i v V)(hb:Below V.heap.size V V'):fct fs i v V':=by
 rcases e:fs[i]? with _|F
 ·unfold fct;rw[List.getD_eq_getElem?_getD,e];trivial
 ·rw[zeJ e]at hf ⊢
  exact(h.all F (List.mem_of_getElem? e)).keep hf hb
def Steps (G:Nat->Tmp->(Value->World->Prop)->Prop):Nat->List Tmp->List (Value->World->Prop)->Prop
 |i,t::ts,F::fs=>G i t F/\Steps G (i+1) ts fs
 |_,[],[]=>True
 |_,_,_=>False
theorem sc {G:Nat->Tmp->(Value->World->Prop)->Prop}{i:Nat}{t:Tmp}{ts:List Tmp}{F:Value->World->Prop}{fs:List (Value->World->Prop)}(h:G i t F)(h2:Steps G (i+1) ts fs):Steps G i (t::ts) (F::fs):=⟨h,h2⟩
theorem sn {G:Nat->Tmp->(Value->World->Prop)->Prop}{i:Nat}:Steps G i [] []:=trivial
theorem Steps.at {G:Nat->Tmp->(Value->World->Prop)->Prop}:∀ {i:Nat} {ts:List Tmp} {fs:List (Value->World->Prop)},Steps G i ts fs->∀ {k:Nat} {t:Tmp},ts[k]?=some t->∃F,fs[k]?=some F/\G (i+k) t F
 |i,t::ts,F::fs,h,0,t',hk=>by
  obtain rfl:t=t':=by simpa using hk
  exact⟨F,rfl,h.1⟩
 |i,t::ts,F::fs,h,k+1,t',hk=>by
  obtain⟨F',h1,h2⟩:=Steps.at h.2 (k:=k) (t:=t') (by simpa using hk)
  exact⟨F',by simpa using h1,by rw[show i+(k+1)=i+1+k by omega];exact h2⟩
 |_,[],[],_,k,t,hk=>by simp at hk
 |_,_::_,[],h,_,_,_=>h.elim
 |_,[],_::_,h,_,_,_=>h.elim
def Kn (l:List Oper)(i:Nat)(dst:List Tmp)(fs:List (Value->World->Prop))(a:Act)(V:World):Prop:=∀j t',dst[j]?=some t'->Region.waitsFor .any l.toArray i j=true->fct fs j (a.tmps.getD t' undef) V
def Kf (dst:List Tmp)(fs:List (Value->World->Prop))(a:Act)(V:World):Prop:=∀j t',dst[j]?=some t'->fct fs j (a.tmps.getD t' undef) V
section
variable {l:List Oper}{i:Nat}{dst:List Tmp}{fs:List (Value -> World -> Prop)}{a:Act}{V:World}{t:Tmp}{F:Value -> World -> Prop}{x:Value}
theorem Kn.r (h:Kn l i dst fs a V)(j:Nat)(ht:dst[j]?=some t)(hF:fs[j]?=some F)(hw:Region.waitsFor .any l.toArray i j=true:=by kernel_rfl):F (a.tmps.getD t undef) V:=zeJ hF▸h j t ht hw
theorem Kn.v (h:Kn l i dst fs a V)(j:Nat)(ht:dst[j]?=some t)(hF:fs[j]?=some (IsV x))(hw:Region.waitsFor .any l.toArray i j=true:=by kernel_rfl):a.tmps.getD t undef=x:=h.r j ht hF hw
theorem Kf.r (h:Kf dst fs a V)(j:Nat)(ht:dst[j]?=some t)(hF:fs[j]?=some F):F (a.tmps.getD t undef) V:=zeJ hF▸h j t ht
theorem Kf.v (h:Kf dst fs a V)(j:Nat)(ht:dst[j]?=some t)(hF:fs[j]?=some (IsV x)):a.tmps.getD t undef=x:=h.r j ht hF
theorem fr {n:Nat}{ls:List (Tmp×Value)}{lb:List Bx}{w W0:World}{e:List Num}{a0:Act}{id:Nat}{Q:Exit->Act->World->Prop}(m:Nat)(dst:List Tmp)(fs:List (Value->World->Prop))[KeepsL fs](S0:Frm n ls lb w e a0 W0)
  (hst:Steps (fun i t F=>∀a V,Frm n ls lb w e a V->Below W0.heap.size W0 V->Kn l i dst fs a V->zcA Tryz.prog l.toArray Q i t F a V) 0 dst fs)
  (hfin:∀a V,Frm n ls lb w e a V->Below W0.heap.size W0 V->Kf dst fs a V->wpList Tryz.prog l.toArray Q (l.drop m) a V)
  (hm:Tryz.prog.follows .mixedOrders=true:=by kernel_rfl) (hB:zc8 .any l.toArray m=true:=by kernel_rfl) (hdl:dst.length=m:=by exact rfl) (hnd:dst.Nodup:=by decide) (hds:dst.all (· <n)=true:=by exact rfl) (hfr:zkW ls dst=true:=by exact rfl):
  (Code.region id l.toArray true).wp Tryz.prog Q a0 W0:=
 zmd m dst (fct fs) S0 hm hB hdl hnd hds hfr zk1 (fun i t ht a V S hb hd=>by
  obtain⟨F,h1,h2⟩:=hst.at ht
  rw[zeJ h1]
  rw[Nat.zero_add]at h2
  exact h2 a V S hb hd) hfin
end
class KeepsS (shs:List (TypeId×Nat)) (F:Value->World->Prop):Prop where
 keep:∀ {g:Nat} {vs:List Value} {v:Value} {V V':World},F v V->Sto shs g vs V V'->F v V'
class KeepsSL (shs:List (TypeId×Nat)) (fs:List (Value->World->Prop)):Prop where
 all:∀F∈fs,KeepsS shs F
class KeepsT (shs:List (TypeId×Nat)) (sts:List St):Prop where
 all:∀s∈sts,Keeps s.P/\KeepsS shs s.P
section
variable {shs:List (TypeId × Nat)}{F:Value -> World -> Prop}{fs:List (Value -> World -> Prop)}
instance:KeepsSL shs []:=⟨fun _ h=>by cases h⟩
instance [h1:KeepsS shs F] [h2:KeepsSL shs fs]:KeepsSL shs (F::fs):=⟨fun G h=>by
 rcases List.mem_cons.1 h with rfl|h
 ·exact h1
 ·exact h2.all G h⟩
instance {x:Value}:KeepsS shs (IsV x):=⟨fun h _=>h⟩
def zfx:Value->World->Prop:=fun _ _=>True
instance:Keeps zfx:=⟨fun _ _=>trivial⟩
instance:KeepsS shs zfx:=⟨fun _ _=>trivial⟩
instance:KeepsT shs []:=⟨fun _ h=>by cases h⟩
instance {i:Nat} {tb:Tmp} {T:TypeId} {sts:List St} [h1:Keeps F] [h2:KeepsS shs F] [h3:KeepsT shs sts]:KeepsT shs (⟨i,tb,T,F⟩::sts):=⟨fun s h=>by
 rcases List.mem_cons.1 h with rfl|h
 ·exact⟨h1,h2⟩
 ·exact h3.all s h⟩
theorem zoG [h:KeepsSL shs fs](i:Nat)(g:Nat)(vs:List Value)(v:Value)(V V':World)(hf:fct fs i v V)(hb:Sto shs g vs V V'):fct fs i v V':=by
 rcases e:fs[i]? with _|F
 ·unfold fct;rw[List.getD_eq_getElem?_getD,e];trivial
 ·rw[zeJ e]at hf ⊢
  exact(h.all F (List.mem_of_getElem? e)).keep hf hb
end
def zgs:List Nat->Bool
 |[]=>true
 |x::l=> !l.contains x&&zgs l
theorem zdk:∀ {l:List Nat},zgs l=true->l.Nodup
 |[],_=>List.nodup_nil
 |x::l,h=>by
  simp only[zgs,Bool.and_eq_true,Bool.not_eq_true',List.contains_eq_mem,decide_eq_false_iff_not]at h
  exact List.nodup_cons.2 ⟨h.1,zdk h.2⟩
def zvh (dst:List (Option Tmp))(als:List Al)(sts:List St):Bool:=
 als.all (fun p=>dst[p.i]?==some (some p.t))&&sts.all (fun s=>dst[s.i]?==some none)&&(List.range dst.length).all (fun i=>dst[i]? != some none||sts.any (·.i==i))&&zgs (als.map (·.i))&&zgs (sts.map (·.i))&&zgs (sts.map (·.tb))
def Vals (als:List Al)(G:Nat->Tmp->(Value->World->Prop)->Prop):Nat->List (Option Tmp)->List (Value->World->Prop)->Prop
 |i,some t::ts,F::fs=>(als.all (fun p=>p.i != i)=true->G i t F)/\Vals als G (i+1) ts fs
 |i,none::ts,_::fs=>Vals als G (i+1) ts fs
 |_,[],[]=>True
 |_,_,_=>False
section
variable {als:List Al}{G:Nat -> Tmp -> (Value -> World -> Prop) -> Prop}{i:Nat}{t:Tmp}{ts:List (Option Tmp)}{F:Value -> World -> Prop}{fs:List (Value -> World -> Prop)}
theorem va (h:G i t F)(h2:Vals als G (i+1) ts fs):Vals als G i (some t::ts) (F::fs):=⟨fun _=>h,h2⟩
theorem vb (h2:Vals als G (i+1) ts fs)(h:als.all (fun p=>p.i != i)=false:=by exact rfl):Vals als G i (some t::ts) (F::fs):=⟨fun h3=>absurd (h.symm.trans h3) (by decide),h2⟩
theorem vs (h2:Vals als G (i+1) ts fs):Vals als G i (none::ts) (F::fs):=h2
theorem vn:Vals als G i [] []:=trivial
theorem Vals.at:∀ {i:Nat} {ts:List (Option Tmp)} {fs:List (Value->World->Prop)},Vals als G i ts fs->∀ {k:Nat} {t:Tmp},ts[k]?=some (some t)->als.all (fun p=>p.i != i+k)=true->∃F,fs[k]?=some F/\G (i+k) t F
 |i,some t::ts,F::fs,h,0,t',hk,ha=>by
  obtain rfl:t=t':=by simpa using hk
  exact⟨F,rfl,h.1 ha⟩
 |i,none::ts,F::fs,h,0,t',hk,ha=>by simp at hk
 |i,some t::ts,F::fs,h,k+1,t',hk,ha=>by
  obtain⟨F',h1,h2⟩:=Vals.at h.2 (k:=k) (t:=t') (by simpa using hk) (by rw[show i+1+k=i+(k+1) by omega];exact ha)
  exact⟨F',by simpa using h1,by rw[show i+(k+1)=i+1+k by omega];exact h2⟩
 |i,none::ts,F::fs,h,k+1,t',hk,ha=>by
  obtain⟨F',h1,h2⟩:=Vals.at (show Vals als G (i+1) ts fs from h) (k:=k) (t:=t') (by simpa using hk) (by rw[show i+1+k=i+(k+1) by omega];exact ha)
  exact⟨F',by simpa using h1,by rw[show i+(k+1)=i+1+k by omega];exact h2⟩
 |_,[],[],_,k,t,hk,_=>by simp at hk
 |_,some _::_,[],h,_,_,_,_=>h.elim
 |_,none::_,[],h,_,_,_,_=>h.elim
 |_,[],_::_,h,_,_,_,_=>h.elim
end
def RnS (l:List Oper)(i:Nat)(dst:List (Option Tmp))(als:List Al)(fs:List (Value->World->Prop))(a:Act)(V:World):Prop:=∀j t',dst[j]?=some (some t')->als.all (fun p=>p.i != j)=true->Region.waitsFor .any l.toArray i j=true->fct fs j (a.tmps.getD t' undef) V
def RfS (dst:List (Option Tmp))(als:List Al)(fs:List (Value->World->Prop))(a:Act)(V:World):Prop:=∀j t',dst[j]?=some (some t')->als.all (fun p=>p.i != j)=true->fct fs j (a.tmps.getD t' undef) V
section
variable {l:List Oper}{i:Nat}{dst:List (Option Tmp)}{als:List Al}{fs:List (Value -> World -> Prop)}{a:Act}{V:World}{t:Tmp}{F:Value -> World -> Prop}{x:Value}
theorem RnS.r (h:RnS l i dst als fs a V)(j:Nat)(ht:dst[j]?=some (some t))(hF:fs[j]?=some F)(ha:als.all (fun p=>p.i != j)=true:=by exact rfl)(hw:Region.waitsFor .any l.toArray i j=true:=by kernel_rfl):F (a.tmps.getD t undef) V:=zeJ hF▸h j t ht ha hw
theorem RnS.v (h:RnS l i dst als fs a V)(j:Nat)(ht:dst[j]?=some (some t))(hF:fs[j]?=some (IsV x))(ha:als.all (fun p=>p.i != j)=true:=by exact rfl)(hw:Region.waitsFor .any l.toArray i j=true:=by kernel_rfl):a.tmps.getD t undef=x:=h.r j ht hF ha hw
theorem RfS.r (h:RfS dst als fs a V)(j:Nat)(ht:dst[j]?=some (some t))(hF:fs[j]?=some F)(ha:als.all (fun p=>p.i != j)=true:=by exact rfl):F (a.tmps.getD t undef) V:=zeJ hF▸h j t ht ha
theorem RfS.v (h:RfS dst als fs a V)(j:Nat)(ht:dst[j]?=some (some t))(hF:fs[j]?=some (IsV x))(ha:als.all (fun p=>p.i != j)=true:=by exact rfl):a.tmps.getD t undef=x:=h.r j ht hF ha
theorem zgt {s:St}(k:Nat){q:Al}(hq:als[k]?=some q)(ht:q.t=s.tb){ls:List (Tmp×Value)}{sb:List (Nat×Bx)}(hw:Region.waitsFor .any l.toArray s.i q.i=true:=by kernel_rfl):(∃q∈als,q.t=s.tb/\Region.waitsFor .any l.toArray s.i q.i=true)\/(∃p∈sb,p.1=s.i/\(s.tb,Value.pointer (some ⟨p.2.g,0,none⟩))∈ls):= .inl ⟨q,List.mem_of_getElem? hq,ht,hw⟩
theorem frs {n:Nat}{ls:List (Tmp×Value)}{lb:List Bx}{w W0:World}{e:List Num}{a0:Act}{id:Nat}{Q:Exit->Act->World->Prop}(shs:List (TypeId×Nat))(dst:List (Option Tmp))(fs:List (Value->World->Prop))(als:List Al)(sts:List St)(sb:List (Nat×Bx))[KeepsL fs][KeepsSL shs fs][hT:KeepsT shs sts]
  (S0:Frm n ls (lb++sb.map (·.2)) w e a0 W0)
  (hsrc:∀s∈sts,(∃q∈als,q.t=s.tb/\Region.waitsFor .any l.toArray s.i q.i=true)\/(∃p∈sb,p.1=s.i/\(s.tb,Value.pointer (some ⟨p.2.g,0,none⟩))∈ls))
  (hval:Vals als (fun i t F=>∀a V,Frm n ls lb w e a V->W0.heap.size<=V.heap.size->RnS l i dst als fs a V->(∀p∈sb,Region.waitsFor .any l.toArray p.1 i=true->V.heap[p.2.g]?=some (.cells p.2.cs.toArray p.2.t (0,0)))->zcA Tryz.prog l.toArray Q i t F a V) 0 dst fs)
  (hal:∀p∈als,p.cs.all za6=true/\∃o,l.toArray[p.i]?=some o/\o.guard=none/\o.dst=some p.t/\∀a V,Frm n ls lb w e a V->(execOp a.eval o).run Tryz.prog V= .ok (.value (.pointer (some ⟨V.heap.size,0,none⟩))) (V.alloc (.cells p.cs.toArray p.T)))
  (hst:∀s∈sts,∃o k,l.toArray[s.i]?=some o/\o.guard=none/\o.dst=none/\(s.T,k)∈shs/\(∀p∈als,p.t=s.tb->p.T=s.T/\p.cs.length=k)/\(∀p∈sb,p.1=s.i->p.2.t=s.T/\p.2.cs.length=k)/\∀a V g,Frm n ls lb w e a V->a.tmps.getD s.tb undef= .pointer (some ⟨g,0,none⟩)->RnS l s.i dst als fs a V->
   ∃vs,vs.all za6=true/\vs.length=k/\s.P (.agg vs.toArray) V/\((∀j,j<k->(V.cell? ⟨g,j,none⟩).isSome=true/\V.frozen? ⟨g,j,none⟩=false)->(execOp a.eval o).run Tryz.prog V= .ok .skip (V.setCells g 0 vs)))
  (hsbs:∀p∈sb,∃s∈sts,s.i=p.1)
  (hfin:∀a V,Frm n ls lb w e a V->W0.heap.size<=V.heap.size->RfS dst als fs a V->(∀p∈als,zsl p W0.heap.size (sts.all (fun s=>s.tb != p.t)) (a.tmps.getD p.t undef) V)->
   (∀p∈als,∀q∈als,p.i≠q.i->a.tmps.getD p.t undef≠a.tmps.getD q.t undef)->(∀s∈sts,zt4 s W0.heap.size (sb.map (·.2.g)) (a.tmps.getD s.tb undef) V)->(∀p∈sb,sts.all (fun s=>s.i != p.1)=true->V.heap[p.2.g]?=some (.cells p.2.cs.toArray p.2.t (0,0)))->Q .normal a V)
  (hR:zvh dst als sts=true:=by exact rfl) (hm:Tryz.prog.follows .mixedOrders=true:=by kernel_rfl) (hback:zij .any l.toArray l.length=true:=by kernel_rfl) (hdl:dst.length=l.length:=by exact rfl) (hnd:(dst.filterMap id_).Nodup:=by decide) (hds:(dst.filterMap id_).all (· <n)=true:=by exact rfl) (hfr:zkW ls (dst.filterMap id_)=true:=by exact rfl):
  (Code.region id l.toArray true).wp Tryz.prog Q a0 W0:=by
 simp only[zvh,Bool.and_eq_true]at hR
 obtain⟨⟨⟨⟨⟨r1,r2⟩,r3⟩,r4⟩,r5⟩,r6⟩:=hR
 refine zqC shs dst (fct fs) als sts sb S0 hm hback hdl hnd hds hfr (fun p hp=>by simpa using List.all_eq_true.1 r1 p hp) (fun s hs=>by simpa using List.all_eq_true.1 r2 s hs) (fun i hi=>?_) (zdk r4) (fun s hs s' hs' h=>zqD (f:=(·.i)) hs hs' h (zdk r5)) (fun s hs s' hs' h=>zqD (f:=(·.tb)) hs hs' h (zdk r6))
  hsrc zk1 zoG (fun s hs v V V' h hb=>(hT.all s hs).1.keep h hb) (fun s hs g vs v V V' h hb=>(hT.all s hs).2.keep h hb) (fun i t ht hna a V S hb hd hp=>?_) hal hst hfin hsbs
 ·have h1:i<dst.length:=(List.getElem?_eq_some_iff.1 hi).1
  have h2:=List.all_eq_true.1 r3 i (List.mem_range.2 h1)
  rw[hi]at h2
  have h3:sts.any (fun s=>s.i==i)=true:=by simpa using h2
  obtain⟨s,hs,h4⟩:=List.any_eq_true.1 h3
  exact⟨s,hs,by simpa using h4⟩
 ·obtain⟨F,h1,h2⟩:=hval.at ht (by rw[Nat.zero_add];exact hna)
  rw[zeJ h1]
  rw[Nat.zero_add]at h2
  exact h2 a V S hb hd hp
end
section
variable {K K' N M:Nat}{Z Z':Int}{q:Rat}{er:Int}{u:Value}{shs:List (TypeId × Nat)}{lz:List Int}{lq:List Rat}{m:Nat}{W:World}{T:TypeId}{cs:List Value}
instance:Keeps (N1 K N):=⟨fun h hb=>N1.keep h hb⟩
instance:Keeps (NT K N):=⟨fun h hb=>NT.keep h hb⟩
instance:Keeps (Z1 K Z):=⟨fun h hb=>Z1.keep h hb⟩
instance:Keeps (ZT K Z):=⟨fun h hb=>ZT.keep h hb⟩
instance:Keeps (Q1 K q):=⟨fun h hb=>Q1.keep h hb⟩
instance:Keeps (QT K q):=⟨fun h hb=>QT.keep h hb⟩
instance:Keeps (QM K q):=⟨fun h hb=>QM.keep h hb⟩
instance:Keeps (QE K q er):=⟨fun h hb=>QE.keep h hb⟩
instance:Keeps (QA K Z N):=⟨fun h hb=>QA.keep h hb⟩
instance:Keeps (QP K Z N):=⟨fun h hb=>QP.keep h hb⟩
instance:Keeps (QV K q u):=⟨fun h hb=>QV.keep h hb⟩
instance:Keeps (ZS K q):=⟨fun h hb=>ZS.keep h hb⟩
instance:Keeps (ZL K m lz):=⟨fun h hb=>ZL.keep h hb⟩
instance:Keeps (QL K m lq):=⟨fun h hb=>QL.keep h hb⟩
instance:Keeps (RBx W T cs):=⟨fun h hb=>RBx.keep h hb⟩
instance:KeepsS shs (N1 K N):=⟨fun h hb=>N1.keepS h hb⟩
instance:KeepsS shs (NT K N):=⟨fun h hb=>NT.keepS h hb⟩
instance:KeepsS shs (Z1 K Z):=⟨fun h hb=>Z1.keepS h hb⟩
instance:KeepsS shs (ZT K Z):=⟨fun h hb=>ZT.keepS h hb⟩
instance:KeepsS shs (Q1 K q):=⟨fun h hb=>Q1.keepS h hb⟩
instance:KeepsS shs (QT K q):=⟨fun h hb=>QT.keepS h hb⟩
instance:KeepsS shs (QM K q):=⟨fun h hb=>QM.keepS h hb⟩
instance:KeepsS shs (QE K q er):=⟨fun h hb=>QE.keepS h hb⟩
instance:KeepsS shs (QA K Z N):=⟨fun h hb=>QA.keepS h hb⟩
instance:KeepsS shs (QP K Z N):=⟨fun h hb=>QP.keepS h hb⟩
instance:KeepsS shs (ZS K q):=⟨fun h hb=>ZS.keepS h hb⟩
class NoSh (shs:List (TypeId×Nat)) (T:TypeId) (m:Nat):Prop where
 no:(T,m)∉shs
instance {T:TypeId} {m:Nat}:NoSh [] T m:=⟨by simp⟩
instance [h:NoSh shs 25 m]:KeepsS shs (ZL K m lz):=⟨fun h1 hb=>ZL.keepS h1 hb h.no⟩
instance [h:NoSh shs 27 m]:KeepsS shs (QL K m lq):=⟨fun h1 hb=>QL.keepS h1 hb h.no⟩
theorem zvi {shs:List (TypeId×Nat)}{T:TypeId}{m:Nat}(h:shs.all (fun p=>p.1 != T||p.2 != m)=true):(T,m)∉shs:=fun hm=>by
 have:=List.all_eq_true.1 h _ hm
 simp at this
end
abbrev aG (b:Bool)(x y:Num):Value:= .agg #[.bool b,.slice x.A x.n x.c,.slice y.A y.n y.c]
abbrev aL (b:Bool)(x y:Num):List Value:=[.bool b,.slice x.A x.n x.c,.slice y.A y.n y.c]
abbrev aZ (b:Bool)(x:Num):Value:= .agg #[.bool b,.slice x.A x.n x.c]
abbrev aP (b:Bool)(x y:Num)(d:Bool)(z w:Num):Value:= .agg #[.bool b,.slice x.A x.n x.c,.slice y.A y.n y.c,.bool d,.slice z.A z.n z.c,.slice w.A w.n w.c]
abbrev lP (b:Bool)(x y:Num)(d:Bool)(z w:Num):List Value:=[.bool b,.slice x.A x.n x.c,.slice y.A y.n y.c,.bool d,.slice z.A z.n z.c,.slice w.A w.n w.c]
abbrev aT (b:Bool)(x y:Num)(d:Bool)(z w:Num)(b':Bool)(x' y':Num)(d':Bool)(z' w':Num):Value:= .agg #[.bool b,.slice x.A x.n x.c,.slice y.A y.n y.c,.bool d,.slice z.A z.n z.c,.slice w.A w.n w.c,.bool b',.slice x'.A x'.n x'.c,.slice y'.A y'.n y'.c,.bool d',.slice z'.A z'.n z'.c,.slice w'.A w'.n w'.c]
abbrev lT (b:Bool)(x y:Num)(d:Bool)(z w:Num)(b':Bool)(x' y':Num)(d':Bool)(z' w':Num):List Value:=[.bool b,.slice x.A x.n x.c,.slice y.A y.n y.c,.bool d,.slice z.A z.n z.c,.slice w.A w.n w.c,.bool b',.slice x'.A x'.n x'.c,.slice y'.A y'.n y'.c,.bool d',.slice z'.A z'.n z'.c,.slice w'.A w'.n w'.c]
abbrev aM (k:Int)(b:Bool)(x y:Num)(d:Bool)(z w:Num)(b':Bool)(x' y':Num)(d':Bool)(z' w':Num):Value:= .agg #[.int .i8 k,.bool b,.slice x.A x.n x.c,.slice y.A y.n y.c,.bool d,.slice z.A z.n z.c,.slice w.A w.n w.c,.bool b',.slice x'.A x'.n x'.c,.slice y'.A y'.n y'.c,.bool d',.slice z'.A z'.n z'.c,.slice w'.A w'.n w'.c]
abbrev lM (k:Int)(b:Bool)(x y:Num)(d:Bool)(z w:Num)(b':Bool)(x' y':Num)(d':Bool)(z' w':Num):List Value:=[.int .i8 k,.bool b,.slice x.A x.n x.c,.slice y.A y.n y.c,.bool d,.slice z.A z.n z.c,.slice w.A w.n w.c,.bool b',.slice x'.A x'.n x'.c,.slice y'.A y'.n y'.c,.bool d',.slice z'.A z'.n z'.c,.slice w'.A w'.n w'.c]
abbrev aS (x:Num):Value:= .slice x.A x.n x.c
abbrev lZ:List Value:=[.bool false,.slice none 0 0,.slice none 0 0]
abbrev lY:List Value:=[.bool false,.slice none 0 0,.slice none 0 0,.bool false,.slice none 0 0,.slice none 0 0]
abbrev pT (g o:Nat):Value:= .pointer (some ⟨g,o,none⟩)
abbrev iF:Value->World->Prop:=IsV (.bool false)
abbrev iB:Value->World->Prop:=IsV (.bool true)
abbrev iU:Value->World->Prop:=IsV undef
abbrev iI (z:Int):Value->World->Prop:=IsV (.int .i64 z)
abbrev Num.oo (x:Num)(V:World):Prop:=x.ok V V.heap.size
abbrev tG (a:Act)(t:Tmp)(v:Value):Prop:=a.tmps.getD t undef=v
class Snoc (l:List Bx) (f:outParam (Bx->List Bx)):Prop where
 eq:∀b,l++[b]=f b
instance:Snoc [] (fun b=>[b]):=⟨fun _=>rfl⟩
instance {x:Bx} {l:List Bx} {f:Bx->List Bx} [h:Snoc l f]:Snoc (x::l) (fun b=>x::f b):=⟨fun b=>congrArg (x:: ·) (h.eq b)⟩
class LsC (i:Nat) (l:List Value) (ls:outParam (List (Tmp×Value))):Prop where
 eq:(l.zipIdx i).map (fun p=>(p.2,p.1))=ls
instance {i:Nat}:LsC i [] []:=⟨rfl⟩
instance {v:Value} {l:List Value} {ls:List (Tmp×Value)} [h:LsC 1 l ls]:LsC 0 (v::l) ((0,v)::ls):=⟨congrArg ((0,v):: ·) h.eq⟩
instance {v:Value} {l:List Value} {ls:List (Tmp×Value)} [h:LsC 2 l ls]:LsC 1 (v::l) ((1,v)::ls):=⟨congrArg ((1,v):: ·) h.eq⟩
instance {v:Value} {l:List Value} {ls:List (Tmp×Value)} [h:LsC 3 l ls]:LsC 2 (v::l) ((2,v)::ls):=⟨congrArg ((2,v):: ·) h.eq⟩
instance {v:Value} {l:List Value} {ls:List (Tmp×Value)} [h:LsC 4 l ls]:LsC 3 (v::l) ((3,v)::ls):=⟨congrArg ((3,v):: ·) h.eq⟩
instance {v:Value} {l:List Value} {ls:List (Tmp×Value)} [h:LsC 5 l ls]:LsC 4 (v::l) ((4,v)::ls):=⟨congrArg ((4,v):: ·) h.eq⟩
instance {v:Value} {l:List Value} {ls:List (Tmp×Value)} [h:LsC 6 l ls]:LsC 5 (v::l) ((5,v)::ls):=⟨congrArg ((5,v):: ·) h.eq⟩
instance {v:Value} {l:List Value} {ls:List (Tmp×Value)} [h:LsC 7 l ls]:LsC 6 (v::l) ((6,v)::ls):=⟨congrArg ((6,v):: ·) h.eq⟩
section
variable {P:Program}{n:Nat}{ls:List (Tmp × Value)}{lb:List Bx}{w V:World}{e:List Num}{a:Act}{o:Oper}{t t1:Tmp}{v:Value}{ops:Array Oper}{Q:Exit -> Act -> World -> Prop}{rest:List Oper}
theorem tb (S:Frm n ls lb w e a V)(i:Nat)(cs:List Value){T:TypeId}{f:Bx->List Bx}[hs:Snoc lb f](k:∀g a V',V.heap.size=g->Frm n ((t,.pointer (some ⟨g,0,none⟩))::ls) (f ⟨g,T,cs⟩) w e a V'->wpList P ops Q rest a V')
  (ho:o.op= .box T (.tmp t1):=by exact rfl) (hi:ls[i]?=some (t1,v):=by exact rfl) (hc:v.cells=cs.toArray:=by exact rfl) (hn:cs.all za6=true:=by exact rfl) (hg:o.guard=none:=by exact rfl) (hd:o.dst=some t:=by exact rfl) (ht:t<n:=by decide) (hl:zgr t ls=true:=by exact rfl):wpList P ops Q (o::rest) a V:=
 ti S (zt2 ho (S.at i hi) hc) (fun g=>f ⟨g,T,cs⟩) k hn hg hd ht hl (fun _=>hs.eq _)
theorem mv (S:Frm n ls lb w e a V)(i:Nat)(k:∀a,Frm n ((t,v)::ls) lb w e a V->wpList P ops Q rest a V)(ho:o.op= .move (.tmp t1):=by exact rfl)(hi:ls[i]?=some (t1,v):=by exact rfl)(hg:o.guard=none:=by exact rfl)(hd:o.dst=some t:=by exact rfl)(ht:t<n:=by decide)(hl:zgr t ls=true:=by exact rfl):wpList P ops Q (o::rest) a V:=tv S (zao ho (S.at i hi)) k hg hd ht hl
theorem ac (S:Frm n ls lb w e a V)(k:∀a,Frm n ((t,v)::ls) lb w e a V->wpList P ops Q rest a V)(ho:o.op= .assign (.const v):=by exact rfl)(hg:o.guard=none:=by exact rfl)(hd:o.dst=some t:=by exact rfl)(ht:t<n:=by decide)(hl:zgr t ls=true:=by exact rfl):wpList P ops Q (o::rest) a V:=tv S (zcB ho) k hg hd ht hl
theorem gtr {f:FuncId}{us:Array Value}{b c:Bool}(h:Calls P f us V (zaf V fun v _=>v= .bool b))(e:b=c):Calls P f us V (zaf V fun v _=>v= .bool c):=e▸h
theorem av (S:Frm n ls lb w e a V)(hr:(execOp a.eval o).run P V= .ok (.value v) V)(k:∀a,Frm n ((t,v)::zfd t ls) lb w e a V->wpList P ops Q rest a V)(hg:o.guard=none:=by exact rfl)(hd:o.dst=some t:=by exact rfl)(ht:t<n:=by decide):wpList P ops Q (o::rest) a V:=zqx S hr hg hd ht rfl k
theorem sto (S:Frm n ls lb w e a V)(i:Nat){g off:Nat}{T:TypeId}{cs vs:List Value}(hr:(∀j,j<cs.length->(V.cell? ⟨g,j,none⟩).isSome=true/\V.frozen? ⟨g,j,none⟩=false)->(execOp a.eval o).run P V= .ok .skip (V.setCells g off vs))
  (k:∀V',Frm n ls (lb.set i ⟨g,T,zcy cs off vs⟩) w e a V'->wpList P ops Q rest a V') (hi:lb[i]?=some ⟨g,T,cs⟩:=by exact rfl) (hlen:off+vs.length<=cs.length:=by exact zvZ rfl) (hn:vs.all za6=true:=by exact rfl) (hg:o.guard=none:=by exact rfl) (hd:o.dst=none:=by exact rfl):wpList P ops Q (o::rest) a V:=
 zkV S hi hr hlen hn hg hd rfl k
theorem p4 {x y z u:Num}{Q:Prop}(S:Frm n ls lb w e a V)(i:Nat)(h:x.ok V V.heap.size->y.ok V V.heap.size->z.ok V V.heap.size->u.ok V V.heap.size->Q)(hi:(e.drop i).take 4=[x,y,z,u]:=by exact rfl):Q:=by
 have h4:∀z'∈[x,y,z,u],z'.ok V V.heap.size:=fun z' hz=>S.env.2 z' (List.mem_of_mem_drop (List.mem_of_mem_take (hi▸hz)))
 exact h (h4 _ (by simp)) (h4 _ (by simp)) (h4 _ (by simp)) (h4 _ (by simp))
theorem q2m {b:Bool}{x y:Num}{q:Rat}{K:Nat}(S:Frm n ls lb w e a V)(i:Nat)(h:qOf b x.N y.N=q)(h1:x.n<=K)(h2:y.n<=K)(hi:(e.drop i).take 2=[x,y]:=by exact rfl):Q1 K q (aG b x y) V:=by
 have h4:∀z'∈[x,y],z'.ok V V.heap.size:=fun z' hz=>S.env.2 z' (List.mem_of_mem_drop (List.mem_of_mem_take (hi▸hz)))
 exact⟨b,x,y,rfl,h,h1,h2,h4 _ (by simp),h4 _ (by simp)⟩
theorem n1m {x:Num}{N K:Nat}(S:Frm n ls lb w e a V)(i:Nat)(h:x.N=N)(h1:x.n<=K)(hi:e[i]?=some x:=by exact rfl):N1 K N (aS x) V:=⟨x,rfl,h,h1,S.num i hi⟩
theorem n1r {x:Num}{K:Nat}(S:Frm n ls lb w e a V)(i:Nat)(h1:x.n<=K)(hi:e[i]?=some x:=by exact rfl):N1 K x.N (aS x) V:=⟨x,rfl,rfl,h1,S.num i hi⟩
theorem wsp {id:Nat}{l:List Oper}{d:Code}(h:∀K:Act->World->Prop,(∀a w,d.wp P Q a w->K a w)->wpList P l.toArray (Exit.then K Q) l a V):((Code.region id l.toArray false).seq d).wp P Q a V:=wp_seq_k fun K hK=>zaD (h K hK)
theorem fb {l:List Value}{f:FuncId}{fn:Func}{c:Code}{R:Ending->World->Prop}[hl:LsC 0 l ls](hf:P.funcs[f]?=some fn)(hn:fn.ntmps=n)(he:∀z∈e,z.ok V V.heap.size)(k:∀a,Frm n ls [] V e a V->c.wp P (bodyPost P fn R) a V)(hb:fn.body=some c:=by exact rfl)(hsz:l.toArray.size<=n:=by exact zvZ rfl):Calls P f l.toArray V R:=zqA hf hb hn hsz ls hl.eq he k
end
end Go.Proofs.YtipckjmgdghkiaaGreatDoor
