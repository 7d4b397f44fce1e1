/- A part. -/
import Derived.StillTail
import Derived.Test.YtipckjmgdghkiaaGreatDoorGGen
namespace Go.Proofs.YtipckjmgdghkiaaGreatDoor
open Go Go.RowKit
section
variable {P:Program}{ops:Array Oper}{md:Region.Mode}{Q:Exit -> Act -> World -> Prop}
def unl (listed:Array Bool):Nat->Nat
 |0=>0
 |n+1=>unl listed n+(if listed.getD n true=true then 0 else 1)
theorem zfB {listed:Array Bool}{i:Nat}(h:listed.getD i true=false):∀n,unl (listed.setIfInBounds i true) n+(if i<n then 1 else 0)=unl listed n
 |0=>by simp[unl]
 |n+1=>by
  have ih:=zfB h n
  have hlt:i<listed.size:=by
   rcases zv6 i listed.size with h'|h'
   ·exact h'
   ·simp[h']at h
  by_cases e:i=n
  ·subst e
   have h1:(listed.setIfInBounds i true).getD i true=true:=by simp[hlt]
   simp only[unl,h1,h,if_true,Nat.lt_irrefl,if_false,Nat.add_zero,Nat.lt_succ_self]at ih ⊢
   simp[ih]
  ·have h1:(listed.setIfInBounds i true).getD n true=listed.getD n true:=getD_set_ne true e
   simp only[unl,h1]
   by_cases h2:i<n
   ·simp only[h2,if_true,show i<n+1 by omega]at ih ⊢
    omega
   ·simp only[h2,if_false,show¬i<n+1 by omega]at ih ⊢
    omega
theorem zcZ {listed:Array Bool}:∀ {n:Nat},unl listed n=0->∀i,i<n->listed.getD i true=true
 |0,_,i,hi=>by omega
 |n+1,h,i,hi=>by
  simp only[unl]at h
  by_cases e:i=n
  ·subst e
   by_cases h2:listed.getD i true=true
   ·exact h2
   ·simp[h2]at h
  ·exact zcZ (n:=n) (by omega) i (by omega)
theorem zdS {listed:Array Bool}:∀ {n:Nat},unl listed n≠0->∃i,i<n/\listed.getD i true=false/\∀j,j<i->listed.getD j true=true
 |0,h=>absurd rfl h
 |n+1,h=>by
  by_cases h0:unl listed n=0
  ·refine⟨n,by omega,?_,fun j hj=>zcZ h0 j hj⟩
   simp only[unl,h0,Nat.zero_add]at h
   by_cases h2:listed.getD n true=true
   ·simp[h2]at h
   ·simpa using h2
  ·obtain⟨i,h1,h2,h3⟩:=zdS h0
   exact⟨i,by omega,h2,h3⟩
def zet (size n:Nat):Array Bool:=(Array.range size).map fun i=>decide (i<n)
def zij (md:Region.Mode)(ops:Array Oper)(n:Nat):Bool:=
 (List.range n).all fun i=>match ops[i]? with
  |some o=>o.after.all fun e=> !Region.binds md e||decide (e.on<i)
  |none=>false
def zc8 (md:Region.Mode)(ops:Array Oper)(n:Nat):Bool:=
 decide (n<=ops.size)&&(decide (n=ops.size)||(Region.sinkB md ops n&&Region.chainB md ops n))&&zij md ops n&&Region.seqB md ops (ops.size - n) n (zet ops.size n)
theorem zmB {n:Nat}{listed:Array Bool}(inv:HeadInv md ops n listed)(h0:unl listed n=0):listed=zet ops.size n:=by
 apply Array.ext
 ·simp[zet,inv.size]
 ·intro i h1 h2
  have hi:i<ops.size:=by rw[<-inv.size];exact h1
  have e:(zet ops.size n)[i]=decide (i<n):=by simp[zet]
  rw[e]
  by_cases hin:i<n
  ·have:=zcZ h0 i hin
   simp[h1]at this
   simp[this,hin]
  ·have:=inv.tail i (by omega) hi
   simp[h1]at this
   simp[this,hin]
structure FrameOf (dst:List Tmp) (a0 a:Act):Prop where
 size:a.tmps.size=a0.tmps.size
 defers:a.defers=a0.defers
 same:∀t,t∉dst->a.tmps.getD t undef=a0.tmps.getD t undef
theorem zdT (a:Act)(t:Tmp)(v:Value):(a.put (some t) v).tmps.size=a.tmps.size:=by simp[Act.put]
theorem zdU (a:Act)(t:Tmp)(v:Value)(h:t<a.tmps.size):(a.put (some t) v).tmps.getD t undef=v:=by simp[Act.put,h]
theorem zb2 (a:Act){t t':Tmp}(v:Value)(h:t≠t'):(a.put (some t) v).tmps.getD t' undef=a.tmps.getD t' undef:=by
 simp[Act.put,h]
theorem zjY {n:Nat}{dst:List Tmp}{fact:Nat->Value->World->Prop}{fresh:Nat->World->Value->Prop}{rel:Nat->Nat->Value->Value->Prop}{C:World->Prop}{a0:Act}(hB:zc8 md ops n=true)(hdl:dst.length=n)(hnd:dst.Nodup)(hds:∀t∈dst,t<a0.tmps.size)
  (hmono:∀i v w w',fact i v w->Below w.heap.size w w'->C w'->fact i v w')
  (hrel:∀i j v v' w,fresh i w v->fact j v' w->rel i j v v')
  (hstep:∀i t,dst[i]?=some t->∀a w,C w->FrameOf dst a0 a->(∀j t',dst[j]?=some t'->Region.waitsFor md ops i j=true->fact j (a.tmps.getD t' undef) w)->
   wpOp P ops Q i (fun a' w'=>∃v,a'=a.put (some t) v/\(fact i v w'/\fresh i w v)/\Below w.heap.size w w'/\C w') a w)
  (hfin:∀a w,C w->FrameOf dst a0 a->(∀j t',dst[j]?=some t'->fact j (a.tmps.getD t' undef) w)->(∀i j t t',dst[i]?=some t->dst[j]?=some t'->i≠j->rel i j (a.tmps.getD t undef) (a.tmps.getD t' undef)\/rel j i (a.tmps.getD t' undef) (a.tmps.getD t undef))->wpList P ops Q (ops.toList.drop n) a w):
  ∀(f:Nat) (listed:Array Bool) (a:Act) (w:World),HeadInv md ops n listed->unl listed n=f->C w->FrameOf dst a0 a->(∀j t',dst[j]?=some t'->listed.getD j false=true->fact j (a.tmps.getD t' undef) w)->(∀i j t t',dst[i]?=some t->dst[j]?=some t'->i≠j->listed.getD i false=true->listed.getD j false=true->rel i j (a.tmps.getD t undef) (a.tmps.getD t' undef)\/rel j i (a.tmps.getD t' undef) (a.tmps.getD t undef))->
   wpAny P md ops Q (f+(ops.size - n)) listed a w:=by
 simp only[zc8,Bool.and_eq_true,decide_eq_true_eq,Bool.or_eq_true]at hB
 obtain⟨⟨⟨hn,hsc⟩,hback⟩,hseq⟩:=hB
 intro f
 induction f with
 |zero=>
  intro listed a w inv hf hC hF hfact hR
  have hfull:=zmB inv hf
  rw[Nat.zero_add,show ops.size - n=(ops.toList.drop n).length by simp]
  have hall:∀j t',dst[j]?=some t'->listed.getD j false=true:=fun j t' hj=>by
   have hjn:j<n:=by rw[<-hdl];exact(List.getElem?_eq_some_iff.1 hj).1
   have:=zcZ hf j hjn
   have hjs:j<listed.size:=by rw[inv.size];omega
   simpa[hjs]using this
  refine wpAny_of_seq (ops.toList.drop n) n listed a w (fun j=>by simp[List.getElem?_drop]) ?_ (hfin a w hC hF (fun j t' hj=>hfact j t' hj (hall j t' hj)) (fun i j t t' hi hj hne=>hR i j t t' hi hj hne (hall i t hi) (hall j t' hj)))
  ·rw[hfull];simpa using hseq
 |succ f ih=>
  intro listed a w inv hf hC hF hfact hR
  rw[show f+1+(ops.size - n)=(f+(ops.size - n))+1 by omega]
  obtain⟨m,hmn,hmun,hmall⟩:=zdS (listed:=listed) (n:=n) (by omega)
  have hmr:m∈Region.ready md ops listed:=by
   have hms:m<ops.size:=by omega
   refine mem_ready.2 ⟨hmun,ops[m],by simp[hms],fun e he hb=>?_⟩
   have h1:=List.all_eq_true.1 hback m (List.mem_range.2 hmn)
   simp only[hms,Array.getElem?_eq_getElem]at h1
   have h2:=Array.all_eq_true_iff_forall_mem.1 h1 e he
   simp only[hb,Bool.not_true,Bool.false_or,decide_eq_true_eq]at h2
   have h3:=hmall e.on h2
   have hes:e.on<listed.size:=by rw[inv.size];omega
   simpa[hes]using h3
  refine⟨fun h0=>(by rw[h0]at hmr;cases hmr),fun i hi=>?_⟩
  have hin:i<n:=by
   rcases zv6 i n with h|h
   ·exact h
   ·rcases hsc with h1|⟨h1,h2⟩
    ·obtain⟨_,o,ho,_⟩:=mem_ready.1 hi
     have:=(Array.getElem?_eq_some_iff.1 ho).1
     omega
    ·exact absurd hi (tail_waits h1 h2 (by obtain⟨_,o,ho,_⟩:=mem_ready.1 hi;have:=(Array.getElem?_eq_some_iff.1 ho).1;omega) inv _ m rfl hmn hmun i h)
  obtain⟨hiun,oi,hoi,hall⟩:=mem_ready.1 hi
  obtain⟨t,ht⟩:∃t,dst[i]?=some t:=⟨_,List.getElem?_eq_getElem (by omega)⟩
  have htm:t∈dst:=List.mem_of_getElem? ht
  refine wpOp_mono ?_ (hstep i t ht a w hC hF fun j t' hj hw=>hfact j t' hj ?_)
  ·rintro a' w' ⟨v,rfl,⟨hv,hfr⟩,hle,hC'⟩
   have hput:(a.put (some t) v).tmps.getD t undef=v:=zdU _ _ _ (by rw[hF.size];exact hds t htm)
   have hoth:∀j t',dst[j]?=some t'->j≠i->(a.put (some t) v).tmps.getD t' undef=a.tmps.getD t' undef:=fun j t' hj e=>zb2 _ _ (fun e'=>by
    subst e'
    exact e ((List.getElem?_inj (List.getElem?_eq_some_iff.1 hj).1 hnd).1 (hj.trans ht.symm)))
   refine ih _ _ _ (inv.set hi hin) ?_ hC' ⟨by rw[zdT];exact hF.size,hF.defers,fun t' ht'=>by rw[zb2 _ _ (fun e=>by subst e;exact ht' htm)];exact hF.same t' ht'⟩ (fun j t' hj hl=>?_) (fun k j tk t' hk hj hne hlk hlj=>?_)
   ·have:=zfB hiun n
    rw[if_pos hin]at this
    omega
   ·by_cases e:j=i
    ·subst e
     rw[ht]at hj
     cases hj
     rw[hput]
     exact hv
    ·rw[hoth j t' hj e]
     rw[getD_set_ne false (Ne.symm e)]at hl
     exact hmono j _ w w' (hfact j t' hj hl) hle hC'
   ·by_cases e:k=i
    ·subst e
     rw[ht]at hk
     cases hk
     rw[getD_set_ne false hne]at hlj
     rw[hput,hoth j t' hj (Ne.symm hne)]
     exact .inl (hrel _ _ _ _ w hfr (hfact j t' hj hlj))
    ·rw[getD_set_ne false (Ne.symm e)]at hlk
     by_cases e2:j=i
     ·subst e2
      rw[ht]at hj
      cases hj
      rw[hput,hoth k tk hk e]
      exact .inr (hrel _ _ _ _ w hfr (hfact k tk hk hlk))
     ·rw[getD_set_ne false (Ne.symm e2)]at hlj
      rw[hoth k tk hk e,hoth j t' hj e2]
      exact hR k j tk t' hk hj hne hlk hlj
  ·obtain⟨oj,hoj,e,he,hb,hon⟩:=Region.waitsFor_spec hw
   have:oj=oi:=Option.some.inj (hoj.symm.trans hoi)
   subst this
   rw[<-hon]
   exact hall e he hb
theorem zdb {id:Nat}{l:List Oper}{w0:World}{a0:Act}(n:Nat)(dst:List Tmp)(fact:Nat->Value->World->Prop)(fresh:Nat->World->Value->Prop)(rel:Nat->Nat->Value->Value->Prop)(C:World->Prop)(hm:P.follows .mixedOrders=true)(hB:zc8 .any l.toArray n=true)(hdl:dst.length=n)(hnd:dst.Nodup)(hds:∀t∈dst,t<a0.tmps.size)(hC:C w0.drew)
  (hmono:∀i v w w',fact i v w->Below w.heap.size w w'->C w'->fact i v w')
  (hrel:∀i j v v' w,fresh i w v->fact j v' w->rel i j v v')
  (hstep:∀i t,dst[i]?=some t->∀a w,C w->FrameOf dst a0 a->(∀j t',dst[j]?=some t'->Region.waitsFor .any l.toArray i j=true->fact j (a.tmps.getD t' undef) w)->
   wpOp P l.toArray Q i (fun a' w'=>∃v,a'=a.put (some t) v/\(fact i v w'/\fresh i w v)/\Below w.heap.size w w'/\C w') a w)
  (hfin:∀a w,C w->FrameOf dst a0 a->(∀j t',dst[j]?=some t'->fact j (a.tmps.getD t' undef) w)->(∀i j t t',dst[i]?=some t->dst[j]?=some t'->i≠j->rel i j (a.tmps.getD t undef) (a.tmps.getD t' undef)\/rel j i (a.tmps.getD t' undef) (a.tmps.getD t undef))->wpList P l.toArray Q (l.drop n) a w):
  (Code.region id l.toArray true).wp P Q a0 w0:=by
 refine wp_region_any hm ?_
 have hn:n<=l.toArray.size:=by simp only[zc8,Bool.and_eq_true,decide_eq_true_eq]at hB;exact hB.1.1.1
 have hu:∀k,k<=l.toArray.size->unl (Array.replicate l.toArray.size false) k=k:=by
  intro k
  induction k with
  |zero=>intro _;rfl
  |succ k ih=>
   intro hk
   simp only[unl,ih (by omega)]
   rw[getD_in (by simp at hk ⊢;omega) (getD_replicate_false _ _)]
   simp
 have H:=zjY (P:=P) (Q:=Q) (C:=C) (fact:=fact) (a0:=a0) hB hdl hnd hds hmono hrel hstep (fun a w h1 h2 h3 h4=>by simpa using hfin a w h1 h2 h3 h4) n (Array.replicate l.toArray.size false) a0 w0.drew
  ⟨by simp,fun j oj _ hl=>(by rw[getD_replicate_false]at hl;cases hl),fun t _ ht=>getD_in (by simpa using ht) (getD_replicate_false _ _)⟩ (hu n hn) hC ⟨rfl,rfl,fun _ _=>rfl⟩ (fun j t' _ hl=>(by rw[getD_replicate_false]at hl;cases hl)) (fun i j t t' _ _ _ hl=>(by rw[getD_replicate_false]at hl;cases hl))
 rwa [show n+(l.toArray.size - n)=l.toArray.size by omega]at H
theorem zbn {id:Nat}{l:List Oper}{w0:World}{a0:Act}(n:Nat)(dst:List Tmp)(fact:Nat->Value->World->Prop)(C:World->Prop)(hm:P.follows .mixedOrders=true)(hB:zc8 .any l.toArray n=true)(hdl:dst.length=n)(hnd:dst.Nodup)(hds:∀t∈dst,t<a0.tmps.size)(hC:C w0.drew)
  (hmono:∀i v w w',fact i v w->Below w.heap.size w w'->C w'->fact i v w')
  (hstep:∀i t,dst[i]?=some t->∀a w,C w->FrameOf dst a0 a->(∀j t',dst[j]?=some t'->Region.waitsFor .any l.toArray i j=true->fact j (a.tmps.getD t' undef) w)->
   wpOp P l.toArray Q i (fun a' w'=>∃v,a'=a.put (some t) v/\fact i v w'/\Below w.heap.size w w'/\C w') a w)
  (hfin:∀a w,C w->FrameOf dst a0 a->(∀j t',dst[j]?=some t'->fact j (a.tmps.getD t' undef) w)->wpList P l.toArray Q (l.drop n) a w):
  (Code.region id l.toArray true).wp P Q a0 w0:=
 zdb n dst fact (fun _ _ _=>True) (fun _ _ _ _=>True) C hm hB hdl hnd hds hC hmono (fun _ _ _ _ _ _ _=>trivial)
  (fun i t ht a w h1 h2 h3=>wpOp_mono (fun _ _ ⟨v,e1,e2,e3,e4⟩=>⟨v,e1,⟨e2,trivial⟩,e3,e4⟩) (hstep i t ht a w h1 h2 h3)) (fun a w h1 h2 h3 _=>hfin a w h1 h2 h3)
end
section
variable {P:Program}{ops:Array Oper}{Q:Exit -> Act -> World -> Prop}{C:World -> Prop}{a:Act}{w:World}{i:Nat}{t:Tmp}{o:Oper}{F:Value -> World -> Prop}
theorem zal {v:Value}(ho:ops[i]?=some o)(hd:o.dst=some t)(hw:Region.wanted o (yielded ops a.tmps)=true)(hr:(execOp a.eval o).run P w= .ok (.value v) w)(hC:C w)(hF:F v w):
  wpOp P ops Q i (fun a' w'=>∃v,a'=a.put (some t) v/\F v w'/\Below w.heap.size w w'/\C w') a w:=by
 unfold wpOp
 simp only[ho,hw,if_true,Oper.wp,hr,Oper.upon,hd]
 exact .inl ⟨v,rfl,hF,Below.refl _ _,hC⟩
theorem zeR {v:Value}{w':World}(ho:ops[i]?=some o)(hd:o.dst=some t)(hw:Region.wanted o (yielded ops a.tmps)=true)(hr:(execOp a.eval o).run P w= .ok (.value v) w')(hb:Below w.heap.size w w')(hC:C w')(hF:F v w'):
  wpOp P ops Q i (fun a' w'=>∃v,a'=a.put (some t) v/\F v w'/\Below w.heap.size w w'/\C w') a w:=by
 unfold wpOp
 simp only[ho,hw,if_true,Oper.wp,hr,Oper.upon,hd]
 exact .inl ⟨v,rfl,hF,hb,hC⟩
theorem za8 {f:FuncId}{args:Array Value}(ho:ops[i]?=some o)(hd:o.dst=some t)(hw:Region.wanted o (yielded ops a.tmps)=true)(hr:(execOp a.eval o).run P w= .ok (.enter f args) w)
  (hc:Calls P f args w fun e w'=>∃v,e= .returned v/\F v w'/\Below w.heap.size w w'/\C w'):
  wpOp P ops Q i (fun a' w'=>∃v,a'=a.put (some t) v/\F v w'/\Below w.heap.size w w'/\C w') a w:=by
 unfold wpOp
 simp only[ho,hw,if_true,Oper.wp,hr,Oper.upon,hd]
 refine .inl (hc.mono ?_)
 rintro e w' ⟨v,rfl,h1,h2,h3⟩
 exact⟨v,rfl,h1,h2,h3⟩
theorem znu (ho:ops[i]?=some o)(hd:o.dst=some t)(hw:Region.wanted o (yielded ops a.tmps)=false)(hC:C w)(hF:F undef w):
  wpOp P ops Q i (fun a' w'=>∃v,a'=a.put (some t) v/\F v w'/\Below w.heap.size w w'/\C w') a w:=by
 unfold wpOp
 simp only[ho,hw,hd]
 exact⟨undef,rfl,hF,Below.refl _ _,hC⟩
theorem zae (a:Act)(t:Tmp):a.tmps.getD t undef=a.tmps[t]?.getD undef:=by simp
theorem FrameOf.at_ {dst:List Tmp}{a0:Act}(h:FrameOf dst a0 a)(t:Tmp)(ht:t∉dst):a.tmps[t]?.getD undef=a0.tmps[t]?.getD undef:=by rw[<-zae,<-zae];exact h.same t ht
theorem zac {y:Nat->Option Bool}(h:o.guard=none):Region.wanted o y=true:=by unfold Region.wanted;rw[h]
theorem zdm {j:Nat}{oj:Oper}{tj:Tmp}{b c:Bool}(h:o.guard=some (j,b))(hj:ops[j]?=some oj)(hd:oj.dst=some tj)(hv:a.tmps.getD tj undef= .bool c):Region.wanted o (yielded ops a.tmps)=(c==b):=by
 have h2:a.tmps[tj]?=some (.bool c):=by
  cases e:a.tmps[tj]? with
  |none=>simp[e]at hv;cases hv
  |some v=>simp[e]at hv;rw[hv]
 unfold Region.wanted yielded
 simp only[h,hj,hd,Option.bind_some,h2]
 cases b <;> cases c <;> rfl
end
section
variable {F:Fence}{n:Nat}{P:Program}
theorem zeu {σ α:Type}{g:Operand}{ps:Array Tmp}{assign body:Code}{Q:Exit->Act->World->Prop}{a:Act}{w:World}
  (hro:F.round=none) (h1:1<=n) {gf:Nat} {lb:Array Value} (hg:a.eval g= .func (.func gf) #[] lb) (hFg:F.fn gf) (eg:∀args w,(callFunc gf args).run P w= .ok (.enter gf args) w)
  {encs:α->Array Value} (hps:∀x,(encs x).size=ps.size) {ok:σ->α->Prop} {nx:σ->α->σ} {s0:σ} {S Sp:σ->Prop}
  (I:σ->World->Prop) (Ix:Code->σ->World->Prop) (hI:OwnFrom w.heap.size I) (hIx:∀c,OwnFrom w.heap.size (Ix c)) (h0:I s0 w)
  (hseq:zfH F (n - 1) P gf lb encs ok nx s0 S Sp I) (PA:σ->α->Act->World->Prop) (hPA:∀s x a,OwnFrom (β:=Unit) w.heap.size (fun _ W=>PA s x a W))
  (hassign:∀(l:Nat) (s:σ) (x:α) (W:World),I s W->ok s x->
   assign.wpIn (F.inRound l) (n - 1 - 1) P (Exit.then (fun a1 W1=>W.grownBy W1 none/\PA s x a1 W1) (fun _ _ _=>False)) { tmps:=(ps.zip (encs x)).foldl (fun t (p,v)=>t.setIfInBounds p v) a.tmps,defers:=[] } W)
  (hbody:∀(l:Nat) (s:σ) (x:α) (a1:Act) (W:World),PA s x a1 W->ok s x->body.wpIn (F.inRound l) (n - 1 - 1) P (zi8 w.heap.size I Ix (nx s x) W) a1 W)
  (hdone:∀(D:Nat) (s:σ) (W:World),w.heap.size<=D->S s->I s W->W.heap[D]?=some (.deferred (some []))->Q .normal { a with defers:= { target:= .collected D,args:= #[] }::a.defers } W)
  (hstop:∀(D:Nat) (c:Code) (s:σ) (W:World),w.heap.size<=D->Sp s->Ix c s W->W.heap[D]?=some (.deferred (some []))->c.wpIn F n P Q { a with defers:= { target:= .collected D,args:= #[] }::a.defers } W):
  (Code.rangeFunc g ps assign body).wpIn F n P Q a w:=by
 refine wpIn_rangeFunc ?_
 intro fn hfn
 rw[hro]
 obtain⟨rec,hrec⟩:∃rec:LoopState->Option Code->Loop,rec=fun st pe=> { state:=st,pending:=pe,fn,tmps:=a.tmps,params:=ps,assign,body,defers:=w.heap.size }:=⟨_,rfl⟩
 obtain⟨W1,hW1⟩:∃W1,(w.alloc (.deferred (some []))).alloc (.loop (rec .ready none))=W1:=⟨_,rfl⟩
 have hL1:W1.heap[w.heap.size+1]?=some (.loop (rec .ready none)):=by
  rw[<-hW1];have:=World.alloc_heap_new (w.alloc (.deferred (some []))) (.loop (rec .ready none));rwa [World.size_alloc]at this
 have hK1:W1.heap[w.heap.size]?=some (.deferred (some [])):=by
  rw[<-hW1];exact(Below.heap_alloc _ _ _ (by simp)).trans (World.alloc_heap_new w _)
 have hI1:I s0 W1:=by rw[<-hW1];exact hI.alloc _ (hI.alloc _ h0)
 have keep:∀ {A B:World} {k:Nat} {o:Obj},A.grownBy B none->A.heap[k]?=some o->B.heap[k]?=some o:=fun hg hk=>
  (hg.block _ (Array.getElem?_eq_some_iff.1 hk).1 (by simp)).trans hk
 refine⟨w.heap.size+1,[{ target:= .collected w.heap.size,args:= #[] }],W1,{ target:= .fn (.func gf) lb,args:= #[.func (.yield (w.heap.size+1)) #[] #[]] },W1,gf,
  #[.func (.yield (w.heap.size+1)) #[] #[]]++lb,W1,?_,?_,?_,?_,fun _=>h1,?_⟩
 ·rw[<-hW1,hrec];exact run_enterLoop_outer _ _ _ _ _
 ·simp only[resolve,hg]
  simp[go_sem]
 ·intro f' hf';simp[Target.leads]at hf';subst hf';exact hFg
 ·simp[invoke,go_sem,eg]
 ·refine(hseq (w.heap.size+1)
   (fun s W=>I s W/\W.heap[w.heap.size+1]?=some (.loop (rec .ready none))/\W.heap[w.heap.size]?=some (.deferred (some [])))
   (fun s W=>∃c,Ix c s W/\W.heap[w.heap.size+1]?=some (.loop (rec .done (some c)))/\W.heap[w.heap.size]?=some (.deferred (some [])))
   W1 (fun _ _ h=>h.1)
   (fun s A B h hg'=>⟨hI s A B none h.1 hg' (fun r e=>by cases e),keep hg' h.2.1,keep hg' h.2.2⟩)
   (fun s A B h hg'=>by obtain⟨c,hc,hl,hk⟩:=h;exact⟨c,hIx c s A B none hc hg' (fun r e=>by cases e),keep hg' hl,keep hg' hk⟩)
   ?_ ⟨hI1,hL1,hK1⟩).mono ?_
  ·rintro s x V ⟨hi,hl,hk⟩ hok
   have hy:=run_yield (P:=P) (args:=encs x) hl (by rw[hrec];exact hps x)
   rw[hrec]at hy
   refine⟨fn,_,assign,body,hy,roundIn_of_wpIn hfn (wpIn_mono (hassign _ s x V hi hok) ?_)⟩
   rintro e1 a1 W hp1
   cases e1 with
   |ret=>exact hp1.elim
   |exit id=>exact hp1.elim
   |goto t=>exact hp1.elim
   |panic ch=>exact hp1.elim
   |outgrown=>exact hp1.elim
   |normal=>
   obtain⟨hg1,hPa⟩:=hp1
   replace hl:=keep hg1 hl
   replace hk:=keep hg1 hk
   have hlt:w.heap.size+1<W.heap.size:=(Array.getElem?_eq_some_iff.1 hl).1
   refine⟨_,run_beginRound hl (by rw[hrec]),?_⟩
   have hl2:(W.putObj (w.heap.size+1) (.loop { rec .ready none with state:= .busy })).heap[w.heap.size+1]?=some (.loop { rec .ready none with state:= .busy }):=World.putObj_heap_same hlt
   have hk2:(W.putObj (w.heap.size+1) (.loop { rec .ready none with state:= .busy })).heap[w.heap.size]?=some (.deferred (some [])):=(World.putObj_heap_other (by omega)).trans hk
   refine wpIn_mono (hbody _ s x a1 _ ((hPA s x a1).putObj (s:=()) _ hPa (by omega) hl rfl) hok) ?_
   have fin:∀(jump:Option Code) (W3:World),KeepsFrom w.heap.size (W.putObj (w.heap.size+1) (.loop { rec .ready none with state:= .busy })) W3->
     (Instr.endRound (w.heap.size+1) jump).run P W3= .ok (.bool jump.isNone) (W3.putObj (w.heap.size+1) (.loop (rec (if jump.isNone then .ready else .done) jump)))/\
     W3.heap[w.heap.size+1]?=some (.loop { rec .ready none with state:= .busy })/\
     (W3.putObj (w.heap.size+1) (.loop (rec (if jump.isNone then .ready else .done) jump))).heap[w.heap.size+1]?=some (.loop (rec (if jump.isNone then .ready else .done) jump))/\
     (W3.putObj (w.heap.size+1) (.loop (rec (if jump.isNone then .ready else .done) jump))).heap[w.heap.size]?=some (.deferred (some [])):=fun jump W3 hk3=>by
    have hl3:=hk3.same _ _ (by omega) hl2 rfl
    have:=run_endRound (P:=P) jump hl3
    rw[hrec]at this ⊢
    exact⟨this,by rw[hrec]at hl3;exact hl3,World.putObj_heap_same (Array.getElem?_eq_some_iff.1 hl3).1,(World.putObj_heap_other (by omega)).trans (hk3.same _ _ zv0 hk2 rfl)⟩
   have stop:∀(c:Code) (W3:World),KeepsFrom w.heap.size (W.putObj (w.heap.size+1) (.loop { rec .ready none with state:= .busy })) W3->Ix c (nx s x) W3->
     ∃v W4,(Instr.endRound (w.heap.size+1) (some c)).run P W3= .ok v W4/\∃b:Bool,Ending.returned v= .returned (.bool b)/\(b=true->I (nx s x) W4/\W4.heap[w.heap.size+1]?=some (.loop (rec .ready none))/\W4.heap[w.heap.size]?=some (.deferred (some [])))/\
      (b=false->∃c,Ix c (nx s x) W4/\W4.heap[w.heap.size+1]?=some (.loop (rec .done (some c)))/\W4.heap[w.heap.size]?=some (.deferred (some []))):=fun c W3 hk3 hi3=>by
    obtain⟨hr,hl3,hl4,hk4⟩:=fin (some c) W3 hk3
    exact⟨_,_,hr,false,rfl,(fun h=>by cases h),fun _=>⟨c,(hIx c).putObj _ hi3 (by omega) hl3 rfl,hl4,hk4⟩⟩
   rintro e a3 W3 hp
   cases e with
   |normal=>
    obtain⟨hr,hl3,hl4,hk4⟩:=fin none W3 hp.1
    exact⟨_,_,hr,true,rfl,(fun _=>⟨hI.putObj _ hp.2 (by omega) hl3 rfl,hl4,hk4⟩),(fun h=>by cases h)⟩
   |ret=>exact stop _ W3 hp.1 hp.2
   |exit id=>exact stop _ W3 hp.1 hp.2
   |goto t=>exact stop _ W3 hp.1 hp.2
   |panic ch=>exact hp.elim
   |outgrown=>exact hp.elim
  ·rintro e W2 ⟨⟨v,rfl⟩,(⟨s,hS,hi,hl,hk⟩|⟨s,hSp,c,hi,hl,hk⟩)⟩
   ·exact⟨none,_,by have:=run_endLoop (P:=P) hl (by rw[hrec];simp);rw[hrec]at this;exact this,hdone _ s _ zv0 hS (hI.putObj _ hi (by omega) hl rfl) ((World.putObj_heap_other (by omega)).trans hk)⟩
   ·exact⟨some c,_,by have:=run_endLoop (P:=P) hl (by rw[hrec];simp);rw[hrec]at this;exact this,hstop _ c s _ zv0 hSp ((hIx c).putObj _ hi (by omega) hl rfl) ((World.putObj_heap_other (by omega)).trans hk)⟩
end
section
variable {P:Program}{md:Region.Mode}{ops:Array Oper}{Q:Exit -> Act -> World -> Prop}{n:Nat}
def zo8 (ops:Array Oper):Bool:=(List.range ops.size).all fun i=>(List.range ops.size).all fun j=>match ops[i]?,ops[j]? with
 |some oi,some oj=>i==j||(match oi.dst,oj.dst with
  |some t,some t'=> !(t==t')
  |_,_=>true)
 |_,_=>true
theorem zlo (h:zo8 ops=true){i j:Nat}{oi oj:Oper}{t:Tmp}(hi:ops[i]?=some oi)(hj:ops[j]?=some oj)(ti:oi.dst=some t)(tj:oj.dst=some t):i=j:=by
 have li:=(Array.getElem?_eq_some_iff.1 hi).1
 have lj:=(Array.getElem?_eq_some_iff.1 hj).1
 have h1:=List.all_eq_true.1 (List.all_eq_true.1 h i (List.mem_range.2 li)) j (List.mem_range.2 lj)
 simp only[hi,hj,ti,tj]at h1
 simpa using h1
structure FrameD (ops:Array Oper) (a0 a:Act):Prop where
 size:a.tmps.size=a0.tmps.size
 defers:a.defers=a0.defers
 same:∀t,(∀(i:Nat) (o:Oper),ops[i]?=some o->o.dst≠some t)->a.tmps.getD t undef=a0.tmps.getD t undef
def zlp (md:Region.Mode)(ops:Array Oper)(vals:Nat->Value)(a0:Act)(listed:Array Bool)(a:Act):Prop:=
 HeadInv md ops ops.size listed/\FrameD ops a0 a/\∀(j:Nat) (o:Oper) (t:Tmp),ops[j]?=some o->o.dst=some t->listed.getD j false=true->a.tmps.getD t undef=vals j
theorem zjZ {vals:Nat->Value}{Wd:Array Bool->World}{a0:Act}(hback:zij md ops ops.size=true)(hdist:zo8 ops=true)(hsz:∀(i:Nat) (o:Oper) (t:Tmp),ops[i]?=some o->o.dst=some t->t<a0.tmps.size)
  (hstep:∀(i:Nat) (o:Oper),ops[i]?=some o->∀listed a,HeadInv md ops ops.size listed->listed.getD i true=false->(∀j,Region.waitsFor md ops i j=true->listed.getD j false=true)->FrameD ops a0 a->(∀(j:Nat) (oj:Oper) (t:Tmp),ops[j]?=some oj->oj.dst=some t->Region.waitsFor md ops i j=true->a.tmps.getD t undef=vals j)->
   wpOpIn Fence.wide n P ops Q i (fun a' w'=>a'=a.put o.dst (vals i)/\w'=Wd (listed.setIfInBounds i true)) a (Wd listed))
  (hfin:∀listed a,(∀i,i<ops.size->listed.getD i false=true)->FrameD ops a0 a->(∀(j:Nat) (o:Oper) (t:Tmp),ops[j]?=some o->o.dst=some t->a.tmps.getD t undef=vals j)->Q .normal a (Wd listed)):
  ∀(f:Nat) (listed:Array Bool) (a:Act),unl listed ops.size=f->zlp md ops vals a0 listed a->wpAnyIn Fence.wide n P md ops Q f listed a (Wd listed):=by
 have fin:∀listed a,unl listed ops.size=0->zlp md ops vals a0 listed a->Q .normal a (Wd listed):=fun listed a h0 ⟨inv,hF,hv⟩=>by
  have hall:∀i,i<ops.size->listed.getD i false=true:=fun i hi=>by
   have:=zcZ h0 i hi
   have hi':i<listed.size:=by rw[inv.size];exact hi
   simpa[hi']using this
  exact hfin listed a hall hF fun j o t hj ht=>hv j o t hj ht (hall j (Array.getElem?_eq_some_iff.1 hj).1)
 have rdy:∀listed a,unl listed ops.size≠0->zlp md ops vals a0 listed a->Region.ready md ops listed≠[]:=fun listed a h0 ⟨inv,hF,hv⟩ he=>by
  obtain⟨m,hmn,hmun,hmall⟩:=zdS h0
  have hmr:m∈Region.ready md ops listed:=by
   refine mem_ready.2 ⟨hmun,ops[m],by simp[hmn],fun e he hb=>?_⟩
   have h1:=List.all_eq_true.1 hback m (List.mem_range.2 hmn)
   simp only[hmn,Array.getElem?_eq_getElem]at h1
   have h2:=Array.all_eq_true_iff_forall_mem.1 h1 e he
   simp only[hb,Bool.not_true,Bool.false_or,decide_eq_true_eq]at h2
   have h3:=hmall e.on h2
   have hes:e.on<listed.size:=by rw[inv.size];omega
   simpa[hes]using h3
  rw[he]at hmr
  cases hmr
 intro f
 induction f with
 |zero=>
  intro listed a h0 hI
  refine⟨?_,fin listed a h0 hI⟩
  rcases e:Region.ready md ops listed with _|⟨i,r⟩
  ·rfl
  ·have hi:i∈Region.ready md ops listed:=by rw[e];simp
   obtain⟨hiun,oi,hoi,_⟩:=mem_ready.1 hi
   have:=zcZ h0 i (Array.getElem?_eq_some_iff.1 hoi).1
   rw[hiun]at this
   cases this
 |succ f ih=>
  intro listed a hf hI
  obtain⟨inv,hF,hv⟩:=hI
  refine⟨fun h0=>absurd h0 (rdy listed a (by omega) ⟨inv,hF,hv⟩),fun i hi=>?_⟩
  obtain⟨hiun,oi,hoi,hall⟩:=mem_ready.1 hi
  have hin:=(Array.getElem?_eq_some_iff.1 hoi).1
  refine wpOpIn_mono ?_ (hstep i oi hoi listed a inv hiun (fun j hw=>?_) hF fun j oj t hj ht hw=>hv j oj t hj ht ?_)
  ·rintro a' w' ⟨rfl,rfl⟩
   refine ih _ _ ?_ ⟨inv.set hi hin,?_,?_⟩
   ·have:=zfB hiun ops.size
    rw[if_pos hin]at this
    omega
   ·cases hd:oi.dst with
    |none=>exact hF
    |some t=>
     refine⟨by rw[zdT];exact hF.size,hF.defers,fun t' h'=>?_⟩
     rw[zb2 _ _ (fun e=>h' i oi hoi (by rw[hd,e]))]
     exact hF.same t' h'
   ·intro j oj t hj ht hlj
    by_cases hij:i=j
    ·subst hij
     rw[hoi]at hj
     cases hj
     rw[ht]
     exact zdU _ _ _ (by rw[hF.size];exact hsz i oi t hoi ht)
    ·have hlj':listed.getD j false=true:=by rwa [getD_set_ne false hij]at hlj
     cases hd:oi.dst with
     |none=>exact hv j oj t hj ht hlj'
     |some t'=>
      rw[zb2 _ _ (fun e=>hij (zlo hdist hoi hj (by rw[hd]) (by rw[ht,e])))]
      exact hv j oj t hj ht hlj'
  ·obtain⟨oj,hoj,e,he,hb,hon⟩:=Region.waitsFor_spec hw
   have:oj=oi:=Option.some.inj (hoj.symm.trans hoi)
   subst this
   rw[<-hon]
   exact hall e he hb
  ·obtain⟨oj,hoj,e,he,hb,hon⟩:=Region.waitsFor_spec hw
   have:oj=oi:=Option.some.inj (hoj.symm.trans hoi)
   subst this
   rw[<-hon]
   exact hall e he hb
theorem zj0 (k:Nat):∀n,n<=k->unl (Array.replicate k false) n=n
 |0,_=>rfl
 |n+1,h=>by
  have h1:n<k:=by omega
  simp only[unl,zj0 k n (by omega)]
  simp[h1]
theorem zgR {id l:Nat}{vals:Nat->Value}{Wd:Array Bool->World}{a0:Act}{w0:World}(hm:P.follows .mixedOrders=true)(hnd:ops.all zbS=true)(hback:zij .any ops ops.size=true)(hdist:zo8 ops=true)(hsz:∀(i:Nat) (o:Oper) (t:Tmp),ops[i]?=some o->o.dst=some t->t<a0.tmps.size)(h0:Wd (Array.replicate ops.size false)=w0.drew)
  (hstep:∀(i:Nat) (o:Oper),ops[i]?=some o->∀listed a,HeadInv .any ops ops.size listed->listed.getD i true=false->(∀j,Region.waitsFor .any ops i j=true->listed.getD j false=true)->FrameD ops a0 a->(∀(j:Nat) (oj:Oper) (t:Tmp),ops[j]?=some oj->oj.dst=some t->Region.waitsFor .any ops i j=true->a.tmps.getD t undef=vals j)->
   wpOpIn Fence.wide n P ops Q i (fun a' w'=>a'=a.put o.dst (vals i)/\w'=Wd (listed.setIfInBounds i true)) a (Wd listed))
  (hfin:∀listed a,(∀i,i<ops.size->listed.getD i false=true)->FrameD ops a0 a->(∀(j:Nat) (o:Oper) (t:Tmp),ops[j]?=some o->o.dst=some t->a.tmps.getD t undef=vals j)->Q .normal a (Wd listed)):
  (Code.region id ops true).wpIn (Fence.wide.inRound l) n P Q a0 w0:=by
 refine zcI hm hnd ?_
 rw[<-h0]
 refine zjZ hback hdist hsz hstep hfin _ _ _ (zj0 _ _ zv0) ⟨⟨by simp,fun j oj hj hl=>?_,fun t h1 h2=>by omega⟩,⟨rfl,rfl,fun _ _=>rfl⟩,fun j o t hj ht hl=>?_⟩
 ·have hlt:=(Array.getElem?_eq_some_iff.1 hj).1
  simp[hlt]at hl
 ·have hlt:=(Array.getElem?_eq_some_iff.1 hj).1
  simp[hlt]at hl
theorem zbH {i:Nat}{o:Oper}{a:Act}{W W':World}{v:Value}(ho:ops[i]?=some o)(hg:o.guard=none)(hnd:zbS o=true)(hr:(execOp a.eval o).run P W= .ok (.value v) W'):
  wpOpIn Fence.wide n P ops Q i (fun a' w'=>a'=a.put o.dst v/\w'=W') a W:=by
 unfold wpOpIn
 have hw:Region.wanted o (yielded ops a.tmps)=true:=by unfold Region.wanted;rw[hg]
 simp only[ho,hw,if_true]
 refine⟨fun _ _=>trivial,?_⟩
 rw[Oper.semAt_plain Fence.wide a.eval o (zcr hnd),hr]
 exact⟨rfl,rfl⟩
theorem zo9 {i:Nat}{o:Oper}{a:Act}{W W':World}{v:Value}(ho:ops[i]?=some o)(hg:o.guard=none)(hnd:zbS o=true)(hd:o.dst=none)(hr:(execOp a.eval o).run P W= .ok .skip W'):
  wpOpIn Fence.wide n P ops Q i (fun a' w'=>a'=a.put o.dst v/\w'=W') a W:=by
 unfold wpOpIn
 have hw:Region.wanted o (yielded ops a.tmps)=true:=by unfold Region.wanted;rw[hg]
 simp only[ho,hw,if_true]
 refine⟨fun _ _=>trivial,?_⟩
 rw[Oper.semAt_plain Fence.wide a.eval o (zcr hnd),hr]
 rw[Oper.uponIn_skip,hd]
 exact⟨rfl,rfl⟩
theorem zlq {o:Oper}{a:Act}{W W':World}{s x:Tmp}{t:TypeId}{v u v':Value}(hop:o.op=Op.call { callee:=Callee.builtin Builtin.append,args:= #[.tmp s,.tmp x],argTypes:= #[t,t] })(hs:a.tmps[s]?.getD undef=v)(hx:a.tmps[x]?.getD undef=u)
  (hrun:(Builtin.append_ #[t,t] o.type #[v,u]).run P W= .ok v' W'):(execOp a.eval o).run P W= .ok (.value v') W':=by
 have hs':a.eval (.tmp s)=v:=by simpa[Act.eval]using hs
 have hx':a.eval (.tmp x)=u:=by simpa[Act.eval]using hx
 simp[execOp,hop,resolve,invoke,builtin,hs',hx',hrun,Result.andThen]
theorem zev {t:Tmp}(h:(ops.all fun o=> !(o.dst==some t))=true):∀(i:Nat) (o:Oper),ops[i]?=some o->o.dst≠some t:=fun i o ho e=>by
 obtain⟨hi,rfl⟩:=Array.getElem?_eq_some_iff.1 ho
 have:=Array.all_eq_true.1 h i hi
 simp[e]at this
theorem zfC {m i j:Nat}{listed:Array Bool}(inv:HeadInv md ops m listed)(hi:listed.getD i true=false)(hw:Region.waitsFor md ops j i=true):listed.getD j false=false:=by
 cases h:listed.getD j false
 ·rfl
 ·obtain⟨oj,hoj,e,he,hb,hon⟩:=Region.waitsFor_spec hw
  have:=inv.closed j oj hoj h e he hb
  rw[hon]at this
  rw[getD_both hi]at this
  cases this
def Wd3 (i j k:Nat)(WA WB WC WD:World)(listed:Array Bool):World:=if listed.getD k false=true then WD else if listed.getD j false=true then WC else if listed.getD i false=true then WB else WA
theorem zcf {i j k m:Nat}{WA WB WC WD:World}{listed:Array Bool}(h1:m≠i)(h2:m≠j)(h3:m≠k):Wd3 i j k WA WB WC WD (listed.setIfInBounds m true)=Wd3 i j k WA WB WC WD listed:=by
 unfold Wd3
 rw[getD_set_ne false h1,getD_set_ne false h2,getD_set_ne false h3]
theorem zrD {i j k:Nat}{WA WB WC WD:World}{listed:Array Bool}{p:World->Prop}(hA:p WA)(hB:p WB)(hC:p WC)(hD:p WD):p (Wd3 i j k WA WB WC WD listed):=by
 unfold Wd3
 split
 ·exact hD
 ·split
  ·exact hC
  ·split <;> assumption
theorem zpa {i j k:Nat}{WA WB WC WD:World}{listed:Array Bool}(h1:listed.getD i false=false)(h2:listed.getD j false=false)(h3:listed.getD k false=false):Wd3 i j k WA WB WC WD listed=WA:=by unfold Wd3;simp only[h1,h2,h3];rfl
theorem zpb {i j k:Nat}{WA WB WC WD:World}{listed:Array Bool}(h1:listed.getD i false=true)(h2:listed.getD j false=false)(h3:listed.getD k false=false):Wd3 i j k WA WB WC WD listed=WB:=by unfold Wd3;simp only[h1,h2,h3];rfl
theorem zs3 {i j k:Nat}{WA WB WC WD:World}{listed:Array Bool}(h2:listed.getD j false=true)(h3:listed.getD k false=false):Wd3 i j k WA WB WC WD listed=WC:=by unfold Wd3;simp only[h2,h3];rfl
theorem zs4 {i j k:Nat}{WA WB WC WD:World}{listed:Array Bool}(h3:listed.getD k false=true):Wd3 i j k WA WB WC WD listed=WD:=by unfold Wd3;simp only[h3];rfl
theorem zew {listed:Array Bool}{i:Nat}(h:listed.getD i true=false):(listed.setIfInBounds i true).getD i false=true:=by
 have:i<listed.size:=by
  rcases zv6 i listed.size with h'|h'
  ·exact h'
  ·simp[h']at h
 simp[this]
end
end Go.Proofs.YtipckjmgdghkiaaGreatDoor
