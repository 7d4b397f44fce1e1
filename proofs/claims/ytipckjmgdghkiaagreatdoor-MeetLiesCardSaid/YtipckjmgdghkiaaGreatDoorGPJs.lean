/- A part. -/
import Derived.OrdersIn
import Derived.Test.YtipckjmgdghkiaaGreatDoorGPOps
set_option maxHeartbeats 4000000
set_option maxRecDepth 100000
namespace Go.Proofs.YtipckjmgdghkiaaGreatDoor
open Go Go.RowKit
section
variable {F:Fence}{n:Nat}{P:Program}
theorem zfc {σ α:Type}{g:Operand}{ps:Array Tmp}{assign body:Code}{Q:Exit->Act->World->Prop}{a:Act}{w:World}
  (hro:F.round=none) (h1:1<=n) {gf:Nat} {lb:Array Value} (hg:a.eval g= .func (.func gf) #[] lb) (hFg:F.fn gf) (eg:∀args w,(callFunc gf args).run P w= .ok (.enter gf args) w)
  {encs:α->Array Value} (hps:∀x,(encs x).size=ps.size) {ok:σ->α->Prop} {nx:σ->α->σ} {s0:σ} {S Sp:σ->Prop} {mv:σ->σ->World->World->Prop}
  (I:σ->World->Prop) (Ix:Code->σ->World->Prop) (hI:OwnFrom w.heap.size I) (hIx:∀c,OwnFrom w.heap.size (Ix c)) (h0:I s0 w)
  (hmv:∀s s' A B,I s A->mv s s' A B->I s' B) (hmr:∀s s' A B,mv s s' A B->∃r,r<w.heap.size/\A.grownBy B (some r))
  (hseq:zja F (n - 1) P gf lb encs ok nx s0 S Sp I mv) (PA:σ->α->Act->World->Prop) (hPA:∀s x a,OwnFrom (β:=Unit) w.heap.size (fun _ W=>PA s x a W))
  (hassign:∀(l:Nat) (s:σ) (x:α) (W:World),I s W->ok s x->
   assign.wpIn (F.inRound l) (n - 1 - 1) P (Exit.then (fun a1 W1=>W.grownBy W1 none/\PA s x a1 W1) (fun _ _ _=>False)) { tmps:=(ps.zip (encs x)).foldl (fun t (p,v)=>t.setIfInBounds p v) a.tmps,defers:=[] } W)
  (hbody:∀(l:Nat) (s:σ) (x:α) (a1:Act) (W:World),PA s x a1 W->ok s x->body.wpIn (F.inRound l) (n - 1 - 1) P (zi8 w.heap.size I Ix (nx s x) W) a1 W)
  (hdone:∀(D:Nat) (s:σ) (W:World),w.heap.size<=D->S s->I s W->W.heap[D]?=some (.deferred (some []))->Q .normal { a with defers:= { target:= .collected D,args:= #[] }::a.defers } W)
  (hstop:∀(D:Nat) (c:Code) (s:σ) (W:World),w.heap.size<=D->Sp s->Ix c s W->W.heap[D]?=some (.deferred (some []))->c.wpIn F n P Q { a with defers:= { target:= .collected D,args:= #[] }::a.defers } W):
  (Code.rangeFunc g ps assign body).wpIn F n P Q a w:=by
 refine wpIn_rangeFunc ?_
 intro fn hfn
 rw[hro]
 obtain⟨rec,hrec⟩:∃rec:LoopState->Option Code->Loop,rec=fun st pe=> { state:=st,pending:=pe,fn,tmps:=a.tmps,params:=ps,assign,body,defers:=w.heap.size }:=⟨_,rfl⟩
 obtain⟨W1,hW1⟩:∃W1,(w.alloc (.deferred (some []))).alloc (.loop (rec .ready none))=W1:=⟨_,rfl⟩
 have hL1:W1.heap[w.heap.size+1]?=some (.loop (rec .ready none)):=by
  rw[<-hW1];have:=World.alloc_heap_new (w.alloc (.deferred (some []))) (.loop (rec .ready none));rwa [World.size_alloc]at this
 have hK1:W1.heap[w.heap.size]?=some (.deferred (some [])):=by
  rw[<-hW1];exact(Below.heap_alloc _ _ _ (by simp)).trans (World.alloc_heap_new w _)
 have hI1:I s0 W1:=by rw[<-hW1];exact hI.alloc _ (hI.alloc _ h0)
 have keep:∀ {A B:World} {k:Nat} {o:Obj},A.grownBy B none->A.heap[k]?=some o->B.heap[k]?=some o:=fun hg hk=>
  (hg.block _ (Array.getElem?_eq_some_iff.1 hk).1 (by simp)).trans hk
 refine⟨w.heap.size+1,[{ target:= .collected w.heap.size,args:= #[] }],W1,{ target:= .fn (.func gf) lb,args:= #[.func (.yield (w.heap.size+1)) #[] #[]] },W1,gf,
  #[.func (.yield (w.heap.size+1)) #[] #[]]++lb,W1,?_,?_,?_,?_,fun _=>h1,?_⟩
 ·rw[<-hW1,hrec];exact run_enterLoop_outer _ _ _ _ _
 ·simp only[resolve,hg]
  simp[go_sem]
 ·intro f' hf';simp[Target.leads]at hf';subst hf';exact hFg
 ·simp[invoke,go_sem,eg]
 ·refine(hseq (w.heap.size+1)
   (fun s W=>I s W/\W.heap[w.heap.size+1]?=some (.loop (rec .ready none))/\W.heap[w.heap.size]?=some (.deferred (some [])))
   (fun s W=>∃c,Ix c s W/\W.heap[w.heap.size+1]?=some (.loop (rec .done (some c)))/\W.heap[w.heap.size]?=some (.deferred (some [])))
   W1 (fun _ _ h=>h.1)
   (fun s A B h hg'=>⟨hI s A B none h.1 hg' (fun r e=>by cases e),keep hg' h.2.1,keep hg' h.2.2⟩)
   (fun s A B h hg'=>by obtain⟨c,hc,hl,hk⟩:=h;exact⟨c,hIx c s A B none hc hg' (fun r e=>by cases e),keep hg' hl,keep hg' hk⟩)
   (fun s s' A B h hm=>by
    obtain⟨r,hr,hg'⟩:=hmr _ _ _ _ hm
    exact⟨hmv _ _ _ _ h.1 hm,(hg'.block _ (Array.getElem?_eq_some_iff.1 h.2.1).1 (by intro e;injection e;omega)).trans h.2.1,(hg'.block _ (Array.getElem?_eq_some_iff.1 h.2.2).1 (by intro e;injection e;omega)).trans h.2.2⟩)
   ?_ ⟨hI1,hL1,hK1⟩).mono ?_
  ·rintro s x V ⟨hi,hl,hk⟩ hok
   have hy:=run_yield (P:=P) (args:=encs x) hl (by rw[hrec];exact hps x)
   rw[hrec]at hy
   refine⟨fn,_,assign,body,hy,roundIn_of_wpIn hfn (wpIn_mono (hassign _ s x V hi hok) ?_)⟩
   rintro e1 a1 W hp1
   cases e1 with
   |ret=>exact hp1.elim
   |exit id=>exact hp1.elim
   |goto t=>exact hp1.elim
   |panic ch=>exact hp1.elim
   |outgrown=>exact hp1.elim
   |normal=>
   obtain⟨hg1,hPa⟩:=hp1
   replace hl:=keep hg1 hl
   replace hk:=keep hg1 hk
   have hlt:w.heap.size+1<W.heap.size:=(Array.getElem?_eq_some_iff.1 hl).1
   refine⟨_,run_beginRound hl (by rw[hrec]),?_⟩
   have hl2:(W.putObj (w.heap.size+1) (.loop { rec .ready none with state:= .busy })).heap[w.heap.size+1]?=some (.loop { rec .ready none with state:= .busy }):=World.putObj_heap_same hlt
   have hk2:(W.putObj (w.heap.size+1) (.loop { rec .ready none with state:= .busy })).heap[w.heap.size]?=some (.deferred (some [])):=(World.putObj_heap_other (by omega)).trans hk
   refine wpIn_mono (hbody _ s x a1 _ ((hPA s x a1).putObj (s:=()) _ hPa (by omega) hl rfl) hok) ?_
   have fin:∀(jump:Option Code) (W3:World),KeepsFrom w.heap.size (W.putObj (w.heap.size+1) (.loop { rec .ready none with state:= .busy })) W3->
     (Instr.endRound (w.heap.size+1) jump).run P W3= .ok (.bool jump.isNone) (W3.putObj (w.heap.size+1) (.loop (rec (if jump.isNone then .ready else .done) jump)))/\
     W3.heap[w.heap.size+1]?=some (.loop { rec .ready none with state:= .busy })/\
     (W3.putObj (w.heap.size+1) (.loop (rec (if jump.isNone then .ready else .done) jump))).heap[w.heap.size+1]?=some (.loop (rec (if jump.isNone then .ready else .done) jump))/\
     (W3.putObj (w.heap.size+1) (.loop (rec (if jump.isNone then .ready else .done) jump))).heap[w.heap.size]?=some (.deferred (some [])):=fun jump W3 hk3=>by
    have hl3:=hk3.same _ _ (by omega) hl2 rfl
    have:=run_endRound (P:=P) jump hl3
    rw[hrec]at this ⊢
    exact⟨this,by rw[hrec]at hl3;exact hl3,World.putObj_heap_same (Array.getElem?_eq_some_iff.1 hl3).1,(World.putObj_heap_other (by omega)).trans (hk3.same _ _ zv0 hk2 rfl)⟩
   have stop:∀(c:Code) (W3:World),KeepsFrom w.heap.size (W.putObj (w.heap.size+1) (.loop { rec .ready none with state:= .busy })) W3->Ix c (nx s x) W3->
     ∃v W4,(Instr.endRound (w.heap.size+1) (some c)).run P W3= .ok v W4/\∃b:Bool,Ending.returned v= .returned (.bool b)/\(b=true->I (nx s x) W4/\W4.heap[w.heap.size+1]?=some (.loop (rec .ready none))/\W4.heap[w.heap.size]?=some (.deferred (some [])))/\
      (b=false->∃c,Ix c (nx s x) W4/\W4.heap[w.heap.size+1]?=some (.loop (rec .done (some c)))/\W4.heap[w.heap.size]?=some (.deferred (some []))):=fun c W3 hk3 hi3=>by
    obtain⟨hr,hl3,hl4,hk4⟩:=fin (some c) W3 hk3
    exact⟨_,_,hr,false,rfl,(fun h=>by cases h),fun _=>⟨c,(hIx c).putObj _ hi3 (by omega) hl3 rfl,hl4,hk4⟩⟩
   rintro e a3 W3 hp
   cases e with
   |normal=>
    obtain⟨hr,hl3,hl4,hk4⟩:=fin none W3 hp.1
    exact⟨_,_,hr,true,rfl,(fun _=>⟨hI.putObj _ hp.2 (by omega) hl3 rfl,hl4,hk4⟩),(fun h=>by cases h)⟩
   |ret=>exact stop _ W3 hp.1 hp.2
   |exit id=>exact stop _ W3 hp.1 hp.2
   |goto t=>exact stop _ W3 hp.1 hp.2
   |panic ch=>exact hp.elim
   |outgrown=>exact hp.elim
  ·rintro e W2 ⟨⟨v,rfl⟩,(⟨s,hS,hi,hl,hk⟩|⟨s,hSp,c,hi,hl,hk⟩)⟩
   ·exact⟨none,_,by have:=run_endLoop (P:=P) hl (by rw[hrec];simp);rw[hrec]at this;exact this,hdone _ s _ zv0 hS (hI.putObj _ hi (by omega) hl rfl) ((World.putObj_heap_other (by omega)).trans hk)⟩
   ·exact⟨some c,_,by have:=run_endLoop (P:=P) hl (by rw[hrec];simp);rw[hrec]at this;exact this,hstop _ c s _ zv0 hSp ((hIx c).putObj _ hi (by omega) hl rfl) ((World.putObj_heap_other (by omega)).trans hk)⟩
end
section
attribute [local go_sem] Oper.semAt_some
abbrev P3:=Bool×Num×Num
def zaK (p:P3):List Value:=[.bool p.1,.slice p.2.1.A p.2.1.n p.2.1.c,.slice p.2.2.A p.2.2.n p.2.2.c]
def zbk (ps:List P3):List Value:=ps.flatMap zaK
theorem zef (p:P3):(zaK p).length=3:=rfl
theorem zcV (p:P3)(ps:List P3):zbk (p::ps)=zaK p++zbk ps:=rfl
theorem zeW (l l':List P3):zbk (l++l')=zbk l++zbk l':=List.flatMap_append
theorem zcE:∀ps:List P3,(zbk ps).length=3*ps.length
 |[]=>rfl
 |p::ps=>by rw[zcV,List.length_append,zcE ps,zef,List.length_cons];omega
theorem zfT:∀ps:List P3,(zbk ps).all za6=true
 |[]=>rfl
 |p::ps=>by rw[zcV,List.all_append,zfT ps];rfl
theorem zp2 {ps:List P3}{k i:Nat}(hk:k<ps.length)(hi:i<3):(zbk ps)[3*k+i]?=(zaK ps[k])[i]?:=by
 have e:ps=ps.take k++ps[k]::ps.drop (k+1):=by rw[<-List.drop_eq_getElem_cons hk,List.take_append_drop]
 have hl:(zbk (ps.take k)).length=3*k:=by rw[zcE,List.length_take,Nat.min_eq_left (by omega)]
 have e2:zbk ps=zbk (ps.take k)++(zaK ps[k]++zbk (ps.drop (k+1))):=by
  rw[<-zcV,<-zeW,<-e]
 rw[e2,List.getElem?_append_right (by omega),hl,Nat.add_sub_cancel_left,List.getElem?_append_left (by rw[zef];exact hi)]
theorem zgj:∀(vs l l' r:List Value),l'.length=vs.length->zcy (l++l'++r) l.length vs=l++vs++r
 |[],l,l',r,h=>by
  have:l'=[]:=List.eq_nil_of_length_eq_zero h
  subst this;rfl
 |v::vs,l,[],r,h=>by cases h
 |v::vs,l,x::l',r,h=>by
  have e:(l++x::l'++r).set l.length v=(l++[v])++l'++r:=by
   rw[List.append_assoc,List.set_append_right _ _ zv0];simp
  unfold zcy
  rw[e]
  have:=zgj vs (l++[v]) l' r (by simpa using h)
  rw[List.length_append,List.length_singleton]at this
  rw[this];simp
theorem zn7 {ps:List P3}{k:Nat}(p:P3)(hk:k<ps.length):zcy (zbk ps) (3*k) (zaK p)=zbk (ps.set k p):=by
 have hl:(zbk (ps.take k)).length=3*k:=by rw[zcE,List.length_take,Nat.min_eq_left (by omega)]
 have e2:zbk ps=zbk (ps.take k)++zaK ps[k]++zbk (ps.drop (k+1)):=by
  have e:ps=ps.take k++ps[k]::ps.drop (k+1):=by rw[<-List.drop_eq_getElem_cons hk,List.take_append_drop]
  rw[List.append_assoc,<-zcV,<-zeW,<-e]
 have h:=zgj (zaK p) (zbk (ps.take k)) (zaK ps[k]) (zbk (ps.drop (k+1))) rfl
 rw[e2,<-hl,h,List.set_eq_take_append_cons_drop,if_pos hk,List.append_assoc,<-zcV,<-zeW]
def wt3 (c:Nat)(p:P3):Nat:=max p.2.1.n p.2.2.n+c
def wts (c:Nat)(l:List P3):Nat:=(l.map (wt3 c)).sum
structure Joins (tot:List Rat->Rat) (op:Rat->Rat->Rat):Prop where
 one:∀q,tot [q]=q
 two:∀l q q' r,tot (l++op q q'::r)=tot (l++q::q'::r)
structure Live (tot:List Rat->Rat) (c B:Nat) (T:Rat) (l:List P3):Prop where
 good:∀p∈l,p.2.2.N≠0
 tot_:tot (l.map qP)=T
 some_:l≠[]
 room:wts c l<=B
theorem Live.join {tot:List Rat->Rat}{op:Rat->Rat->Rat}{c B:Nat}{T:Rat}{l r:List P3}{p p' x:P3}(J:Joins tot op)(h:Live tot c B T (l++p::p'::r))(h1:x.2.2.N≠0)(h2:qP x=op (qP p) (qP p'))(h3:wt3 c x<=wt3 c p+wt3 c p'):Live tot c B T (l++x::r):=by
 refine⟨fun y hy=>?_,?_,by simp,?_⟩
 ·rcases List.mem_append.1 hy with hy|hy
  ·exact h.good y (by simp[hy])
  ·rcases List.mem_cons.1 hy with rfl|hy
   ·exact h1
   ·exact h.good y (by simp[hy])
 ·have:=h.tot_
  simp only[List.map_append,List.map_cons]at this ⊢
  rw[h2,J.two,this]
 ·have:=h.room
  simp only[wts,List.map_append,List.map_cons,List.sum_append,List.sum_cons]at this ⊢
  omega
theorem Live.wt {tot:List Rat->Rat}{c B:Nat}{T:Rat}{l:List P3}(h:Live tot c B T l){p:P3}(hp:p∈l):wt3 c p<=B:=by
 refine zv2 ?_ h.room
 obtain⟨l1,l2,rfl⟩:=List.append_of_mem hp
 simp only[wts,List.map_append,List.map_cons,List.sum_append,List.sum_cons]
 omega
theorem zp3 (A:Option Addr)(n c:Nat)(f:FuncId)(w:World):
  CallsIn Fence.wide 0 Tryz.prog 123 #[.slice A n c,.func (.func f) #[] #[]] w fun e w'=>
   e= .returned (.func (.func 161) #[] #[.pointer (some ⟨w.heap.size,0,none⟩),.pointer (some ⟨w.heap.size+1,0,none⟩)])/\
    w'=(w.alloc (.cells #[.slice A n c] 129)).alloc (.cells #[.func (.func f) #[] #[]] 128):=by
 refine callsIn_wide.2 ?_
 go_enter Tryz.func123,Tryz.ntmps123
 go_wp2
 go_ret
 exact⟨rfl,rfl⟩
end
section
variable {P:Program}{ops:Array Oper}{md:Region.Mode}{Q:Exit -> Act -> World -> Prop}{kk:Nat}
theorem zp4 {md:Region.Mode}:∀(l:List Oper) (k:Nat) (listed:Array Bool) (a:Act) (w:World),(∀j,l[j]?=ops[k+j]?)->
  Region.seqB md ops l.length k listed=true->wpListIn Fence.wide kk P ops Q l a w->wpAnyIn Fence.wide kk P md ops Q l.length listed a w
 |[],_,_,_,_,_,hB,h=>⟨by simpa[Region.seqB]using hB,h⟩
 |o::l,k,listed,a,w,hl,hB,h=>by
  have h0:ops[k]?=some o:=by simpa using(hl 0).symm
  simp only[List.length_cons,Region.seqB,Bool.and_eq_true,decide_eq_true_eq]at hB
  obtain⟨hr,hB⟩:=hB
  refine wpAnyIn_all hr (by simp) fun i hi=>?_
  obtain rfl:i=k:=by simpa using hi
  have hw:wpOpIn Fence.wide kk P ops Q i (wpListIn Fence.wide kk P ops Q l) a w:=by unfold wpOpIn;simp only[h0];exact h
  exact wpOpIn_mono (fun a' w' h'=>zp4 l (i+1) _ a' w' (fun j=>by have:=hl (j+1);simpa[Nat.add_assoc,Nat.add_comm 1 j]using this) hB h') hw
theorem zh8 {n:Nat}{dst:List Tmp}{fact:Nat->Value->World->Prop}{fresh:Nat->World->Value->Prop}{rel:Nat->Nat->Value->Value->Prop}{C:World->Prop}{a0:Act}(hB:zc8 md ops n=true)(hdl:dst.length=n)(hnd:dst.Nodup)(hds:∀t∈dst,t<a0.tmps.size)
  (hmono:∀i v w w',fact i v w->Below w.heap.size w w'->C w'->fact i v w')
  (hrel:∀i j v v' w,fresh i w v->fact j v' w->rel i j v v')
  (hstep:∀i t,dst[i]?=some t->∀a w,C w->FrameOf dst a0 a->(∀j t',dst[j]?=some t'->Region.waitsFor md ops i j=true->fact j (a.tmps.getD t' undef) w)->
   wpOpIn Fence.wide kk P ops Q i (fun a' w'=>∃v,a'=a.put (some t) v/\(fact i v w'/\fresh i w v)/\Below w.heap.size w w'/\C w') a w)
  (hfin:∀a w,C w->FrameOf dst a0 a->(∀j t',dst[j]?=some t'->fact j (a.tmps.getD t' undef) w)->(∀i j t t',dst[i]?=some t->dst[j]?=some t'->i≠j->rel i j (a.tmps.getD t undef) (a.tmps.getD t' undef)\/rel j i (a.tmps.getD t' undef) (a.tmps.getD t undef))->wpListIn Fence.wide kk P ops Q (ops.toList.drop n) a w):
  ∀(f:Nat) (listed:Array Bool) (a:Act) (w:World),HeadInv md ops n listed->unl listed n=f->C w->FrameOf dst a0 a->(∀j t',dst[j]?=some t'->listed.getD j false=true->fact j (a.tmps.getD t' undef) w)->(∀i j t t',dst[i]?=some t->dst[j]?=some t'->i≠j->listed.getD i false=true->listed.getD j false=true->rel i j (a.tmps.getD t undef) (a.tmps.getD t' undef)\/rel j i (a.tmps.getD t' undef) (a.tmps.getD t undef))->
   wpAnyIn Fence.wide kk P md ops Q (f+(ops.size - n)) listed a w:=by
 simp only[zc8,Bool.and_eq_true,decide_eq_true_eq,Bool.or_eq_true]at hB
 obtain⟨⟨⟨hn,hsc⟩,hback⟩,hseq⟩:=hB
 intro f
 induction f with
 |zero=>
  intro listed a w inv hf hC hF hfact hR
  have hfull:=zmB inv hf
  rw[Nat.zero_add,show ops.size - n=(ops.toList.drop n).length by simp]
  have hall:∀j t',dst[j]?=some t'->listed.getD j false=true:=fun j t' hj=>by
   have hjn:j<n:=by rw[<-hdl];exact(List.getElem?_eq_some_iff.1 hj).1
   have:=zcZ hf j hjn
   have hjs:j<listed.size:=by rw[inv.size];omega
   simpa[hjs]using this
  refine zp4 (ops.toList.drop n) n listed a w (fun j=>by simp[List.getElem?_drop]) ?_ (hfin a w hC hF (fun j t' hj=>hfact j t' hj (hall j t' hj)) (fun i j t t' hi hj hne=>hR i j t t' hi hj hne (hall i t hi) (hall j t' hj)))
  ·rw[hfull];simpa using hseq
 |succ f ih=>
  intro listed a w inv hf hC hF hfact hR
  rw[show f+1+(ops.size - n)=(f+(ops.size - n))+1 by omega]
  obtain⟨m,hmn,hmun,hmall⟩:=zdS (listed:=listed) (n:=n) (by omega)
  have hmr:m∈Region.ready md ops listed:=by
   have hms:m<ops.size:=by omega
   refine mem_ready.2 ⟨hmun,ops[m],by simp[hms],fun e he hb=>?_⟩
   have h1:=List.all_eq_true.1 hback m (List.mem_range.2 hmn)
   simp only[hms,Array.getElem?_eq_getElem]at h1
   have h2:=Array.all_eq_true_iff_forall_mem.1 h1 e he
   simp only[hb,Bool.not_true,Bool.false_or,decide_eq_true_eq]at h2
   have h3:=hmall e.on h2
   have hes:e.on<listed.size:=by rw[inv.size];omega
   simpa[hes]using h3
  refine⟨fun h0=>(by rw[h0]at hmr;cases hmr),fun i hi=>?_⟩
  have hin:i<n:=by
   rcases zv6 i n with h|h
   ·exact h
   ·rcases hsc with h1|⟨h1,h2⟩
    ·obtain⟨_,o,ho,_⟩:=mem_ready.1 hi
     have:=(Array.getElem?_eq_some_iff.1 ho).1
     omega
    ·exact absurd hi (tail_waits h1 h2 (by obtain⟨_,o,ho,_⟩:=mem_ready.1 hi;have:=(Array.getElem?_eq_some_iff.1 ho).1;omega) inv _ m rfl hmn hmun i h)
  obtain⟨hiun,oi,hoi,hall⟩:=mem_ready.1 hi
  obtain⟨t,ht⟩:∃t,dst[i]?=some t:=⟨_,List.getElem?_eq_getElem (by omega)⟩
  have htm:t∈dst:=List.mem_of_getElem? ht
  refine wpOpIn_mono ?_ (hstep i t ht a w hC hF fun j t' hj hw=>hfact j t' hj ?_)
  ·rintro a' w' ⟨v,rfl,⟨hv,hfr⟩,hle,hC'⟩
   have hput:(a.put (some t) v).tmps.getD t undef=v:=zdU _ _ _ (by rw[hF.size];exact hds t htm)
   have hoth:∀j t',dst[j]?=some t'->j≠i->(a.put (some t) v).tmps.getD t' undef=a.tmps.getD t' undef:=fun j t' hj e=>zb2 _ _ (fun e'=>by
    subst e'
    exact e ((List.getElem?_inj (List.getElem?_eq_some_iff.1 hj).1 hnd).1 (hj.trans ht.symm)))
   refine ih _ _ _ (inv.set hi hin) ?_ hC' ⟨by rw[zdT];exact hF.size,hF.defers,fun t' ht'=>by rw[zb2 _ _ (fun e=>by subst e;exact ht' htm)];exact hF.same t' ht'⟩ (fun j t' hj hl=>?_) (fun k j tk t' hk hj hne hlk hlj=>?_)
   ·have:=zfB hiun n
    rw[if_pos hin]at this
    omega
   ·by_cases e:j=i
    ·subst e
     rw[ht]at hj
     cases hj
     rw[hput]
     exact hv
    ·rw[hoth j t' hj e]
     rw[getD_set_ne false (Ne.symm e)]at hl
     exact hmono j _ w w' (hfact j t' hj hl) hle hC'
   ·by_cases e:k=i
    ·subst e
     rw[ht]at hk
     cases hk
     rw[getD_set_ne false hne]at hlj
     rw[hput,hoth j t' hj (Ne.symm hne)]
     exact .inl (hrel _ _ _ _ w hfr (hfact j t' hj hlj))
    ·rw[getD_set_ne false (Ne.symm e)]at hlk
     by_cases e2:j=i
     ·subst e2
      rw[ht]at hj
      cases hj
      rw[hput,hoth k tk hk e]
      exact .inr (hrel _ _ _ _ w hfr (hfact k tk hk hlk))
     ·rw[getD_set_ne false (Ne.symm e2)]at hlj
      rw[hoth k tk hk e,hoth j t' hj e2]
      exact hR k j tk t' hk hj hne hlk hlj
  ·obtain⟨oj,hoj,e,he,hb,hon⟩:=Region.waitsFor_spec hw
   have:oj=oi:=Option.some.inj (hoj.symm.trans hoi)
   subst this
   rw[<-hon]
   exact hall e he hb
theorem zer {id:Nat}{l:List Oper}{w0:World}{a0:Act}(n:Nat)(dst:List Tmp)(fact:Nat->Value->World->Prop)(fresh:Nat->World->Value->Prop)(rel:Nat->Nat->Value->Value->Prop)(C:World->Prop)(hm:P.follows .mixedOrders=true)(hB:zc8 .any l.toArray n=true)(hdl:dst.length=n)(hnd:dst.Nodup)(hds:∀t∈dst,t<a0.tmps.size)(hC:C w0.drew)
  (hmono:∀i v w w',fact i v w->Below w.heap.size w w'->C w'->fact i v w')
  (hrel:∀i j v v' w,fresh i w v->fact j v' w->rel i j v v')
  (hstep:∀i t,dst[i]?=some t->∀a w,C w->FrameOf dst a0 a->(∀j t',dst[j]?=some t'->Region.waitsFor .any l.toArray i j=true->fact j (a.tmps.getD t' undef) w)->
   wpOpIn Fence.wide kk P l.toArray Q i (fun a' w'=>∃v,a'=a.put (some t) v/\(fact i v w'/\fresh i w v)/\Below w.heap.size w w'/\C w') a w)
  (hfin:∀a w,C w->FrameOf dst a0 a->(∀j t',dst[j]?=some t'->fact j (a.tmps.getD t' undef) w)->(∀i j t t',dst[i]?=some t->dst[j]?=some t'->i≠j->rel i j (a.tmps.getD t undef) (a.tmps.getD t' undef)\/rel j i (a.tmps.getD t' undef) (a.tmps.getD t undef))->wpListIn Fence.wide kk P l.toArray Q (l.drop n) a w):
  (Code.region id l.toArray true).wpIn Fence.wide kk P Q a0 w0:=by
 refine wpIn_region_any hm ?_
 have hn:n<=l.toArray.size:=by simp only[zc8,Bool.and_eq_true,decide_eq_true_eq]at hB;exact hB.1.1.1
 have hu:∀k,k<=l.toArray.size->unl (Array.replicate l.toArray.size false) k=k:=by
  intro k
  induction k with
  |zero=>intro _;rfl
  |succ k ih=>
   intro hk
   simp only[unl,ih (by omega)]
   rw[getD_in (by simp at hk ⊢;omega) (getD_replicate_false _ _)]
   simp
 have H:=zh8 (P:=P) (Q:=Q) (C:=C) (fact:=fact) (a0:=a0) hB hdl hnd hds hmono hrel hstep (fun a w h1 h2 h3 h4=>by simpa using hfin a w h1 h2 h3 h4) n (Array.replicate l.toArray.size false) a0 w0.drew
  ⟨by simp,fun j oj _ hl=>(by rw[getD_replicate_false]at hl;cases hl),fun t _ ht=>getD_in (by simpa using ht) (getD_replicate_false _ _)⟩ (hu n hn) hC ⟨rfl,rfl,fun _ _=>rfl⟩ (fun j t' _ hl=>(by rw[getD_replicate_false]at hl;cases hl)) (fun i j t t' _ _ _ hl=>(by rw[getD_replicate_false]at hl;cases hl))
 rwa [show n+(l.toArray.size - n)=l.toArray.size by omega]at H
theorem zfU {id:Nat}{l:List Oper}{w0:World}{a0:Act}(n:Nat)(dst:List Tmp)(fact:Nat->Value->World->Prop)(C:World->Prop)(hm:P.follows .mixedOrders=true)(hB:zc8 .any l.toArray n=true)(hdl:dst.length=n)(hnd:dst.Nodup)(hds:∀t∈dst,t<a0.tmps.size)(hC:C w0.drew)
  (hmono:∀i v w w',fact i v w->Below w.heap.size w w'->C w'->fact i v w')
  (hstep:∀i t,dst[i]?=some t->∀a w,C w->FrameOf dst a0 a->(∀j t',dst[j]?=some t'->Region.waitsFor .any l.toArray i j=true->fact j (a.tmps.getD t' undef) w)->
   wpOpIn Fence.wide kk P l.toArray Q i (fun a' w'=>∃v,a'=a.put (some t) v/\fact i v w'/\Below w.heap.size w w'/\C w') a w)
  (hfin:∀a w,C w->FrameOf dst a0 a->(∀j t',dst[j]?=some t'->fact j (a.tmps.getD t' undef) w)->wpListIn Fence.wide kk P l.toArray Q (l.drop n) a w):
  (Code.region id l.toArray true).wpIn Fence.wide kk P Q a0 w0:=
 zer n dst fact (fun _ _ _=>True) (fun _ _ _ _=>True) C hm hB hdl hnd hds hC hmono (fun _ _ _ _ _ _ _=>trivial)
  (fun i t ht a w h1 h2 h3=>wpOpIn_mono (fun _ _ ⟨v,e1,e2,e3,e4⟩=>⟨v,e1,⟨e2,trivial⟩,e3,e4⟩) (hstep i t ht a w h1 h2 h3)) (fun a w h1 h2 h3 _=>hfin a w h1 h2 h3)
theorem zeG {F:Value->World->Prop}{C:World->Prop}{i:Nat}{o:Oper}{a:Act}{V V':World}{v:Value}{t:Tmp}(ho:ops[i]?=some o)(hg:o.guard=none)(hnd:zbS o=true)(hd:o.dst=some t)(hr:(execOp a.eval o).run P V= .ok (.value v) V')(hb:Below V.heap.size V V')(hC:C V')(hF:F v V'):
  wpOpIn Fence.wide kk P ops Q i (fun a' w'=>∃v,a'=a.put (some t) v/\F v w'/\Below V.heap.size V w'/\C w') a V:=
 wpOpIn_mono (by rintro a' w' ⟨rfl,rfl⟩;exact⟨v,by rw[hd],hF,hb,hC⟩) (zbH ho hg hnd hr)
theorem zr3 {F:Value->World->Prop}{C:World->Prop}{i:Nat}{o:Oper}{a:Act}{V:World}{f:FuncId}{args:Array Value}{t:Tmp}(ho:ops[i]?=some o)(hg:o.guard=none)(hnd:zbS o=true)(hd:o.dst=some t)(hr:(execOp a.eval o).run P V= .ok (.enter f args) V)(hc:Calls P f args V (zaf V F))(hC:∀V',Below V.heap.size V V'->C V'):
  wpOpIn Fence.wide kk P ops Q i (fun a' w'=>∃v,a'=a.put (some t) v/\F v w'/\Below V.heap.size V w'/\C w') a V:=by
 unfold wpOpIn
 have hw:Region.wanted o (yielded ops a.tmps)=true:=by unfold Region.wanted;rw[hg]
 simp only[ho,hw,if_true]
 refine⟨fun _ _=>trivial,?_⟩
 rw[Oper.semAt_plain Fence.wide a.eval o (zcr hnd),hr]
 simp only[Oper.uponIn,hd]
 refine⟨fun h=>by simp[Fence.wide]at h,?_⟩
 refine(callsIn_wide.2 hc).mono ?_
 rintro en V' ⟨v,rfl,h1,h2⟩
 exact⟨v,rfl,h1,h2,hC _ h2⟩
end
section
variable {P:Program}{ops:Array Oper}{Q:Exit -> Act -> World -> Prop}{kk n:Nat}{F:Fence}{ls ls':List (Tmp × Value)}{D:List Deferred}{a:Act}{V V':World}{o:Oper}{rest:List Oper}{t t1:Tmp}{v v1:Value}
structure Jf (n:Nat) (ls:List (Tmp×Value)) (D:List Deferred) (a:Act):Prop where
 size:a.tmps.size=n
 defers:a.defers=D
 slots:zqw ls a
theorem Jf.at (S:Jf n ls D a)(i:Nat){t:Tmp}{v:Value}(hi:ls[i]?=some (t,v)):a.tmps.getD t undef=v:=S.slots _ (List.mem_of_getElem? hi)
theorem Jf.keep (S:Jf n ls D a)(ks:List Nat)(h:keepS ks ls=ls'):Jf n ls' D a:=
 ⟨S.size,S.defers,fun p hp=>S.slots p (by subst h;exact(List.mem_filter.1 hp).1)⟩
theorem Jf.put (S:Jf n ls D a)(v:Value)(ht:t<n)(h:zfd t ls=ls'):Jf n ((t,v)::ls') D (a.put (some t) v):=by
 refine⟨by rw[zdT];exact S.size,S.defers,fun p hp=>?_⟩
 rcases List.mem_cons.1 hp with rfl|hp
 ·exact zdU _ _ _ (by rw[S.size];exact ht)
 ·subst h
  obtain⟨h1,h2⟩:=List.mem_filter.1 hp
  rw[zb2 _ _ (fun e=>by rw[e]at h2;simp at h2)]
  exact S.slots p h1
theorem Jf.frame {dst:List Tmp}{a0:Act}(S:Jf n ls D a0)(h:FrameOf dst a0 a)(hf:zkW ls dst=true):Jf n ls D a:=by
 refine⟨h.size.trans S.size,h.defers.trans S.defers,fun p hp=>(h.same p.1 ?_).trans (S.slots p hp)⟩
 have:=List.all_eq_true.1 hf p hp
 simpa using this
theorem Jf.add (S:Jf n ls D a)(h:a.tmps.getD t undef=v):Jf n ((t,v)::ls) D a:=
 ⟨S.size,S.defers,fun p hp=>(List.mem_cons.1 hp).elim (fun e=>by subst e;exact h) (S.slots p)⟩
theorem zmX {K:Act->World->Prop}(hF:∀f,F.fn f)(hg:o.guard=none)(hnd:zbS o=true)(h:o.uponIn F kk P a K Q ((execOp a.eval o).run P V))(hK:∀a V,K a V->wpListIn F kk P ops Q rest a V):wpListIn F kk P ops Q (o::rest) a V:=by
 unfold wpListIn
 rw[if_pos (by unfold Region.wanted;rw[hg])]
 refine Oper.wpIn_mono hK ⟨fun f _=>hF f,?_⟩
 rw[Oper.semAt_plain F a.eval o (zcr hnd)]
 exact h
theorem zaE (hF:∀f,F.fn f)(S:Jf n ls D a)(hr:(execOp a.eval o).run P V= .ok (.value v) V')(hg:o.guard=none)(hnd:zbS o=true)(hd:o.dst=some t)(ht:t<n)(hl:zfd t ls=ls')
  (k:∀a',Jf n ((t,v)::ls') D a'->wpListIn F kk P ops Q rest a' V'):wpListIn F kk P ops Q (o::rest) a V:=
 zmX (K:=fun a' V2=>a'=a.put (some t) v/\V2=V') hF hg hnd (by rw[hr];simp[Oper.uponIn,hd]) (by rintro a' V2 ⟨rfl,rfl⟩;exact k _ (S.put v ht hl))
theorem zdh (hF:∀f,F.fn f)(S:Jf n ls D a)(hr:(execOp a.eval o).run P V= .ok .skip V')(hg:o.guard=none)(hnd:zbS o=true)(hd:o.dst=none)
  (k:∀a',Jf n ls D a'->wpListIn F kk P ops Q rest a' V'):wpListIn F kk P ops Q (o::rest) a V:=
 zmX (K:=fun a' V2=>a'=a.put none undef/\V2=V') hF hg hnd (by rw[hr];simp[Oper.uponIn,hd]) (by rintro a' V2 ⟨rfl,rfl⟩;exact k _ S)
theorem zeX {G:Value->World->Prop}{f:FuncId}{args:Array Value}(S:Jf n ls D a)(hr:(execOp a.eval o).run P V= .ok (.enter f args) V)(hc:Calls P f args V (zaf V G))(hg:o.guard=none)(hnd:zbS o=true)(hd:o.dst=some t)(ht:t<n)(hl:zfd t ls=ls')
  (k:∀v a' V',G v V'->Below V.heap.size V V'->Jf n ((t,v)::ls') D a'->wpListIn Fence.wide kk P ops Q rest a' V'):wpListIn Fence.wide kk P ops Q (o::rest) a V:=by
 refine zmX (K:=fun a' V2=>∃v,a'=a.put (some t) v/\G v V2/\Below V.heap.size V V2) (fun _=>trivial) hg hnd ?_ ?_
 ·rw[hr]
  simp only[Oper.uponIn,hd]
  refine⟨fun h=>by simp[Fence.wide]at h,(callsIn_wide.2 hc).mono ?_⟩
  rintro en V2 ⟨v,rfl,h1,h2⟩
  exact⟨v,rfl,h1,h2⟩
 ·rintro a' V2 ⟨v,rfl,h1,h2⟩
  exact k _ _ _ h1 h2 (S.put v ht hl)
theorem zkD {lp kr:Nat}{R:Ending->World->Prop}(S:Jf n ls D a)(hop:∃ts,o.op= .call { callee:= .value (.tmp t),args:= #[.tmp t1],argTypes:=ts })(h1:a.tmps.getD t undef= .func (.yield lp) #[] #[])(h2:a.tmps.getD t1 undef=v)(hk:kk - 1=kr)
  (hy:YieldAt Fence.wide kr P lp #[v] V R) (hg:o.guard=none) (hnd:zbS o=true) {t2:Tmp} (hd:o.dst=some t2) (ht:t2<n) (hl:zfd t2 ls=ls') (hR:∀e W,R e W->∃b:Bool,e= .returned (.bool b))
  (k:∀(b:Bool) a' V',R (.returned (.bool b)) V'->Jf n ((t2,.bool b)::ls') D a'->wpListIn Fence.wide kk P ops Q rest a' V'):wpListIn Fence.wide kk P ops Q (o::rest) a V:=by
 obtain⟨fn,tmps,assign,body,hr,hRd⟩:=hy
 subst hk
 have hrun:(execOp a.eval o).run P V= .ok (.round lp fn tmps assign body) V:=by
  obtain⟨ts,hop⟩:=hop
  rw[zae]at h1 h2
  simp[execOp,hop,resolve,invoke,h1,h2,hr,go_sem]
 refine zmX (K:=fun a' V2=>∃b:Bool,a'=a.put (some t2) (.bool b)/\R (.returned (.bool b)) V2) (fun _=>trivial) hg hnd ?_ ?_
 ·rw[hrun]
  simp only[Oper.uponIn,hd]
  refine⟨fun h=>by simp[Fence.wide]at h,RoundIn.mono hRd ?_⟩
  intro e W hRe
  obtain⟨b,rfl⟩:=hR e W hRe
  exact⟨b,rfl,hRe⟩
 ·rintro a' V2 ⟨b,rfl,h1⟩
  exact k _ _ _ h1 (S.put _ ht hl)
end
section
variable {a:Act}{V:World}{o:Oper}{t1 t2 t3:Tmp}{v v1 v2:Value}{g n c k:Nat}
theorem zeY {off:Nat}{X:Operand}(ho:o.op= .indexAddr 129 (.tmp t1) X) (h1:a.tmps.getD t1 undef= .slice (some ⟨g,off,none⟩) n c) (h2:a.eval X= .int .i64 (k:Nat)) (hk:k<n):
  (execOp a.eval o).run Tryz.prog V= .ok (.value (.pointer (some ⟨g,off+3*k,none⟩))) V:=by
 have e1:a.eval (.tmp t1)= .slice (some ⟨g,off,none⟩) n c:=h1
 obtain⟨dst,op,ty,pos,after,guard⟩:=o
 simp only at ho
 subst ho
 have e3:off+k*3=off+3*k:=by omega
 unfold execOp
 simp only[e1,h2]
 simp[Instr.indexAt,hk,go_sem,e3]
theorem zfV {ps:List P3}{p:P3}(ho:o.op= .load 96 (.tmp t1)) (h1:a.tmps.getD t1 undef= .pointer (some ⟨g,3*k,none⟩)) (hg:V.heap[g]?=some (.cells (zbk ps).toArray 96 (0,0))) (hk:k<ps.length) (hp:ps[k]=p):
  (execOp a.eval o).run Tryz.prog V= .ok (.value (.agg (zaK p).toArray)) V:=by
 subst hp
 refine zad ho h1 hg Tryz.underlying96 rfl zaN ?_
 have e:ps=ps.take k++ps[k]::ps.drop (k+1):=by rw[<-List.drop_eq_getElem_cons hk,List.take_append_drop]
 have hl:(zbk (ps.take k)).length=3*k:=by rw[zcE,List.length_take,Nat.min_eq_left (by omega)]
 have e2:zbk ps=zbk (ps.take k)++(zaK ps[k]++zbk (ps.drop (k+1))):=by
  rw[<-zcV,<-zeW,<-e]
 rw[e2,<-hl,List.drop_left,List.take_left]
theorem zn8 {f:FuncId}(hop:∃ts,o.op= .call { callee:= .value (.tmp t3),args:= #[.tmp t1,.tmp t2],argTypes:=ts })(h3:a.tmps.getD t3 undef= .func (.func f) #[] #[])(h1:a.tmps.getD t1 undef=v1)(h2:a.tmps.getD t2 undef=v2)(en:∀args w,(callFunc f args).run Tryz.prog w= .ok (.enter f args) w):
  (execOp a.eval o).run Tryz.prog V= .ok (.enter f #[v1,v2]) V:=by
 rw[zae]at h1 h2 h3
 obtain⟨dst,op,ty,pos,after,guard⟩:=o
 obtain⟨ts,hop⟩:=hop
 simp only at hop
 subst hop
 have:=en #[v1,v2] V
 go_simp
theorem ztO {off:Nat}(ho:o.op= .slice 129 (.tmp t1) (some (.const (.int .i64 2))) none none) (h1:a.tmps.getD t1 undef= .slice (some ⟨g,off,none⟩) n c) (h:2<=n):
  (execOp a.eval o).run Tryz.prog V= .ok (.value (.slice (some ⟨g,if c=2 then off else off+6,none⟩) (n - 2) (c - 2))) V:=by
 have h3:(2:Int)<=(n:Int):=by omega
 rw[zae]at h1
 obtain⟨dst,op,ty,pos,after,guard⟩:=o
 simp only at ho
 subst ho
 by_cases hc:c=2
 ·simp[execOp,h1,Instr.slice,Instr.sliceBounds,Instr.sliceBound,asIntOf,go_sem,h3,hc]
 ·simp[execOp,h1,Instr.slice,Instr.sliceBounds,Instr.sliceBound,asIntOf,go_sem,h3,hc]
theorem ztP {off:Nat}(ho:o.op= .slice 129 (.tmp t1) none (some (.const (.int .i64 0))) none) (h1:a.tmps.getD t1 undef= .slice (some ⟨g,off,none⟩) n c):
  (execOp a.eval o).run Tryz.prog V= .ok (.value (.slice (some ⟨g,off,none⟩) 0 c)) V:=by
 rw[zae]at h1
 obtain⟨dst,op,ty,pos,after,guard⟩:=o
 simp only at ho
 subst ho
 simp[execOp,h1,Instr.slice,Instr.sliceBounds,Instr.sliceBound,asIntOf,go_sem]
end
structure St3 where
 k:Nat
 ps:List P3
 j:Nat
 pl:List P3
 d:Nat
def St3.live (s:St3)(m:Nat):List P3:=s.ps.take s.k++s.pl++(s.ps.take m).drop (s.j+s.d)
structure Src3 (w0:World) (g bl bf:Nat) (f:FuncId) (m N c B:Nat) (tot:List Rat->Rat) (T:Rat) (s:St3) (W:World):Prop where
 below:Below w0.heap.size w0 W
 left:∃off,W.heap[bl]?=some (.cells #[.slice (some ⟨g,off,none⟩) (m - s.j) (N - s.j)] 129 (0,0))/\(s.j<m->off=3*s.j)
 join:W.heap[bf]?=some (.cells #[.func (.func f) #[] #[]] 128 (0,0))
 row:W.heap[g]?=some (.cells (zbk s.ps).toArray 96 (0,0))
 oks:∀p∈s.ps++s.pl,p.2.1.ok W W.heap.size/\p.2.2.ok W W.heap.size
 len:s.ps.length=N
 mN:m<=N
 jm:s.j<=m
 live:Live tot c B T (s.live m)
 km:s.k+s.pl.length<=m
 kj:2*(s.k+s.pl.length)<=s.j+s.d
 jd:s.j+s.d<=m+1
def FJ (f:FuncId)(op:Rat->Rat->Rat)(c:Nat):Prop:=∀ {V:World} {K K':Nat} {q1 q2:Rat} {v1 v2:Value},TT V->QM K q1 v1 V->QM K' q2 v2 V->K<=4000->K'<=4000->Calls Tryz.prog f #[v1,v2] V (zaf V (QM (K+K'+c) (op q1 q2)))
def nx3 (s:St3)(x:P3):St3:=⟨s.k+1,s.ps.set s.k x,s.j,[],s.d⟩
def mv3 (w0:World)(g bl bf:Nat)(f:FuncId)(m N c B:Nat)(tot:List Rat->Rat)(T:Rat)(s s':St3)(A C:World):Prop:=Src3 w0 g bl bf f m N c B tot T s' C/\s'.k=s.k/\s'.ps=s.ps/\A.grownBy C (some bl)
theorem zhC (A:World)(r:Option Nat):A.grownBy A r:=⟨rfl,rfl,rfl,Nat.le_refl _,fun _ _ _=>rfl⟩
theorem zeH {A C:World}(h:Below A.heap.size A C)(r:Option Nat):A.grownBy C r:=⟨h.os,h.tape,h.output,h.size,fun k hk _=>h.block k hk⟩
theorem qm3 {p:P3}{V:World}(h0:p.2.2.N≠0)(h:p.2.1.oo V/\p.2.2.oo V):QM (max p.2.1.n p.2.2.n) (qP p) (.agg (zaK p).toArray) V:=
 ⟨p.1,p.2.1,p.2.2,rfl,⟨h0,rfl⟩,by omega,by omega,h.1,h.2⟩
theorem ztc {K:Nat}{q:Rat}{v:Value}{V:World}(h:QM K q v V):∃p:P3,v= .agg (zaK p).toArray/\p.2.2.N≠0/\qP p=q/\max p.2.1.n p.2.2.n<=K/\p.2.1.oo V/\p.2.2.oo V:=by
 obtain⟨b,x,y,rfl,⟨h1,h2⟩,h3,h4,h5⟩:=h
 exact⟨(b,x,y),rfl,h1,h2,by simp only;omega,h5⟩
section
variable {w0:World}{g bl bf:Nat}{f:FuncId}{m N c B:Nat}{tot:List Rat -> Rat}{op:Rat -> Rat -> Rat}{T:Rat}{s:St3}{W:World}
theorem zn9 (hd:s.d=0)(hp:s.pl=[])(h:s.j+1<m)(hm:m<=s.ps.length):s.live m=s.ps.take s.k++s.ps[s.j]'(by omega)::s.ps[s.j+1]'(by omega)::(s.ps.take m).drop (s.j+2):=by
 have e1:s.j<(s.ps.take m).length:=by rw[List.length_take];omega
 have e2:s.j+1<(s.ps.take m).length:=by rw[List.length_take];omega
 unfold St3.live
 rw[hd,hp,Nat.add_zero,List.append_nil,List.drop_eq_getElem_cons e1,List.drop_eq_getElem_cons e2,List.getElem_take,List.getElem_take]
theorem zp5 (hd:s.d=0)(hp:s.pl=[])(h:s.j+1=m)(hm:m<=s.ps.length):s.live m=s.ps.take s.k++[s.ps[s.j]'(by omega)]:=by
 have e1:s.j<(s.ps.take m).length:=by rw[List.length_take];omega
 unfold St3.live
 rw[hd,hp,Nat.add_zero,List.append_nil,List.drop_eq_getElem_cons e1,List.getElem_take,List.drop_of_length_le (by rw[List.length_take];omega)]
theorem Src3.same (h:Src3 w0 g bl bf f m N c B tot T s W){W':World}(hb:Below W.heap.size W W'):Src3 w0 g bl bf f m N c B tot T s W':=by
 obtain⟨off,h1,h2⟩:=h.left
 exact {
  below:=h.below.trans (hb.mono h.below.size)
  left:=⟨off,(hb.block _ (Array.getElem?_eq_some_iff.1 h1).1).trans h1,h2⟩
  join:=(hb.block _ (Array.getElem?_eq_some_iff.1 h.join).1).trans h.join
  row:=(hb.block _ (Array.getElem?_eq_some_iff.1 h.row).1).trans h.row
  oks:=fun p hp=>⟨(h.oks p hp).1.later hb,(h.oks p hp).2.later hb⟩
  len:=h.len,mN:=h.mN,jm:=h.jm,live:=h.live,km:=h.km,kj:=h.kj,jd:=h.jd }
end
theorem zfW {n:Nat}(args:Array Value)(hsz:args.size<=n):Jf n (args.toList.zipIdx.map (fun p=>(p.2,p.1))) [] { tmps:=args++Array.replicate (n - args.size) undef,defers:=[] }:=by
 refine⟨by simp;omega,rfl,fun p hp=>?_⟩
 obtain⟨⟨v,i⟩,hm,rfl⟩:=List.mem_map.1 hp
 have h1:=List.mem_zipIdx hm
 simp only[Nat.zero_add,Nat.sub_zero,Array.length_toList]at h1
 obtain⟨-,h2,h3⟩:=h1
 simp only[Array.getD_eq_getD_getElem?]
 rw[Array.getElem?_append_left (by simpa using h2)]
 rw[h3]
 simp[h2]
def zp6 (b:Nat)(V:World):Nat:=match V.cell? ⟨b,0,none⟩with
 |some (.slice _ n _)=>n
 |_=>0
theorem zkE {b n c:Nat}{A:Option Addr}{T:TypeId}{V:World}(h:V.heap[b]?=some (.cells #[.slice A n c] T (0,0))):zp6 b V=n:=by
 have:V.cell? ⟨b,0,none⟩=some (.slice A n c):=by rw[cell_of_row V b 0 _ T (0,0) h];rfl
 unfold zp6
 rw[this]
theorem zcM {V:World}{g o:Nat}{T:TypeId}{cs vs:List Value}(h:V.heap[g]?=some (.cells cs.toArray T (0,0)))(hc:cs.all za6=true)(hv:vs.all za6=true):Sto [(T,cs.length)] g (zcy cs o vs) V (V.setCells g o vs):=by
 obtain⟨a1,a2,a3,a4,a5,a6⟩:=zdN g vs o V _ _ h
 exact⟨T,cs,h,a1,hc,ziL _ _ _ hc hv,ziM _ _ _,by simp,a2,a3,a4,a5,a6⟩
theorem Sto.grown {shs:List (TypeId×Nat)}{g:Nat}{vs:List Value}{V V':World}(h:Sto shs g vs V V'):V.grownBy V' (some g):=by
 obtain⟨T,cs,h1,h2,h3,h4,h5,h6,h7,h8,h9,h10,h11⟩:=h
 exact⟨h9,h10,h11,Nat.le_of_eq h7.symm,fun k _ hk=>h8 k (fun e=>hk (by rw[e]))⟩
theorem Sto.cells {shs:List (TypeId×Nat)}{g:Nat}{vs cs:List Value}{T:TypeId}{V V':World}(h:Sto shs g vs V V')(hb:V.heap[g]?=some (.cells cs.toArray T (0,0))):V'.heap[g]?=some (.cells vs.toArray T (0,0)):=by
 obtain⟨T',cs',h1,h2,-⟩:=h
 rw[hb]at h1
 injection h1 with h1
 injection h1 with h1 h3
 subst h3
 exact h2
section
variable {w0:World}{g bl bf:Nat}{f:FuncId}{m N c B:Nat}{tot:List Rat -> Rat}{op:Rat -> Rat -> Rat}{T:Rat}{s:St3}{W:World}
theorem Src3.move {off:Nat}(h:Src3 w0 g bl bf f m N c B tot T s W)(hd:s.d=2)(hp:s.pl=[])(hj:s.j+2<=m)(hg:g≠bl)(hf:bf≠bl)(hlo:w0.heap.size<=bl)(hoff:2<N - s.j->off=3*s.j+6):
  Src3 w0 g bl bf f m N c B tot T ⟨s.k,s.ps,s.j+2,[],0⟩ (W.setCells bl 0 [.slice (some ⟨g,off,none⟩) (m - s.j - 2) (N - s.j - 2)])/\W.grownBy (W.setCells bl 0 [.slice (some ⟨g,off,none⟩) (m - s.j - 2) (N - s.j - 2)]) (some bl):=by
 obtain⟨off0,h1,h2⟩:=h.left
 have hS:=zcM (o:=0) (vs:=[.slice (some ⟨g,off,none⟩) (m - s.j - 2) (N - s.j - 2)]) h1 rfl rfl
 have h3:=hS.cells h1
 obtain⟨W',hW⟩:∃W',W.setCells bl 0 [.slice (some ⟨g,off,none⟩) (m - s.j - 2) (N - s.j - 2)]=W':=⟨_,rfl⟩
 rw[hW]at hS h3 ⊢
 have hl:=h.live
 unfold St3.live at hl
 rw[hd,hp,List.append_nil]at hl
 have hk:=h.km
 have hk2:=h.kj
 rw[hp,List.length_nil,Nat.add_zero]at hk hk2
 rw[hd]at hk2
 refine⟨{
   below:=h.below.trans (hS.below hlo)
   left:=⟨off,by rw[Nat.sub_sub,Nat.sub_sub]at h3;exact h3,fun h'=>?_⟩
   join:=(hS.other hf).trans h.join
   row:=(hS.other hg).trans h.row
   oks:=fun p hp=>by
    have:=h.oks p (by rw[List.append_nil]at hp;exact List.mem_append_left _ hp)
    exact⟨hS.num this.1,hS.num this.2⟩
   len:=h.len,mN:=h.mN,jm:=hj
   live:=by unfold St3.live;rw[List.append_nil];exact hl
   km:=hk,kj:=hk2,jd:=by show s.j+2+0<=m+1;omega },hS.grown⟩
 have:=h.mN
 have h':s.j+2<m:=h'
 rw[hoff (by omega)]
 show _=3*(s.j+2)
 omega
theorem Src3.pend {x:P3}(h:Src3 w0 g bl bf f m N c B tot T s W)(hd:s.d=0)(hp:s.pl=[])(hj:s.j<m)(hx:x.2.1.ok W W.heap.size/\x.2.2.ok W W.heap.size)(hl:Live tot c B T (s.ps.take s.k++[x]++(s.ps.take m).drop (s.j+2))):
  Src3 w0 g bl bf f m N c B tot T ⟨s.k,s.ps,s.j,[x],2⟩ W:=by
 have hk:=h.km
 have hk2:=h.kj
 rw[hp,List.length_nil,Nat.add_zero]at hk hk2
 rw[hd]at hk2
 exact {
   below:=h.below,left:=h.left,join:=h.join,row:=h.row,len:=h.len,mN:=h.mN,jm:=h.jm
   oks:=fun p hp'=>by
    rcases List.mem_append.1 hp' with h1|h1
    ·exact h.oks p (List.mem_append_left _ h1)
    ·rw[List.mem_singleton.1 h1];exact hx
   live:=hl
   km:=by simp only[List.length_singleton];omega
   kj:=by simp only[List.length_singleton];omega
   jd:=by show s.j+2<=m+1;omega }
theorem Src3.sto {W':World}{shs:List (TypeId×Nat)}{b:Nat}{vs:List Value}(h:Src3 w0 g bl bf f m N c B tot T s W)(hS:Sto shs b vs W W')(h0:w0.heap.size<=b)(h1:bl≠b)(h2:bf≠b)(h3:g≠b):Src3 w0 g bl bf f m N c B tot T s W':=by
 obtain⟨off,h4,h5⟩:=h.left
 exact {
  below:=h.below.trans (hS.below h0),left:=⟨off,(hS.other h1).trans h4,h5⟩,join:=(hS.other h2).trans h.join,row:=(hS.other h3).trans h.row
  oks:=fun p hp=>⟨hS.num (h.oks p hp).1,hS.num (h.oks p hp).2⟩
  len:=h.len,mN:=h.mN,jm:=h.jm,live:=h.live,km:=h.km,kj:=h.kj,jd:=h.jd }
theorem Src3.come {x:P3}{W':World}(h:Src3 w0 g bl bf f m N c B tot T ⟨s.k,s.ps,s.j,[x],2⟩ W)(hd:s.d=2)(hS:Sto [(96,3*N)] g (zbk (s.ps.set s.k x)) W W') (hbl:bl≠g) (hbf:bf≠g) (hlo:w0.heap.size<=g):
  Src3 w0 g bl bf f m N c B tot T (nx3 s x) W':=by
 obtain⟨off0,h1,h2⟩:=h.left
 have hk:=h.km
 have hk2:=h.kj
 have hl:=h.live
 have hlen:s.ps.length=N:=h.len
 have hmN:=h.mN
 have hjm:=h.jm
 simp only[List.length_singleton]at hk hk2 hjm
 unfold St3.live at hl
 simp only at hl
 refine { below:=h.below.trans (hS.below hlo),left:=⟨off0,(hS.other hbl).trans h1,h2⟩,join:=(hS.other hbf).trans h.join,row:=hS.cells h.row,len:= ?_,mN:=h.mN,jm:=h.jm,oks:= ?_,live:= ?_,km:= ?_,kj:= ?_,jd:=by have:=h.jd;simp only[nx3,hd];exact this }
 ·intro p hp'
  simp only[nx3,List.append_nil]at hp'
  have h3:p∈s.ps++[x]:=by
   rcases List.mem_or_eq_of_mem_set hp' with h4|h4
   ·exact List.mem_append_left _ h4
   ·rw[h4];simp
  exact⟨hS.num (h.oks p h3).1,hS.num (h.oks p h3).2⟩
 ·simp only[nx3,List.length_set];exact hlen
 ·unfold St3.live nx3
  simp only[List.append_nil,hd]
  have e1:(s.ps.set s.k x).take (s.k+1)=s.ps.take s.k++[x]:=by
   rw[List.take_succ_eq_append_getElem (by rw[List.length_set];omega),List.take_set_of_le zv0,List.getElem_set_self]
  have e2:((s.ps.set s.k x).take m).drop (s.j+2)=(s.ps.take m).drop (s.j+2):=by
   rw[List.take_set,List.drop_set_of_lt (by omega)]
  rw[e1,e2]
  exact hl
 ·simp only[nx3,List.length_nil];omega
 ·simp only[nx3,List.length_nil,hd];omega
end
theorem ztd {c:Nat}{p:P3}{B:Nat}(h:wt3 c p<=B):max p.2.1.n p.2.2.n<=B:=by unfold wt3 at h;omega
theorem zjq {w0:World}{g bl bf:Nat}{f:FuncId}{m N c B:Nat}{tot:List Rat->Rat}{op:Rat->Rat->Rat}{T:Rat}{s0:St3}(hT:TT w0)(hlo:w0.heap.size<=bl)(hgb:g≠bl)(hfb:bf≠bl)(hJo:FJ f op c)(enf:∀args w,(callFunc f args).run Tryz.prog w= .ok (.enter f args) w)
  (Jn:Joins tot op) (hB:B<=4000) (hp0:s0.pl=[]) (hd0:s0.d=0) (I:St3->World->Prop) (hI:∀s W,I s W->Src3 w0 g bl bf f m N c B tot T s W):
  zja Fence.wide 9 Tryz.prog 161 #[pT bl 0,pT bf 0] (fun x:P3=> #[.agg (zaK x).toArray])
   (fun s x=>s.pl=[x]/\s.d=2) nx3 s0 (fun s=>s.pl=[]/\m<=s.j+s.d) (fun _=>True) I (mv3 w0 g bl bf f m N c B tot T):=by
 intro lp J Jx W hJI hJ hJx hM hY h0
 have G:∀ {s V V'},J s V->Below V.heap.size V V'->J s V':=fun h hb=>hJ _ _ _ h (zeH hb none)
 have SR:∀ {s V},J s V->Src3 w0 g bl bf f m N c B tot T s V:=fun h=>hI _ _ (hJI _ _ h)
 refine callsIn_of_wp Tryz.func161 rfl trivial ?_ rfl
 have S0:=zfW (n:=28) #[.func (.yield lp) #[] #[],pT bl 0,pT bf 0] (zvZ rfl)
 refine wpIn_seq (wpIn_block (wpIn_loop (fun aI VI=>Jf 28 [(0,.func (.yield lp) #[] #[]),(1,pT bl 0),(2,pT bf 0)] [] aI/\∃s,s.pl=[]/\s.d=0/\J s VI) (fun _ VI=>zp6 bl VI) ⟨S0,s0,hp0,hd0,h0⟩ ?_))
 rintro a V ⟨S,s,hp,hd,hs⟩
 obtain⟨off,hb1,hoff⟩:=(SR hs).left
 have hjm:=(SR hs).jm
 have hmN:=(SR hs).mN
 have hlen:=(SR hs).len
 refine wpIn_seq (wpIn_seq (wpIn_region_lit ?_))
 refine zaE (fun _=>trivial) S (v:= .slice (some ⟨g,off,none⟩) (m - s.j) (N - s.j)) (zap rfl (S.at 1 rfl) hb1 (Tryz.isAgg129 _) rfl) rfl rfl rfl (by decide) rfl (fun a S=>?_)
 refine zaE (fun _=>trivial) S (zbY (.inr (.inr rfl)) rfl (S.at 0 rfl)) rfl rfl rfl (by decide) rfl (fun a S=>?_)
 refine zaE (fun _=>trivial) S (zcp rfl (S.at 0 rfl) rfl) rfl rfl rfl (by decide) rfl (fun a S=>?_)
 refine wpIn_cond (t:=decide ((1:Int)<((m - s.j:Nat):Int))) (S.at 0 rfl) ?_
 replace S:=S.keep [0,1,2] rfl
 by_cases h1:1<m - s.j
 ·rw[if_pos (decide_eq_true (by omega))]
  have hoff':=hoff (by omega)
  subst hoff'
  refine wpIn_skip ?_
  refine wpIn_seq (wpIn_block (wpIn_seq ?_))
  have hj0:s.j<s.ps.length:=by omega
  have hj1:s.j+1<s.ps.length:=by omega
  have hlive:=(SR hs).live
  rw[zn9 hd hp (by omega) (by omega)]at hlive
  obtain⟨p,hpe⟩:∃p,s.ps[s.j]=p:=⟨_,rfl⟩
  obtain⟨p',hpe'⟩:∃p,s.ps[s.j+1]=p:=⟨_,rfl⟩
  rw[hpe,hpe']at hlive
  have hw1:=ztd (hlive.wt (p:=p) (by simp))
  have hw2:=ztd (hlive.wt (p:=p') (by simp))
  have hn1:=hlive.good p (by simp)
  have hn2:=hlive.good p' (by simp)
  have hm1:p∈s.ps:=by rw[<-hpe];exact List.getElem_mem _
  have hm2:p'∈s.ps:=by rw[<-hpe'];exact List.getElem_mem _
  refine zfU 9 [9,10,11,12,13,14,15,16,17] (fun i v V'=>match i with
    |0=>v= .func (.yield lp) #[] #[]
    |1=>v= .func (.func f) #[] #[]
    |2=>v= .slice (some ⟨g,3*s.j,none⟩) (m - s.j) (N - s.j)
    |3=>v= .pointer (some ⟨g,3*s.j,none⟩)
    |4=>v= .agg (zaK p).toArray
    |5=>v= .slice (some ⟨g,3*s.j,none⟩) (m - s.j) (N - s.j)
    |6=>v= .pointer (some ⟨g,3*(s.j+1),none⟩)
    |7=>v= .agg (zaK p').toArray
    |_=>QM (max p.2.1.n p.2.2.n+max p'.2.1.n p'.2.2.n+c) (op (qP p) (qP p')) v V') (fun V'=>Below V.heap.size V V') (by kernel_rfl) (by kernel_rfl) rfl (by decide) (fun t ht=>by rw[S.size];revert t;decide) zv1.drew ?_ ?_ ?_
  ·intro i v V1 V2 hf hb _
   match i,hf with
   |0,hf=>exact hf
   |1,hf=>exact hf
   |2,hf=>exact hf
   |3,hf=>exact hf
   |4,hf=>exact hf
   |5,hf=>exact hf
   |6,hf=>exact hf
   |7,hf=>exact hf
   |_+8,hf=>exact QM.keep hf hb
  ·intro i t ht a V' hC hF hd'
   have X:=S.frame hF rfl
   have hs':=SR (G hs hC)
   obtain⟨off',hb',hoff'⟩:=hs'.left
   obtain rfl:=hoff' (by omega)
   match i,ht with
   |0,ht=>cases ht;exact zeG rfl rfl rfl rfl (zao rfl (X.at 0 rfl)) zv1 hC rfl
   |1,ht=>cases ht;exact zeG rfl rfl rfl rfl (zap rfl (X.at 2 rfl) hs'.join (Tryz.isAgg128 _) rfl) zv1 hC rfl
   |2,ht=>cases ht;exact zeG rfl rfl rfl rfl (zap rfl (X.at 1 rfl) hb' (Tryz.isAgg129 _) rfl) zv1 hC rfl
   |3,ht=>cases ht;exact zeG rfl rfl rfl rfl (zeY (k:=0) rfl (hd' 2 11 rfl (by kernel_rfl)) rfl (by omega)) zv1 hC rfl
   |4,ht=>cases ht;exact zeG rfl rfl rfl rfl (zfV (k:=s.j) rfl (hd' 3 12 rfl (by kernel_rfl)) hs'.row hj0 hpe) zv1 hC rfl
   |5,ht=>cases ht;exact zeG rfl rfl rfl rfl (zap rfl (X.at 1 rfl) hb' (Tryz.isAgg129 _) rfl) zv1 hC rfl
   |6,ht=>cases ht;exact zeG rfl rfl rfl rfl (zeY (k:=1) rfl (hd' 5 14 rfl (by kernel_rfl)) rfl (by omega)) zv1 hC (by show _=_;rw[Nat.mul_add])
   |7,ht=>cases ht;exact zeG rfl rfl rfl rfl (zfV (k:=s.j+1) rfl (hd' 6 15 rfl (by kernel_rfl)) hs'.row hj1 hpe') zv1 hC rfl
   |8,ht=>
    cases ht
    exact zr3 rfl rfl rfl rfl (zn8 ⟨_,rfl⟩ (hd' 1 10 rfl (by kernel_rfl)) (hd' 4 13 rfl (by kernel_rfl)) (hd' 7 16 rfl (by kernel_rfl)) enf)
     (hJo (hT.keep hs'.below) (qm3 hn1 (hs'.oks p (List.mem_append_left _ hm1))) (qm3 hn2 (hs'.oks p' (List.mem_append_left _ hm2))) (by omega) (by omega)) (fun V2 hb=>hC.trans (hb.mono hC.size))
   |k+9,ht=>simp at ht
  ·intro a V2 hC hF hf
   have X:=S.frame hF rfl
   have f0:a.tmps.getD 9 undef= .func (.yield lp) #[] #[]:=hf 0 9 rfl
   obtain⟨x,hx,x0,xq,xK,xo⟩:=ztc (hf 8 17 rfl:QM _ _ _ V2)
   have hs2:=G hs hC
   have src2:=SR hs2
   have hsrc1:Src3 w0 g bl bf f m N c B tot T ⟨s.k,s.ps,s.j,[x],2⟩ V2:=src2.pend hd hp (by omega) xo (by
    have h3:=hlive.join (x:=x) Jn x0 xq (by unfold wt3;omega)
    simpa using h3)
   have hs3:=hM _ _ _ _ hs2 ⟨hsrc1,rfl,rfl,zhC _ _⟩
   have hy:=hY _ x V2 hs3 ⟨rfl,rfl⟩
   refine zkD X ⟨_,rfl⟩ f0 hx rfl hy rfl rfl rfl (by decide) rfl (fun e W h=>by obtain⟨b,h,-⟩:=h;exact⟨b,h⟩) ?_
   rintro b a V3 ⟨b',hb',hJ1,hJ2⟩ X
   have hbb:b=b':=by injection hb' with hb';injection hb'
   subst hbb
   refine zaE (fun _=>trivial) X (zbl rfl (X.at 0 rfl)) rfl rfl rfl (by decide) rfl (fun a X=>?_)
   refine wpIn_cond (t:= !b) (X.at 0 rfl) ?_
   cases b with
   |false=>
    refine wpIn_ret ?_
    simp only[Exit.inBlock,Exit.then]
    exact bodyPost_ret (results_none rfl _ _ _) X.defers ⟨⟨_,rfl⟩,.inr ⟨_,trivial,hJ2 rfl⟩⟩
   |true=>
    refine wpIn_skip ?_
    have hs4:=hJ1 rfl
    have src4:=SR hs4
    obtain⟨off4,hb4,hoff4⟩:=src4.left
    replace X:=X.keep [0,1,2] rfl
    refine wpIn_region_lit ?_
    refine zaE (fun _=>trivial) X (v:= .slice (some ⟨g,off4,none⟩) (m - s.j) (N - s.j)) (zap rfl (X.at 1 rfl) hb4 (Tryz.isAgg129 _) rfl) rfl rfl rfl (by decide) rfl (fun a X=>?_)
    refine zaE (fun _=>trivial) X (ztO rfl (X.at 0 rfl) (by omega)) rfl rfl rfl (by decide) rfl (fun a X=>?_)
    obtain⟨off5,ho5⟩:∃off5,(if N - s.j=2 then off4 else off4+6)=off5:=⟨_,rfl⟩
    rw[ho5]at X
    have hmv:=src4.move (off:=off5) rfl rfl (by show s.j+2<=m;omega) hgb hfb hlo (fun h=>by
     have h7:2<N - s.j:=h
     rw[if_neg (by omega),hoff4 (by show s.j<m;omega)]at ho5
     exact ho5.symm)
    have hs5:=hM _ _ _ _ hs4 ⟨hmv.1,rfl,rfl,hmv.2⟩
    obtain⟨off6,hb6,-⟩:=hmv.1.left
    refine zdh (fun _=>trivial) X (V':=V3.setCells bl 0 [.slice (some ⟨g,off5,none⟩) (m - s.j - 2) (N - s.j - 2)]) (ze3 (m:=1) rfl (X.at 3 rfl) (X.at 0 rfl) (by go_simp) rfl rfl zv0 (fun j hj=>?_)) rfl rfl rfl (fun a X=>?_)
    ·obtain rfl:j=0:=by omega
     constructor
     ·rw[cell_of_row V3 bl 0 _ _ (0,0) hb4];rfl
     ·simp[World.frozen?,hb4]
    ·refine⟨⟨X.keep [0,1,2] rfl,_,rfl,rfl,hs5⟩,?_⟩
     have e6:=zkE hb6
     have e7:=zkE hb1
     rw[e7]
     refine zv4 (Nat.le_of_eq e6) ?_
     show m - (s.j+2)<m - s.j
     omega
 ·rw[if_neg (by rw[decide_eq_true_eq];omega)]
  refine wpIn_exit ?_
  simp only[Exit.inBlock,Exit.then,if_true]
  refine wpIn_seq (wpIn_region_lit ?_)
  refine zaE (fun _=>trivial) S (v:= .slice (some ⟨g,off,none⟩) (m - s.j) (N - s.j)) (zap rfl (S.at 1 rfl) hb1 (Tryz.isAgg129 _) rfl) rfl rfl rfl (by decide) rfl (fun a S=>?_)
  refine zaE (fun _=>trivial) S (zbY (.inr (.inr rfl)) rfl (S.at 0 rfl)) rfl rfl rfl (by decide) rfl (fun a S=>?_)
  refine zaE (fun _=>trivial) S (zcp rfl (S.at 0 rfl) rfl) rfl rfl rfl (by decide) rfl (fun a S=>?_)
  refine wpIn_cond (t:=decide ((0:Int)<((m - s.j:Nat):Int))) (S.at 0 rfl) ?_
  replace S:=S.keep [0,1,2] rfl
  by_cases h2:0<m - s.j
  ·rw[if_pos (decide_eq_true (by omega))]
   have hoff':=hoff (by omega)
   subst hoff'
   have hj0:s.j<s.ps.length:=by omega
   obtain⟨p,hpe⟩:∃p,s.ps[s.j]=p:=⟨_,rfl⟩
   have hm1:p∈s.ps:=by rw[<-hpe];exact List.getElem_mem _
   have hlive:=(SR hs).live
   rw[zp5 hd hp (by omega) (by omega),hpe]at hlive
   have hsrc1:Src3 w0 g bl bf f m N c B tot T ⟨s.k,s.ps,s.j,[p],2⟩ V:=(SR hs).pend hd hp (by omega) ((SR hs).oks p (List.mem_append_left _ hm1)) (by
    rw[List.drop_of_length_le (by rw[List.length_take];omega),List.append_nil]
    exact hlive)
   have hs3:=hM _ _ _ _ hs ⟨hsrc1,rfl,rfl,zhC _ _⟩
   have hy:=hY _ p V hs3 ⟨rfl,rfl⟩
   refine wpIn_region_lit ?_
   refine zaE (fun _=>trivial) S (zao rfl (S.at 0 rfl)) rfl rfl rfl (by decide) rfl (fun a S=>?_)
   refine zaE (fun _=>trivial) S (v:= .slice (some ⟨g,3*s.j,none⟩) (m - s.j) (N - s.j)) (zap rfl (S.at 2 rfl) hb1 (Tryz.isAgg129 _) rfl) rfl rfl rfl (by decide) rfl (fun a S=>?_)
   refine zaE (fun _=>trivial) S (zeY (k:=0) rfl (S.at 0 rfl) rfl (by omega)) rfl rfl rfl (by decide) rfl (fun a S=>?_)
   refine zaE (fun _=>trivial) S (zfV (k:=s.j) rfl (S.at 0 rfl) (SR hs).row hj0 hpe) rfl rfl rfl (by decide) rfl (fun a S=>?_)
   refine zkD S ⟨_,rfl⟩ (S.at 3 rfl) (S.at 0 rfl) rfl hy rfl rfl rfl (by decide) rfl (fun e W h=>by obtain⟨b,h,-⟩:=h;exact⟨b,h⟩) ?_
   rintro b a V3 ⟨b',hb',hJ1,hJ2⟩ S
   have hbb:b=b':=by injection hb' with hb';injection hb'
   subst hbb
   refine bodyPost_end (results_none rfl _ _ _) S.defers ⟨⟨_,rfl⟩,?_⟩
   cases b with
   |false=>exact .inr ⟨_,trivial,hJ2 rfl⟩
   |true=>exact .inl ⟨_,⟨rfl,by show m<=s.j+2;omega⟩,hJ1 rfl⟩
  ·rw[if_neg (by rw[decide_eq_true_eq];omega)]
   refine wpIn_skip ?_
   exact bodyPost_end (results_none rfl _ _ _) S.defers ⟨⟨_,rfl⟩,.inl ⟨s,⟨hp,by omega⟩,hs⟩⟩
def z3:P3:=(false,⟨none,0,0,0⟩,⟨none,0,0,0⟩)
theorem zkF:(Tryz.prog.info? 96).map (fun i=>(i.zero,i.size,i.bytes))=some (some (.agg #[.bool false,.slice none 0 0,.slice none 0 0]),3,56):=by kernel_rfl
theorem zuQ (n:Nat):madeCells #[.bool false,.slice none 0 0,.slice none 0 0] (n*3)=(zbk (List.replicate n z3)).toArray:=by
 apply Array.ext_getElem?
 intro i
 rw[show(zbk (List.replicate n z3)).toArray[i]?=(zbk (List.replicate n z3))[i]? from by simp]
 by_cases h1:i<n*3
 ·have hk:i/3<(List.replicate n z3).length:=by rw[List.length_replicate];omega
  have e:=zp2 hk (i:=i%3) (by omega)
  have ei:3*(i/3)+i%3=i:=by omega
  rw[ei,List.getElem_replicate]at e
  rw[e]
  have h3:i%3<3:=Nat.mod_lt _ (by decide)
  have e3:(madeCells #[.bool false,.slice none 0 0,.slice none 0 0] (n*3))[i]?=some (#[Value.bool false,.slice none 0 0,.slice none 0 0][i%3]!):=by
   simp[madeCells,h1]
  rw[e3]
  rcases(by omega:i%3=0\/i%3=1\/i%3=2)with h|h|h <;> rw[h] <;> rfl
 ·rw[Array.getElem?_eq_none (by rw[size_madeCells];omega),List.getElem?_eq_none (by rw[zcE,List.length_replicate];omega)]
section
variable {a:Act}{V:World}{o:Oper}{t1 t2:Tmp}{n c k:Nat}
theorem zuR (ho:o.op= .makeSlice 129 (.tmp t1) (.tmp t1)) (h1:a.tmps.getD t1 undef= .int .i64 (n:Nat)) (hn:n<=1000):
  (execOp a.eval o).run Tryz.prog V= .ok (.value (.slice (some ⟨V.heap.size,0,none⟩) n n)) (V.alloc (.cells (zbk (List.replicate n z3)).toArray 96)):=by
 have e1:a.eval (.tmp t1)= .int .i64 (n:Nat):=h1
 obtain⟨i0,hi0,hz0,hz1,hz2⟩:=info_parts zkF
 have hr:=run_make V 129 96 i0 _ Tryz.underlying129 hi0 hz0 .i64 .i64 (n:Nat) (n:Nat) (by omega) (Int.le_refl _) (by rw[hz2];omega) (by omega)
 rw[hz1]at hr
 rw[<-zuQ]
 simp only[Int.toNat_natCast]at hr
 obtain⟨dst,op,ty,pos,after,guard⟩:=o
 simp only at ho
 subst ho
 unfold execOp
 simp only[e1]
 have hr':=hr
 simp only[Value.cells]at hr'
 simp[go_sem,hr']
theorem ztQ {ts:Array TypeId}{g gb sLen sCap:Nat}{ps:List P3}{x:P3}(ho:o.op= .call { callee:= .builtin .append,args:= #[.tmp t1,.tmp t2],argTypes:=ts })(hts:ts= #[129,129]) (h1:a.tmps.getD t1 undef= .slice (some ⟨g,0,none⟩) sLen sCap) (h2:a.tmps.getD t2 undef= .slice (some ⟨gb,0,none⟩) 1 1)
  (hg:V.heap[g]?=some (.cells (zbk ps).toArray 96 (0,0))) (hb:V.heap[gb]?=some (.cells (zaK x).toArray 96 (0,0))) (hs:sLen<sCap) (hk:sLen<ps.length):
  (execOp a.eval o).run Tryz.prog V= .ok (.value (.slice (some ⟨g,0,none⟩) (sLen+1) sCap)) (V.setCells g (3*sLen) (zaK x)):=by
 obtain⟨i0,hi0,hz0,hz1,hz2⟩:=info_parts zkF
 have hsrc:Go.Src Tryz.prog i0.size 129 (.slice (some ⟨gb,0,none⟩) 1 1) 1 (zaK x) V:=Go.Src.ofSlice V Tryz.underlying129 ⟨gb,0,none⟩ 1 1 (zaK x) (by rw[hz1];rfl) (fun j u hu=>by
  rw[Addr.add_lit,cell_of_row V gb (0+j) _ _ (0,0) hb,Nat.zero_add]
  simpa using hu) (fun u hu=>by
  rcases List.mem_cons.1 hu with rfl|hu
  ·rfl
  ·rcases List.mem_cons.1 hu with rfl|hu
   ·rfl
   ·rw[List.mem_singleton.1 hu];rfl)
 have hlen:=zcE ps
 have hrun:=run_append_room_src (w:=V) 129 129 o.type 96 i0 Tryz.underlying129 hi0 g 0 sLen sCap _ 1 (zaK x) hsrc (by omega)
  (fun j hj=>by
   rw[zef]at hj
   rw[hz1,cell_of_row V g _ _ _ (0,0) hg]
   simp only[List.getElem?_toArray]
   rw[List.getElem?_eq_getElem (by omega)];rfl)
  (fun j hj=>by simp[World.frozen?,hg])
 rw[hz1,Nat.zero_add,Nat.mul_comm]at hrun
 subst hts
 rw[zae]at h1 h2
 have e1:a.eval (.tmp t1)= .slice (some ⟨g,0,none⟩) sLen sCap:=by simpa[Act.eval]using h1
 have e2:a.eval (.tmp t2)= .slice (some ⟨gb,0,none⟩) 1 1:=by simpa[Act.eval]using h2
 simp[execOp,ho,resolve,invoke,builtin,e1,e2,hrun,Result.andThen]
theorem zlV {x:P3}(ho:o.op= .buildSlice 129 1 #[(0,.tmp t1)]) (h1:a.tmps.getD t1 undef= .agg (zaK x).toArray):
  (execOp a.eval o).run Tryz.prog V= .ok (.value (.slice (some ⟨V.heap.size,0,none⟩) 1 1)) (V.alloc (.cells (zaK x).toArray 96)):=by
 rw[zae]at h1
 obtain⟨dst,op,ty,pos,after,guard⟩:=o
 simp only at ho
 subst ho
 unfold zaK at h1 ⊢
 go_simp
end
theorem zjr {x:Num}{W W':World}{row:Option Nat}(h:x.ok W W.heap.size)(hg:W.grownBy W' row)(hr:∀r,row=some r->∃o:Obj,W.heap[r]?=some o/\o.isCells=false):x.ok W' W'.heap.size:=⟨(h.1.kept hg hr).more hg.size,h.2⟩
def zc:List Value:=lZ
structure JW (V0:World) (r0 g:Nat) (ps:List P3) (V:World):Prop where
 below:Below V0.heap.size V0 V
 res:V.heap[r0]?=some (.cells zc.toArray 96 (0,0))
 row:V.heap[g]?=some (.cells (zbk ps).toArray 96 (0,0))
 oks:∀p∈ps,p.2.1.oo V/\p.2.2.oo V
section
variable {V0 V V':World}{r0 g:Nat}{ps:List P3}
theorem JW.same (h:JW V0 r0 g ps V)(hb:Below V.heap.size V V'):JW V0 r0 g ps V':=
 ⟨h.below.trans (hb.mono h.below.size),(hb.block _ (Array.getElem?_eq_some_iff.1 h.res).1).trans h.res,(hb.block _ (Array.getElem?_eq_some_iff.1 h.row).1).trans h.row,fun p hp=>⟨(h.oks p hp).1.later hb,(h.oks p hp).2.later hb⟩⟩
theorem JW.sto {shs:List (TypeId×Nat)}{b:Nat}{vs:List Value}(h:JW V0 r0 g ps V)(hS:Sto shs b vs V V')(h0:V0.heap.size<=b)(h1:r0≠b)(h2:g≠b):JW V0 r0 g ps V':=
 ⟨h.below.trans (hS.below h0),(hS.other h1).trans h.res,(hS.other h2).trans h.row,fun p hp=>⟨hS.num (h.oks p hp).1,hS.num (h.oks p hp).2⟩⟩
theorem zmY {k:Nat}{x:P3}(h:V.heap[g]?=some (.cells (zbk ps).toArray 96 (0,0))) (hk:k<ps.length):Sto [(96,3*ps.length)] g (zbk (ps.set k x)) V (V.setCells g (3*k) (zaK x)):=by
 have hS:=zcM (o:=3*k) (vs:=zaK x) h (zfT ps) rfl
 rw[zn7 x hk,zcE]at hS
 exact hS
theorem JW.set {k:Nat}{x:P3}(h:JW V0 r0 g ps V)(hk:k<ps.length)(hx:x.2.1.oo V/\x.2.2.oo V)(h0:V0.heap.size<=g)(h1:r0≠g):JW V0 r0 g (ps.set k x) (V.setCells g (3*k) (zaK x)):=by
 have hS:=zmY (x:=x) h.row hk
 refine⟨h.below.trans (hS.below h0),(hS.other h1).trans h.res,hS.cells h.row,fun p hp=>?_⟩
 rcases List.mem_or_eq_of_mem_set hp with h4|h4
 ·exact⟨hS.num (h.oks p h4).1,hS.num (h.oks p h4).2⟩
 ·rw[h4];exact⟨hS.num hx.1,hS.num hx.2⟩
theorem zfk {k:Nat}{x:P3}(hk:k<ps.length):(ps.set k x).take (k+1)=ps.take k++[x]:=by
 rw[List.take_succ_eq_append_getElem (by rw[List.length_set];omega),List.take_set_of_le zv0,List.getElem_set_self]
end
structure Rng (V0:World) (r0 g bn bl bf:Nat) (f:FuncId) (m N c B:Nat) (tot:List Rat->Rat) (T:Rat) (rs:List Nat) (s:St3) (W:World):Prop where
 src:Src3 V0 g bl bf f m N c B tot T s W
 res:W.heap[r0]?=some (.cells zc.toArray 96 (0,0))
 nxt:W.heap[bn]?=some (.cells #[.slice (some ⟨g,0,none⟩) s.k N] 129 (0,0))
 mks:∀r∈rs,W.heap[r]?=some (.deferred (some []))
section
variable {V0:World}{r0 g bn bl bf:Nat}{f:FuncId}{m N c B Bd:Nat}{tot:List Rat -> Rat}{T:Rat}{rs:List Nat}
theorem Rng.own (h0:V0.heap.size<=Bd)(hr0:r0<Bd)(hg:g<Bd)(hbn:bn<Bd)(hbl:bl<Bd)(hbf:bf<Bd)(hrs:∀r∈rs,r<Bd):OwnFrom Bd (Rng V0 r0 g bn bl bf f m N c B tot T rs):=by
 intro s W W' row h hgr hr
 have hr':=fun r e=>(hr r e).2
 have k:∀ {b:Nat} {o:Obj},b<Bd->W.heap[b]?=some o->W'.heap[b]?=some o:=fun {b o} hb ho=>
  (hgr.block b (Array.getElem?_eq_some_iff.1 ho).1 (by rintro e;have:=(hr b e.symm).1;omega)).trans ho
 obtain⟨off,h1,h2⟩:=h.src.left
 exact {
   src:= {
    below:=h.src.below.grown hgr h.src.below.size (fun r e=>by have:=(hr r e).1;omega)
    left:=⟨off,k hbl h1,h2⟩,join:=k hbf h.src.join,row:=k hg h.src.row
    oks:=fun p hp=>⟨zjr (h.src.oks p hp).1 hgr hr',zjr (h.src.oks p hp).2 hgr hr'⟩
    len:=h.src.len,mN:=h.src.mN,jm:=h.src.jm,live:=h.src.live,km:=h.src.km,kj:=h.src.kj,jd:=h.src.jd }
   res:=k hr0 h.res,nxt:=k hbn h.nxt,mks:=fun r hr=>k (hrs r hr) (h.mks r hr) }
theorem Rng.move {s s':St3}{A C:World}(h:Rng V0 r0 g bn bl bf f m N c B tot T rs s A)(hm:mv3 V0 g bl bf f m N c B tot T s s' A C)(h1:r0≠bl)(h2:bn≠bl):Rng V0 r0 g bn bl bf f m N c B tot T rs s' C:=by
 obtain⟨hs,hk,hps,hg⟩:=hm
 have k:∀ {b:Nat} {o:Obj},b≠bl->A.heap[b]?=some o->C.heap[b]?=some o:=fun {b o} hb ho=>
  (hg.block b (Array.getElem?_eq_some_iff.1 ho).1 (by rintro e;injection e with e;exact hb e)).trans ho
 obtain⟨off,h3,-⟩:=h.src.left
 refine⟨hs,k h1 h.res,by rw[hk];exact k h2 h.nxt,fun r hr=>k (fun e=>?_) (h.mks r hr)⟩
 have:=h.mks r hr
 rw[e,h3]at this
 cases this
end
theorem zfX {F:Fence}{n:Nat}{P:Program}{fn:Func}{tmps:Array Value}{R:Ending->World->Prop}(C:World->Prop)(hfin:∀W,C W->LeavesIn F n P fn tmps R [] .returning W):
  ∀(rs:List Nat) (W:World),rs.Nodup->(∀r∈rs,W.heap[r]?=some (.deferred (some [])))->C W->(∀r∈rs,∀W,C W->W.heap[r]?=some (.deferred (some []))->C (W.putObj r (.deferred none)))->LeavesInM F n P fn tmps R (rs.map fun r=> { target:= .collected r,args:= #[] }) .returning W
 |[],W,_,_,hC,_=>hfin W hC
 |r::rs,W,hn,hm,hC,hk=>by
  have h1:=hm r (by simp)
  refine⟨by simp,.inl ⟨r,_,rfl,run_takeDeferred h1,?_⟩⟩
  refine zfX C hfin rs _ (List.nodup_cons.1 hn).2 (fun r' hr'=>?_) (hk r (by simp) W hC h1) (fun r' hr'=>hk r' (by simp[hr']))
  rw[World.putObj_heap_other (by rintro rfl;exact(List.nodup_cons.1 hn).1 hr')]
  exact hm r' (by simp[hr'])
def zgJ (t:Tmp)(a:Act):Nat:=match a.tmps.getD t undef with
 | .int _ i=>i.toNat
 | .slice _ n _=>n
 |_=>0
theorem ziA {t:Tmp}{a:Act}{k:Nat}(h:a.tmps.getD t undef= .int .i64 (k:Nat)):zgJ t a=k:=by unfold zgJ;rw[h];simp
theorem zgK {t:Tmp}{a:Act}{A:Option Addr}{n c:Nat}(h:a.tmps.getD t undef= .slice A n c):zgJ t a=n:=by unfold zgJ;rw[h]
theorem Jf.get {n:Nat}{ls:List (Tmp×Value)}{D:List Deferred}{a:Act}(S:Jf n ls D a){t:Tmp}{v:Value}(h:ls.find? (fun p=>p.1==t)=some (t,v)):a.tmps.getD t undef=v:=S.slots _ (List.mem_of_find?_eq_some h)
theorem zjs {W:World}{b j:Nat}{cs:Array Value}{T:TypeId}(h:W.heap[b]?=some (.cells cs T (0,0))):W.frozen? ⟨b,j,none⟩=false:=by simp[World.frozen?,h]
theorem zhD {a:Act}{V:World}{o:Oper}{t1:Tmp}{g n c k:Nat}{X:Operand}(ho:o.op= .indexAddr 129 (.tmp t1) X) (h1:a.tmps.getD t1 undef= .slice (some ⟨g,0,none⟩) n c) (h2:a.eval X= .int .i64 (k:Nat)) (hk:k<n):
  (execOp a.eval o).run Tryz.prog V= .ok (.value (.pointer (some ⟨g,3*k,none⟩))) V:=by
 have:=zeY (V:=V) ho h1 h2 hk
 rwa [Nat.zero_add]at this
theorem zp7 {c M:Nat}:∀ {l:List P3},(∀p∈l,wt3 c p<=M)->wts c l<=l.length*M
 |[],_=>Nat.zero_le _
 |p::l,h=>by
  have h1:=h p (by simp)
  have h2:=zp7 (l:=l) fun q hq=>h q (by simp[hq])
  unfold wts at h2 ⊢
  simp only[List.map_cons,List.sum_cons,List.length_cons,Nat.succ_mul]
  omega
theorem zuS (W:World):(⟨none,0,0,0⟩:Num).ok W W.heap.size:=⟨⟨by decide,fun h=>absurd h (by decide)⟩,Nat.le_refl _,by decide,Nat.zero_le _⟩
abbrev mkD (r:Nat):Deferred:= { target:= .collected r,args:= #[] }
theorem zp8 {ps:List P3}{k:Nat}(h:ps.take k≠[]):1<=k:=by
 rcases zv7 k with h0|h0
 ·rw[h0]at h;exact absurd rfl h
 ·exact h0
theorem ziB {K c:Nat}{l:List Rat}{f:FuncId}{op:Rat->Rat->Rat}{tot:List Rat->Rat}{z0:Int}{v1:Value}{V:World}(T:TT V)(h1:QRow K l v1 V)(hne:l≠[])(hK:K<=1000)(hJo:FJ f op c)(enf:∀args w,(callFunc f args).run Tryz.prog w= .ok (.enter f args) w)(Jn:Joins tot op)
  (hB:l.length*(max K 1+c)<=4000):CallsIn Fence.wide 10 Tryz.prog 86 #[v1,.int .i64 z0,.func (.func f) #[] #[]] V (zaf V (QM (l.length*(max K 1+c) - c) (tot l))):=by
 obtain⟨A,cc,pa,rfl,hR,hpa,hpk,hlc,hcm,h60⟩:=h1
 have hll:l.length=pa.length:=by rw[<-hpa,List.length_map]
 have hpos:0<pa.length:=by
  rcases zv7 pa.length with h|h
  ·rw[h]at hll
   exact absurd (List.eq_nil_of_length_eq_zero hll) hne
  ·exact h
 rw[hll]at hB ⊢
 refine callsIn_of_wp_marks Tryz.func86 rfl trivial ?_ rfl
 have S:=zfW (n:=51) #[.slice A pa.length cc,.int .i64 z0,.func (.func f) #[] #[]] (zvZ rfl)
 obtain⟨r0,hr0⟩:∃r0,V.heap.size=r0:=⟨_,rfl⟩
 obtain⟨g,hgd⟩:∃g,V.heap.size+1=g:=⟨_,rfl⟩
 refine wpIn_seq (wpIn_region_lit ?_)
 refine zaE (fun _=>trivial) S (V':=V.alloc (.cells zc.toArray 96)) (zam rfl (Tryz.zeroValue96 _) rfl) rfl rfl rfl (by decide) rfl (fun a S=>?_)
 refine wpIn_seq (wpIn_seq (wpIn_region_lit ?_))
 refine zaE (fun _=>trivial) S (zao rfl (S.at 1 rfl)) rfl rfl rfl (by decide) rfl (fun a S=>?_)
 refine zaE (fun _=>trivial) S (zbY (.inr (.inl rfl)) rfl (S.at 0 rfl)) rfl rfl rfl (by decide) rfl (fun a S=>?_)
 refine zaE (fun _=>trivial) S (zdx _ (.inl rfl) rfl (S.at 0 rfl) rfl) rfl rfl rfl (by decide) rfl (fun a S=>?_)
 refine wpIn_cond (t:=decide (((pa.length:Nat):Int)=0)) (S.at 0 rfl) ?_
 rw[if_neg (by rw[decide_eq_true_eq];omega)]
 refine wpIn_skip ?_
 refine wpIn_seq (wpIn_region_lit ?_)
 refine zaE (fun _=>trivial) S (zao rfl (S.at 4 rfl)) rfl rfl rfl (by decide) rfl (fun a S=>?_)
 refine zaE (fun _=>trivial) S (zbY (.inr (.inl rfl)) rfl (S.at 0 rfl)) rfl rfl rfl (by decide) rfl (fun a S=>?_)
 refine zaE (fun _=>trivial) S (zuR rfl (S.at 0 rfl) (by omega)) rfl rfl rfl (by decide) rfl (fun a S=>?_)
 refine zaE (fun _=>trivial) S (zak rfl (S.at 0 rfl)) rfl rfl rfl (by decide) rfl (fun a S=>?_)
 refine wpIn_seq (wpIn_seq (wpIn_region_lit ?_))
 refine zaE (fun _=>trivial) S (zao rfl (S.at 8 rfl)) rfl rfl rfl (by decide) rfl (fun a S=>?_)
 refine zaE (fun _=>trivial) S (zbY (.inr (.inl rfl)) rfl (S.at 0 rfl)) rfl rfl rfl (by decide) rfl (fun a S=>?_)
 refine zaE (fun _=>trivial) S (zkX rfl) rfl rfl rfl (by decide) rfl (fun a S=>?_)
 rw[World.size_alloc,hr0]at S
 have hJ0:JW V r0 g (List.replicate pa.length z3) ((V.alloc (.cells zc.toArray 96)).alloc (.cells (zbk (List.replicate pa.length z3)).toArray 96)):=by
  subst hr0 hgd
  refine⟨(zv1.alloc zv0 _).alloc (by simp) _,?_,?_,?_⟩
  ·exact(Below.heap_alloc _ _ _ (by simp)).trans (World.alloc_heap_new _ _)
  ·have:=World.alloc_heap_new (V.alloc (.cells zc.toArray 96)) (.cells (zbk (List.replicate pa.length z3)).toArray 96)
   rwa [World.size_alloc]at this
  ·intro p hp
   rw[List.eq_of_mem_replicate hp]
   exact⟨zuS _,zuS _⟩
 have hg0:V.heap.size<=g:=by omega
 have hrg:r0≠g:=by omega
 have er:r0+1=g:=by omega
 rw[er]at S
 generalize hV2:(V.alloc (.cells zc.toArray 96)).alloc (.cells (zbk (List.replicate pa.length z3)).toArray 96)=V2 at hJ0 ⊢
 refine wpIn_block (wpIn_loop (fun aI VI=>∃(k:Nat) (ps:List P3),k<=pa.length/\ps.length=pa.length/\Jf 51 [(23,.int .i64 (k:Nat)),(22,.int .i64 (pa.length:Nat)),(21,.slice A pa.length cc),(7,.slice (some ⟨g,0,none⟩) pa.length pa.length),(6,pT r0 0),(2,.func (.func f) #[] #[])] [] aI/\JW V r0 g ps VI/\(ps.take k).map qP=(pa.take k).map qP/\(∀p∈ps.take k,p.2.2.N≠0/\max p.2.1.n p.2.2.n<=max K 1))
  (fun aI _=>pa.length - zgJ 23 aI) ⟨0,List.replicate pa.length z3,Nat.zero_le _,List.length_replicate,S.keep [23,22,21,7,6,2] rfl,hJ0,rfl,fun p hp=>by cases hp⟩ ?_)
 clear hJ0 S a
 rintro a V3 ⟨k,ps,hk,hps,S,hJ,hm1,hm2⟩
 have hsl:=ziA (S.at 0 rfl)
 generalize zgJ 23 a=mu at hsl ⊢
 refine wpIn_seq (wpIn_region_lit ?_)
 refine zaE (fun _=>trivial) S (zc9 rfl (S.at 0 rfl) (S.at 1 rfl)) rfl rfl rfl (by decide) rfl (fun a S=>?_)
 refine wpIn_seq (wpIn_cond (t:=decide (((k:Nat):Int)<((pa.length:Nat):Int))) (S.at 0 rfl) ?_)
 replace S:Jf 51 [(23,.int .i64 (k:Nat)),(22,.int .i64 (pa.length:Nat)),(21,.slice A pa.length cc),(7,.slice (some ⟨g,0,none⟩) pa.length pa.length),(6,pT r0 0),(2,.func (.func f) #[] #[])] [] a:=S.keep [23,22,21,7,6,2] rfl
 by_cases hlt:k<pa.length
 ·rw[if_pos (decide_eq_true (by omega))]
  refine wpIn_skip ?_
  have hkp:k<ps.length:=by omega
  refine wpIn_seq (wpIn_block (wpIn_seq (wpIn_region_lit ?_)))
  obtain⟨b,x,y,hel⟩:∃b x y,pa[k]=(b,x,y):=⟨_,_,_,rfl⟩
  have hR3:QRds V3 V3.heap.size A pa:=(hR.below hJ.below).more hJ.below.size
  refine zaE (fun _=>trivial) S (zao rfl (S.at 0 rfl)) rfl rfl rfl (by decide) rfl (fun a S=>?_)
  refine zaE (fun _=>trivial) S (zgq hR3 hlt rfl (S.at 3 rfl) (S.at 1 rfl)) rfl rfl rfl (by decide) rfl (fun a S=>?_)
  refine zaE (fun _=>trivial) S (zhN hR3 hlt hel rfl (S.at 0 rfl)) rfl rfl rfl (by decide) rfl (fun a S=>?_)
  refine zaE (fun _=>trivial) S (V':=V3.alloc (.cells zc.toArray 27)) (zam rfl (Tryz.zeroValue27 _) rfl) rfl rfl rfl (by decide) rfl (fun a S=>?_)
  refine zaE (fun _=>trivial) S (zak rfl (S.at 3 rfl)) rfl rfl rfl (by decide) rfl (fun a S=>?_)
  have hbx:(V3.alloc (.cells zc.toArray 27)).heap[V3.heap.size]?=some (.cells zc.toArray 27 (0,0)):=World.alloc_heap_new _ _
  have hxy:x.ok V3 V3.heap.size/\y.ok V3 V3.heap.size:=by have:=(hR3 k hlt).2;rw[hel]at this;exact this
  have hxo4:=hxy.1.later ((Below.refl V3.heap.size V3).alloc zv0 (.cells zc.toArray 27))
  have hyo4:=hxy.2.later ((Below.refl V3.heap.size V3).alloc zv0 (.cells zc.toArray 27))
  have hJ4:=hJ.same ((Below.refl V3.heap.size V3).alloc zv0 (.cells zc.toArray 27))
  obtain⟨gx,hgx⟩:∃gx,V3.heap.size=gx:=⟨_,rfl⟩
  rw[hgx]at S hbx
  generalize V3.alloc (.cells zc.toArray 27)=V4 at hJ4 hbx hxo4 hyo4 ⊢
  have hS:=zcM (o:=0) (vs:=(aL b x y)) hbx rfl rfl
  have hg1:r0<V3.heap.size:=(Array.getElem?_eq_some_iff.1 hJ.res).1
  have hg2:g<V3.heap.size:=(Array.getElem?_eq_some_iff.1 hJ.row).1
  refine zdh (fun _=>trivial) S (V':=V4.setCells gx 0 (aL b x y)) (zaj (m:=3) rfl (S.at 1 rfl) (S.at 2 rfl) zah rfl zv0 (fun j hj=>?_)) rfl rfl rfl (fun a S=>?_)
  ·constructor
   ·rw[cell_of_row V4 gx j _ _ (0,0) hbx]
    rcases(by omega:j=0\/j=1\/j=2)with rfl|rfl|rfl <;> rfl
   ·simp[World.frozen?,hbx]
  replace S:Jf 51 [(8,.int .i64 (k:Nat)),(9,pT gx 0),(23,.int .i64 (k:Nat)),(22,.int .i64 (pa.length:Nat)),(21,.slice A pa.length cc),(7,.slice (some ⟨g,0,none⟩) pa.length pa.length),(6,pT r0 0),(2,.func (.func f) #[] #[])] [] a:=S.keep [8,9,23,22,21,7,6,2] rfl
  have hJ5:=hJ4.sto hS (by have:=hJ.below.size;omega) (by omega) (by omega)
  have hbx5:=hS.cells hbx
  have hxo5:=hS.num hxo4
  have hyo5:=hS.num hyo4
  generalize V4.setCells gx 0 (aL b x y)=V5 at hJ5 hbx5 hS hxo5 hyo5 ⊢
  refine wpIn_region_lit ?_
  refine zaE (fun _=>trivial) S (zao rfl (S.at 5 rfl)) rfl rfl rfl (by decide) rfl (fun a S=>?_)
  refine zaE (fun _=>trivial) S (zao rfl (S.at 1 rfl)) rfl rfl rfl (by decide) rfl (fun a S=>?_)
  refine zaE (fun _=>trivial) S (v:=(aG b x y)) (zad rfl (S.at 3 rfl) hbx5 Tryz.underlying27 rfl (vs:=(aL b x y)) zah rfl) rfl rfl rfl (by decide) rfl (fun a S=>?_)
  replace S:Jf 51 [(30,(aG b x y)),(29,.int .i64 (k:Nat)),(28,.slice (some ⟨g,0,none⟩) pa.length pa.length),(23,.int .i64 (k:Nat)),(22,.int .i64 (pa.length:Nat)),(21,.slice A pa.length cc),(7,.slice (some ⟨g,0,none⟩) pa.length pa.length),(6,pT r0 0),(2,.func (.func f) #[] #[])] [] a:=S.keep [30,29,28,23,22,21,7,6,2] rfl
  have hpk':=hpk _ (List.getElem_mem hlt)
  rw[hel]at hpk'
  have hqe:qOf b x.N y.N=qP pa[k]:=by rw[hel];rfl
  have hQ:Q1 K (qP pa[k]) ((aG b x y)) V5:=⟨b,x,y,rfl,hqe,hpk'.1,hpk'.2,hxo5,hyo5⟩
  refine zeX S (zf3 ⟨_,rfl⟩ (S.get rfl) (enters_of Tryz.func77 (by kernel_rfl) rfl)) (zcN hQ) rfl rfl rfl (by decide) rfl (fun v a V6 hv hb S=>?_)
  obtain⟨p,rfl,p0,pq,pK,po⟩:=ztc hv
  have hJ6:=hJ5.same hb
  refine zaE (fun _=>trivial) S (zhD rfl (S.get rfl) (S.get rfl) hlt) rfl rfl rfl (by decide) rfl (fun a S=>?_)
  refine zdh (fun _=>trivial) S (V':=V6.setCells g (3*k) (zaK p)) (zaj (m:=(zbk ps).length) rfl (S.get rfl) (S.get rfl) zaN rfl (by rw[zcE,zef];omega) (fun j hj=>?_)) rfl rfl rfl (fun a S=>?_)
  ·constructor
   ·rw[cell_of_row V6 g j _ _ (0,0) hJ6.row]
    simp only[List.getElem?_toArray]
    rw[List.getElem?_eq_getElem hj];rfl
   ·simp[World.frozen?,hJ6.row]
  have hJ7:=hJ6.set hkp po hg0 hrg
  replace S:Jf 51 [(23,.int .i64 (k:Nat)),(22,.int .i64 (pa.length:Nat)),(21,.slice A pa.length cc),(7,.slice (some ⟨g,0,none⟩) pa.length pa.length),(6,pT r0 0),(2,.func (.func f) #[] #[])] [] a:=S.keep [23,22,21,7,6,2] rfl
  refine wpIn_region_lit ?_
  refine zaE (fun _=>trivial) S (ze5 (k:=k) (m:=1) rfl (S.get rfl) rfl (by omega)) rfl rfl rfl (by decide) rfl (fun a S=>?_)
  refine zaE (fun _=>trivial) S (zao rfl (S.get rfl)) rfl rfl rfl (by decide) rfl (fun a S=>?_)
  replace S:Jf 51 [(23,.int .i64 ((k+1:Nat):Int)),(22,.int .i64 (pa.length:Nat)),(21,.slice A pa.length cc),(7,.slice (some ⟨g,0,none⟩) pa.length pa.length),(6,pT r0 0),(2,.func (.func f) #[] #[])] [] a:=S.keep [23,22,21,7,6,2] rfl
  refine⟨⟨k+1,ps.set k p,hlt,by rw[List.length_set];exact hps,S,hJ7,?_,?_⟩,?_⟩
  ·rw[zfk hkp,List.map_append,hm1,List.take_succ_eq_append_getElem hlt,List.map_append]
   simp[pq]
  ·intro p' hp'
   rw[zfk hkp]at hp'
   rcases List.mem_append.1 hp' with h|h
   ·exact hm2 p' h
   ·rw[List.mem_singleton.1 h];exact⟨p0,pK⟩
  ·have e1:=ziA (S.get rfl:a.tmps.getD 23 undef= .int .i64 ((k+1:Nat):Int))
   rw[e1,hsl]
   omega
 ·rw[if_neg (by rw[decide_eq_true_eq];omega)]
  obtain rfl:k=pa.length:=by omega
  refine wpIn_exit ?_
  simp only[Exit.inBlock,Exit.then,if_true]
  replace S:Jf 51 [(7,.slice (some ⟨g,0,none⟩) pa.length pa.length),(6,pT r0 0),(2,.func (.func f) #[] #[])] [] a:=S.keep [7,6,2] rfl
  have hL0:Live tot c (pa.length*(max K 1+c)) (tot l) (ps.take pa.length):=by
   refine⟨fun p hp=>(hm2 p hp).1,by rw[hm1,List.take_length,hpa],fun h=>?_,?_⟩
   ·have:=congrArg List.length h
    rw[List.length_take,List.length_nil]at this
    omega
   ·have:=zp7 (c:=c) (M:=max K 1+c) (l:=ps.take pa.length) fun p hp=>by have:=(hm2 p hp).2;unfold wt3;omega
    rw[List.length_take,hps,Nat.min_self]at this
    exact this
  clear hm1 hm2
  refine wpIn_seq (wpIn_block (wpIn_loop (fun aI VI=>∃(m:Nat) (ps:List P3) (rs:List Nat),1<=m/\m<=pa.length/\ps.length=pa.length/\Jf 51 [(7,.slice (some ⟨g,0,none⟩) m pa.length),(6,pT r0 0),(2,.func (.func f) #[] #[])] (rs.map mkD) aI/\JW V r0 g ps VI/\Live tot c (pa.length*(max K 1+c)) (tot l) (ps.take m)/\rs.Nodup/\∀r∈rs,VI.heap[r]?=some (.deferred (some []))/\V.heap.size<=r)
   (fun aI _=>zgJ 7 aI) ⟨pa.length,ps,[],hpos,Nat.le_refl _,hps,S,hJ,hL0,List.nodup_nil,fun r hr=>by cases hr⟩ ?_))
  clear hL0 hJ S
  rintro a V3 ⟨m,ps,rs,hm1,hmN,hps,S,hJ,hL,hnd,hmk⟩
  have hsl:=zgK (S.at 0 rfl)
  generalize zgJ 7 a=mu at hsl ⊢
  refine wpIn_seq (wpIn_seq (wpIn_region_lit ?_))
  refine zaE (fun _=>trivial) S (zao rfl (S.get rfl)) rfl rfl rfl (by decide) rfl (fun a S=>?_)
  refine zaE (fun _=>trivial) S (zbY (.inr (.inr rfl)) rfl (S.get rfl)) rfl rfl rfl (by decide) rfl (fun a S=>?_)
  refine zaE (fun _=>trivial) S (zcp rfl (S.get rfl) rfl) rfl rfl rfl (by decide) rfl (fun a S=>?_)
  refine wpIn_cond (t:=decide ((1:Int)<((m:Nat):Int))) (S.get rfl) ?_
  replace S:Jf 51 [(7,.slice (some ⟨g,0,none⟩) m pa.length),(6,pT r0 0),(2,.func (.func f) #[] #[])] (rs.map mkD) a:=S.keep [7,6,2] rfl
  by_cases h1m:1<m
  ·rw[if_pos (decide_eq_true (by omega))]
   refine wpIn_skip ?_
   refine wpIn_block (wpIn_seq (wpIn_region_lit ?_))
   have hg1:r0<V3.heap.size:=(Array.getElem?_eq_some_iff.1 hJ.res).1
   have hg2:g<V3.heap.size:=(Array.getElem?_eq_some_iff.1 hJ.row).1
   have hV3:=hJ.below.size
   obtain⟨bn,hbn⟩:∃bn,V3.heap.size=bn:=⟨_,rfl⟩
   refine zaE (fun _=>trivial) S (zao rfl (S.get rfl)) rfl rfl rfl (by decide) rfl (fun a S=>?_)
   refine zaE (fun _=>trivial) S (ztP rfl (S.get rfl)) rfl rfl rfl (by decide) rfl (fun a S=>?_)
   refine zaE (fun _=>trivial) S (V':=V3.alloc (.cells [Value.slice none 0 0].toArray 129)) (zam rfl (Tryz.zeroValue129 _) rfl) rfl rfl rfl (by decide) rfl (fun a S=>?_)
   have hbx:(V3.alloc (.cells [Value.slice none 0 0].toArray 129)).heap[V3.heap.size]?=some (.cells [Value.slice none 0 0].toArray 129 (0,0)):=World.alloc_heap_new _ _
   have hb4:=(Below.refl V3.heap.size V3).alloc zv0 (.cells [Value.slice none 0 0].toArray 129)
   have hmk4:∀r∈rs,(V3.alloc (.cells [Value.slice none 0 0].toArray 129)).heap[r]?=some (.deferred (some [])):=fun r hr=>(hb4.block r (Array.getElem?_eq_some_iff.1 (hmk r hr).1).1).trans (hmk r hr).1
   have hJ4:=hJ.same hb4
   rw[hbn]at S hbx
   generalize V3.alloc (.cells [Value.slice none 0 0].toArray 129)=V4 at hJ4 hbx hmk4 ⊢
   have hS:=zcM (o:=0) (vs:=[.slice (some ⟨g,0,none⟩) 0 pa.length]) hbx rfl rfl
   have hrs:∀r∈rs,r<bn:=fun r hr=>by rw[<-hbn];exact(Array.getElem?_eq_some_iff.1 (hmk r hr).1).1
   refine zdh (fun _=>trivial) S (V':=V4.setCells bn 0 [.slice (some ⟨g,0,none⟩) 0 pa.length]) (ze3 (m:=1) rfl (S.get rfl) (S.get rfl) (by go_simp) rfl rfl zv0 (fun j hj=>?_)) rfl rfl rfl (fun a S=>?_)
   ·obtain rfl:j=0:=by omega
    constructor
    ·rw[cell_of_row V4 bn 0 _ _ (0,0) hbx];rfl
    ·simp[World.frozen?,hbx]
   have hJ5:=hJ4.sto hS (by omega) (by omega) (by omega)
   have hbx5:=hS.cells hbx
   have hmk5:∀r∈rs,(V4.setCells bn 0 [.slice (some ⟨g,0,none⟩) 0 pa.length]).heap[r]?=some (.deferred (some [])):=fun r hr=>(hS.other (by have:=hrs r hr;omega)).trans (hmk4 r hr)
   have hz5:bn<(V4.setCells bn 0 [.slice (some ⟨g,0,none⟩) 0 pa.length]).heap.size:=(Array.getElem?_eq_some_iff.1 hbx5).1
   generalize V4.setCells bn 0 [.slice (some ⟨g,0,none⟩) 0 pa.length]=V5 at hJ5 hbx5 hmk5 hz5 hS ⊢
   replace S:Jf 51 [(10,pT bn 0),(7,.slice (some ⟨g,0,none⟩) m pa.length),(6,pT r0 0),(2,.func (.func f) #[] #[])] (rs.map mkD) a:=S.keep [10,7,6,2] rfl
   refine wpIn_seq (wpIn_seq (wpIn_region_lit ?_))
   refine zaE (fun _=>trivial) S (zao rfl (S.get rfl)) rfl rfl rfl (by decide) rfl (fun a S=>?_)
   refine zaE (fun _=>trivial) S (zao rfl (S.get rfl)) rfl rfl rfl (by decide) rfl (fun a S=>?_)
   obtain⟨bl,hbl⟩:∃bl,V5.heap.size=bl:=⟨_,rfl⟩
   have hPr:Calls Tryz.prog 123 #[.slice (some ⟨g,0,none⟩) m pa.length,.func (.func f) #[] #[]] V5 (zaf V5 fun v V'=>v= .func (.func 161) #[] #[pT bl 0,.pointer (some ⟨bl+1,0,none⟩)]/\V'.heap[bl]?=some (.cells #[.slice (some ⟨g,0,none⟩) m pa.length] 129 (0,0))/\V'.heap[bl+1]?=some (.cells #[.func (.func f) #[] #[]] 128 (0,0))):=
    (callsIn_wide.1 (zp3 (some ⟨g,0,none⟩) m pa.length f V5)).mono (by
     rintro e W ⟨rfl,rfl⟩
     subst hbl
     refine⟨_,rfl,⟨rfl,(Below.heap_alloc _ _ _ (by simp)).trans (World.alloc_heap_new _ _),?_⟩,(zv1.alloc zv0 _).alloc (by simp) _⟩
     have:=World.alloc_heap_new (V5.alloc (.cells #[.slice (some ⟨g,0,none⟩) m pa.length] 129)) (.cells #[.func (.func f) #[] #[]] 128)
     rwa [World.size_alloc]at this)
   refine zeX S (zk0 ⟨_,rfl⟩ (S.get rfl) (S.get rfl) (enters_of Tryz.func123 (by kernel_rfl) rfl)) hPr rfl rfl rfl (by decide) rfl (fun v a V6 hv hb6 S=>?_)
   obtain⟨rfl,hl6,hf6⟩:=hv
   replace S:Jf 51 [(41,.func (.func 161) #[] #[pT bl 0,.pointer (some ⟨bl+1,0,none⟩)]),(10,pT bn 0),(6,pT r0 0),(2,.func (.func f) #[] #[])] (rs.map mkD) a:=S.keep [41,10,6,2] rfl
   have hJ6:=hJ5.same hb6
   have hbx6:=(hb6.block bn hz5).trans hbx5
   have hmk6:∀r∈rs,V6.heap[r]?=some (.deferred (some [])):=fun r hr=>(hb6.block r (by have:=hrs r hr;omega)).trans (hmk5 r hr)
   have hz6:bl+1<V6.heap.size:=(Array.getElem?_eq_some_iff.1 hf6).1
   have hI0:Rng V r0 g bn bl (bl+1) f m pa.length c (pa.length*(max K 1+c)) tot (tot l) rs ⟨0,ps,0,[],0⟩ V6:=
    ⟨{
      below:=hJ6.below,left:=⟨0,hl6,fun _=>rfl⟩,join:=hf6,row:=hJ6.row,oks:=fun p hp=>hJ6.oks p (by simpa using hp),len:=hps,mN:=hmN,jm:=Nat.zero_le _
      live:=by simpa[St3.live]using hL
      km:=Nat.zero_le _,kj:=Nat.le_refl _,jd:=Nat.zero_le _ },hJ6.res,hbx6,hmk6⟩
   have hown:OwnFrom V6.heap.size (Rng V r0 g bn bl (bl+1) f m pa.length c (pa.length*(max K 1+c)) tot (tot l) rs):=Rng.own (by omega) (by omega) (by omega) (by omega) (by omega) (by omega) (fun r hr=>by have:=hrs r hr;omega)
   refine wpIn_block (zfc rfl (by omega) (gf:=161) (lb:= #[pT bl 0,.pointer (some ⟨bl+1,0,none⟩)]) (S.get rfl) trivial (enters_of Tryz.func161 (by kernel_rfl) rfl)
    (fun _=>rfl) (Rng V r0 g bn bl (bl+1) f m pa.length c (pa.length*(max K 1+c)) tot (tot l) rs) (fun _ _ _=>False) hown (fun _ _ _ _ _ h _ _=>h) hI0
    (fun s s' A C h hm=>h.move hm (by omega) (by omega)) (fun s s' A C hm=>⟨bl,by omega,hm.2.2.2⟩)
    (zjq T (by omega) (by omega) (by omega) hJo enf Jn hB rfl rfl _ (fun s W h=>h.src))
    (fun s x a W=>∃gx,Jf 51 [(11,pT gx 0),(10,pT bn 0)] [] a/\W.heap[gx]?=some (.cells (zaK x).toArray 96 (0,0))/\Rng V r0 g bn bl (bl+1) f m pa.length c (pa.length*(max K 1+c)) tot (tot l) rs s W)
    ?own2 ?assign ?body ?done ?stop)
   case own2=>
    rintro s x a _ W W' row ⟨gx,h1,h3,h4⟩ hgr hr
    refine⟨gx,h1,(hgr.block gx (Array.getElem?_eq_some_iff.1 h3).1 ?_).trans h3,hown s W W' row h4 hgr hr⟩
    rintro e
    obtain⟨-,o,ho,hc⟩:=hr gx e.symm
    rw[h3]at ho
    cases ho
    cases hc
   case stop=>
    rintro D c s W _ _ h _
    exact h.elim
   case assign=>
    rintro lp s x W hI ⟨hp,hd⟩
    have X0:=S.put (.agg (zaK x).toArray) (t:=42) (by decide) rfl
    have X:Jf 51 [(42,.agg (zaK x).toArray),(10,pT bn 0)] [] { tmps:=((#[42]:Array Tmp).zip #[.agg (zaK x).toArray]).foldl (fun t p=>t.setIfInBounds p.1 p.2) a.tmps,defers:=[] }:=by
     have e:((#[42]:Array Tmp).zip #[.agg (zaK x).toArray]).foldl (fun t p=>t.setIfInBounds p.1 p.2) a.tmps=(a.put (some 42) (.agg (zaK x).toArray)).tmps:=by simp[Act.put]
     rw[e]
     exact⟨X0.size,rfl,fun p hp=>X0.slots p (by
       rcases List.mem_cons.1 hp with rfl|hp
       ·exact List.mem_cons_self
       ·rw[List.mem_singleton.1 hp];simp[zfd])⟩
    refine wpIn_region_lit ?_
    refine zaE (F:=Fence.wide.inRound lp) (fun _=>trivial) X (V':=W.alloc (.cells zc.toArray 96)) (zam rfl (Tryz.zeroValue96 _) rfl) rfl rfl rfl (by decide) rfl (fun a X=>?_)
    have hbw:(W.alloc (.cells zc.toArray 96)).heap[W.heap.size]?=some (.cells zc.toArray 96 (0,0)):=World.alloc_heap_new _ _
    have hSw:=zcM (o:=0) (vs:=zaK x) hbw rfl rfl
    refine zdh (F:=Fence.wide.inRound lp) (fun _=>trivial) X (V':=(W.alloc (.cells zc.toArray 96)).setCells W.heap.size 0 (zaK x)) (zaj (m:=3) rfl (X.get rfl) (X.get rfl) zaN rfl zv0 (fun j hj=>?_)) rfl rfl rfl (fun a X=>?_)
    ·constructor
     · rw[cell_of_row _ W.heap.size j _ _ (0,0) hbw]
       rcases(by omega:j=0\/j=1\/j=2)with rfl|rfl|rfl <;> rfl
     · exact zjs hbw
    have hbel:Below W.heap.size W ((W.alloc (.cells zc.toArray 96)).setCells W.heap.size 0 (zaK x)):=(zv1.alloc zv0 _).trans (hSw.below zv0)
    have hgw:=zeH hbel none
    exact⟨hgw,W.heap.size,X.keep [11,10] rfl,hSw.cells hbw,hown s W _ none hI hgw (fun r e=>by cases e)⟩
   case body=>
    rintro lp ⟨k,ps',j,pl,d⟩ x a W ⟨gx,X,hbw,hI⟩ ⟨hp,hd⟩
    simp only at hp hd
    subst hp hd
    have hkm:=hI.src.km
    have hlen':ps'.length=pa.length:=hI.src.len
    simp only[List.length_singleton]at hkm
    have hkN:k<ps'.length:=by omega
    refine wpIn_block (wpIn_region_lit ?_)
    refine zaE (F:=Fence.wide.inRound lp) (fun _=>trivial) X (v:= .slice (some ⟨g,0,none⟩) k pa.length) (zap rfl (X.get rfl) hI.nxt (Tryz.isAgg129 _) rfl) rfl rfl rfl (by decide) rfl (fun a X=>?_)
    refine zaE (F:=Fence.wide.inRound lp) (fun _=>trivial) X (v:= .agg (zaK x).toArray) (zad rfl (X.get rfl) hbw Tryz.underlying96 rfl (vs:=zaK x) zaN rfl) rfl rfl rfl (by decide) rfl (fun a X=>?_)
    refine zaE (F:=Fence.wide.inRound lp) (fun _=>trivial) X (zlV rfl (X.get rfl)) rfl rfl rfl (by decide) rfl (fun a X=>?_)
    have hb1:=(Below.refl W.heap.size W).alloc zv0 (.cells (zaK x).toArray 96)
    have hgb:(W.alloc (.cells (zaK x).toArray 96)).heap[W.heap.size]?=some (.cells (zaK x).toArray 96 (0,0)):=World.alloc_heap_new _ _
    have hs1:=hI.src.same hb1
    have k1:∀ {b:Nat} {o:Obj},W.heap[b]?=some o->(W.alloc (.cells (zaK x).toArray 96)).heap[b]?=some o:=fun {b o} ho=>(hb1.block b (Array.getElem?_eq_some_iff.1 ho).1).trans ho
    have hr1:=k1 hI.res
    have hn1:=k1 hI.nxt
    have hm1':∀r∈rs,_:=fun r hr=>k1 (hI.mks r hr)
    have K1:=KeepsFrom.of_grownBy (B:=V6.heap.size) (zeH hb1 none) (fun j e=>by cases e)
    generalize W.alloc (.cells (zaK x).toArray 96)=W1 at hs1 hgb hr1 hn1 hm1' K1 ⊢
    refine zaE (F:=Fence.wide.inRound lp) (fun _=>trivial) X (ztQ rfl rfl (X.get rfl) (X.get rfl) hs1.row hgb (by omega) hkN) rfl rfl rfl (by decide) rfl (fun a X=>?_)
    have hSr:=zmY (x:=x) hs1.row hkN
    have hs2:=hs1.come (s:=⟨k,ps',j,[x],2⟩) rfl (by rw[show ps'.length=pa.length from hlen']at hSr;exact hSr) (by omega) (by omega) hg0
    have hr2:=(hSr.other hrg).trans hr1
    have hn2:=(hSr.other (k:=bn) (by omega)).trans hn1
    have hm2':∀r∈rs,_:=fun r hr=>(hSr.other (k:=r) (fun e=>by have:=hm1' r hr;rw[e,hs1.row]at this;cases this)).trans (hm1' r hr)
    have K2:=KeepsFrom.of_grownBy (B:=V6.heap.size) hSr.grown (fun j e=>by cases e;omega)
    generalize W1.setCells g (3*k) (zaK x)=W2 at hs2 hr2 hn2 hm2' K2 ⊢
    have hSn:=zcM (o:=0) (vs:=[.slice (some ⟨g,0,none⟩) (k+1) pa.length]) hn2 rfl rfl
    refine zdh (F:=Fence.wide.inRound lp) (fun _=>trivial) X (V':=W2.setCells bn 0 [.slice (some ⟨g,0,none⟩) (k+1) pa.length]) (ze3 (m:=1) rfl (X.get rfl) (X.get rfl) (by go_simp) rfl rfl zv0 (fun j hj=>?_)) rfl rfl rfl (fun a X=>?_)
    ·obtain rfl:j=0:=by omega
     constructor
     · rw[cell_of_row W2 bn 0 _ _ (0,0) hn2];rfl
     · simp[World.frozen?,hn2]
    ·refine⟨(K1.trans K2).trans (KeepsFrom.of_grownBy hSn.grown (fun j e=>by cases e;omega)),hs2.sto hSn (by omega) (by omega) (by omega) (by omega),(hSn.other (by omega)).trans hr2,hSn.cells hn2,fun r hr=>(hSn.other (fun e=>?_)).trans (hm2' r hr)⟩
     have:=hm2' r hr
     rw[e,hn2]at this
     cases this
   case done=>
    rintro D s W hD ⟨hp,hjd⟩ hI hDd
    simp only[Exit.inBlock,Exit.then]
    have X:Jf 51 [(41,.func (.func 161) #[] #[pT bl 0,.pointer (some ⟨bl+1,0,none⟩)]),(10,pT bn 0),(6,pT r0 0),(2,.func (.func f) #[] #[])] ((D::rs).map mkD) { a with defers:= { target:= .collected D,args:= #[] }::a.defers }:=⟨S.size,by simp[S.defers],S.slots⟩
    refine wpIn_region_lit ?_
    refine zaE (fun _=>trivial) X (v:= .slice (some ⟨g,0,none⟩) s.k pa.length) (zap rfl (X.get rfl) hI.nxt (Tryz.isAgg129 _) rfl) rfl rfl rfl (by decide) rfl (fun a X=>?_)
    refine zaE (fun _=>trivial) X (zak rfl (X.get rfl)) rfl rfl rfl (by decide) rfl (fun a X=>?_)
    have hl:=hI.src.live
    unfold St3.live at hl
    rw[hp,List.append_nil,List.drop_of_length_le (by rw[List.length_take];omega),List.append_nil]at hl
    have h1k:=zp8 hl.some_
    have hkj:=hI.src.kj
    have hjd':=hI.src.jd
    have hkm:=hI.src.km
    rw[hp,List.length_nil,Nat.add_zero]at hkj hkm
    refine⟨⟨s.k,s.ps,D::rs,h1k,by omega,hI.src.len,X.keep [7,6,2] rfl,⟨hI.src.below,hI.res,hI.src.row,fun p hp=>hI.src.oks p (List.mem_append_left _ hp)⟩,hl,List.nodup_cons.2 ⟨fun h=>?_,hnd⟩,fun r hr=>?_⟩,?_⟩
    ·have:=hrs D h
     omega
    ·rcases List.mem_cons.1 hr with rfl|hr
     · exact⟨hDd,by omega⟩
     · exact⟨hI.mks r hr,(hmk r hr).2⟩
    ·rw[zgK (X.get rfl:_=Value.slice (some ⟨g,0,none⟩) s.k pa.length),hsl]
     omega
  ·rw[if_neg (by rw[decide_eq_true_eq];omega)]
   obtain rfl:m=1:=by omega
   refine wpIn_exit ?_
   simp only[Exit.inBlock,Exit.then,if_true]
   have h0:0<ps.length:=by omega
   obtain⟨p,hp⟩:∃p,ps[0]=p:=⟨_,rfl⟩
   have hpm:p∈ps:=by rw[<-hp];exact List.getElem_mem _
   rw[List.take_succ_eq_append_getElem h0,List.take_zero,List.nil_append,hp]at hL
   refine wpIn_seq (wpIn_region_lit ?_)
   refine zaE (fun _=>trivial) S (zao rfl (S.get rfl)) rfl rfl rfl (by decide) rfl (fun a S=>?_)
   refine zaE (fun _=>trivial) S (zhD (k:=0) rfl (S.get rfl) rfl (by omega)) rfl rfl rfl (by decide) rfl (fun a S=>?_)
   refine zaE (fun _=>trivial) S (zfV (k:=0) rfl (S.get rfl) hJ.row h0 hp) rfl rfl rfl (by decide) rfl (fun a S=>?_)
   have hS:=zcM (o:=0) (vs:=zaK p) hJ.res rfl rfl
   refine zdh (fun _=>trivial) S (V':=V3.setCells r0 0 (zaK p)) (zaj (m:=3) rfl (S.get rfl) (S.get rfl) zaN rfl zv0 (fun j hj=>?_)) rfl rfl rfl (fun a S=>?_)
   ·constructor
    ·rw[cell_of_row V3 r0 j _ _ (0,0) hJ.res]
     rcases(by omega:j=0\/j=1\/j=2)with rfl|rfl|rfl <;> rfl
    ·simp[World.frozen?,hJ.res]
   have hres:=hS.cells hJ.res
   have hok:=hJ.oks p hpm
   refine wpIn_ret ?_
   show LeavesInM _ _ _ _ a.tmps _ a.defers _ _
   rw[S.defers]
   have hr6:a.tmps.getD 6 undef=pT r0 0:=S.get rfl
   refine zfX (fun W=>Below V.heap.size V W/\W.heap[r0]?=some (.cells (zaK p).toArray 96 (0,0))/\p.2.1.ok W W.heap.size/\p.2.2.ok W W.heap.size) ?_ rs _ hnd (fun r hr=>(hS.other (fun e=>?_)).trans (hmk r hr).1) ⟨hJ.below.trans (hS.below (by omega)),hres,hS.num hok.1,hS.num hok.2⟩ ?_
   ·rintro W ⟨h1,h2,h3,h4⟩
    refine⟨_,results_cell_row rfl a.tmps W r0 _ (zaK p).toArray (0,0) _ hr6 h2 Tryz.underlying96 rfl (by have:=zaN;simpa[zaK]using this),_,rfl,⟨p.1,p.2.1,p.2.2,rfl,⟨hL.good p (by simp),?_⟩,?_,?_,h3,h4⟩,h1⟩
    ·have:=hL.tot_
     rw[List.map_singleton,Jn.one]at this
     exact this
    ·have:=hL.wt (p:=p) (by simp);unfold wt3 at this;omega
    ·have:=hL.wt (p:=p) (by simp);unfold wt3 at this;omega
   ·have:=(hmk r hr).1
    rw[e,hJ.res]at this
    cases this
   ·rintro r hr W ⟨h1,h2,h3,h4⟩ hd
    have hgr:=grownBy_putObj' W r (.deferred none)
    have hr':∀r',some r=some r'->∃o:Obj,W.heap[r']?=some o/\o.isCells=false:=fun r' e=>by cases e;exact⟨_,hd,rfl⟩
    refine⟨h1.grown hgr h1.size (fun r' e=>by cases e;exact(hmk r hr).2),?_,zjr h3 hgr hr',zjr h4 hgr hr'⟩
    rw[World.putObj_heap_other (by rintro rfl;rw[h2]at hd;cases hd)]
    exact h2
end Go.Proofs.YtipckjmgdghkiaaGreatDoor
