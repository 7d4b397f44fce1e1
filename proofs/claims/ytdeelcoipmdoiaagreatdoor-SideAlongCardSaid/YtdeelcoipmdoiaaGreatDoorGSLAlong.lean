/- A part. -/
import Derived.Test.YtdeelcoipmdoiaaGreatDoorGSidG
set_option maxHeartbeats 4000000
set_option maxRecDepth 100000
namespace Go.Proofs.YtdeelcoipmdoiaaGreatDoor
open Go Go.RowKit
section
variable {n:Nat}{ls:List (Tmp × Value)}{w V:World}{e:List Num}{a:Act}{o:Oper}{t t1 t2:Tmp}{ops:Array Oper}{Q:Exit → Act → World → Prop}{rest:List Oper}{c1 c2 c3:Bx}{g gb N:Nat}{x:PEl}{ps r:List PEl}
theorem zl2 (S:Frm n ls [c1,c2,c3,⟨g,29,zas (ps++r)⟩] w e a V) (ho:o.op= .call { callee:= .builtin .append,args:= #[.tmp t1,.tmp t2],argTypes:= #[30,30] }) (h1:a.tmps.getD t1 undef= .slice (some ⟨g,0,none⟩) N (N+r.length)) (h2:a.tmps.getD t2 undef= .slice (some ⟨gb,0,none⟩) 1 1)
  (hN:ps.length=N) (hb:V.heap[gb]?=some (.cells (zat x).toArray 29 (0,0))) (hps:N≤1000) (hm:N+r.length≤maxLen):
  ∃(g':Nat) (r':List PEl) (V':World),(execOp a.eval o).run Tryz.prog V= .ok (.value (.slice (some ⟨g',0,none⟩) (N+1) (N+1+r'.length))) V'∧N+1+r'.length≤maxLen∧Frm n ls [c1,c2,c3,⟨g',29,zas (ps++x::r')⟩] w e a V'∧
   ((g<g'∧r=[]∧Below V.heap.size V V')∨(g'=g∧r≠[]∧r'=r.tail∧V'=V.setCells g (N*6) (zat x))):=by
 subst hN
 obtain⟨i0,hi0,hz0,hz1,hz2⟩:=info_parts zmf
 have hs:=zsV hb
 rw[←hz1]at hs
 rw[zae]at h1 h2
 have e1:a.eval (.tmp t1)= .slice (some ⟨g,0,none⟩) ps.length (ps.length+r.length):=by simpa[Act.eval]using h1
 have e2:a.eval (.tmp t2)= .slice (some ⟨gb,0,none⟩) 1 1:=by simpa[Act.eval]using h2
 have key:∀ {v':Value} {V':World},(Builtin.append_ #[30,30] o.type #[.slice (some ⟨g,0,none⟩) ps.length (ps.length+r.length),.slice (some ⟨gb,0,none⟩) 1 1]).run Tryz.prog V= .ok v' V'→(execOp a.eval o).run Tryz.prog V= .ok (.value v') V':=fun hrun=>by
  simp[execOp,ho,resolve,invoke,builtin,e1,e2,hrun,Result.andThen]
 have Sd:Frm n ls [c1,c2,c3,⟨g,29,zas (ps++r)⟩] w e a V.drew:=S.later ((Below.refl _ V).drew)
 have hbx:=S.bx 3 rfl
 cases r with
 |nil=>
  rw[List.append_nil]at hbx
  have holds:∀j u,(zas ps)[j]?=some u→V.cell? ((⟨g,0,none⟩:Addr).add j)=some u:=fun j u hu=>by
   rw[Addr.add_lit,cell_of_row V g (0+j) _ _ (0,0) hbx,Nat.zero_add]
   simpa using hu
  have hrun:=run_append_grow (P:=Tryz.prog) (w:=V) 30 o.type 29 i0 _ Tryz.underlying30 hi0 hz0 ⟨g,0,none⟩ ps.length (ps.length+0) (zas ps) (by rw[hz1,zbL]) holds ⟨gb,0,none⟩ 1 1 (zat x) (by rw[hz1];rfl) (fun j u hu=>by
   rw[Addr.add_lit,cell_of_row V gb (0+j) _ _ (0,0) hb,Nat.zero_add]
   simpa using hu) (by omega) (by omega) (growslice_fits (by omega) (by rw[hz2];omega))
  have hc:=grownCap_ge V (ps.length+1) (ps.length+0) 29
  have hc2:=grownCap_le_maxLen V (ps.length+1) (ps.length+0) 29 (by simp only[maxLen];omega)
  generalize hG:grownCap V (ps.length+1) (ps.length+0) 29=G at hc hc2 hrun
  have e6:(zas ps).toArray++(zat x).toArray++Builtin.zeroCells #[.bool false,.slice none 0 0,.slice none 0 0,.bool false,.slice none 0 0,.slice none 0 0] (G - (ps.length+1))=(zas (ps++x::List.replicate (G - (ps.length+1)) z6)).toArray:=by
   rw[zp5,zcg,show x::List.replicate (G - (ps.length+1)) z6=[x]++List.replicate (G - (ps.length+1)) z6 from rfl,zcg];simp[zas]
  simp only[Value.cells]at hrun
  rw[e6]at hrun
  refine⟨V.heap.size,List.replicate (G - (ps.length+1)) z6,_,?_,by rw[List.length_replicate];omega,(Sd.alloc 29 _ (zcy _)).reorder [0,1,2,4] rfl (by decide),.inl ⟨S.lt 3 rfl,rfl,?_⟩⟩
  ·rw[List.length_replicate,show ps.length+1+(G - (ps.length+1))=G by omega]
   exact key hrun
  ·exact((Below.refl _ V).drew).alloc zt3 _
 |cons y r=>
  have hfl:(zas (ps++y::r)).length=(ps.length+(r.length+1))*6:=by rw[zbL,List.length_append,List.length_cons]
  have hrun:=run_append_room_src (w:=V) 30 30 o.type 29 i0 Tryz.underlying30 hi0 g 0 ps.length (ps.length+(y::r).length) _ 1 (zat x) hs (by rw[List.length_cons];omega)
   (fun j hj=>by
    rw[zg2]at hj
    rw[hz1,cell_of_row V g _ _ _ (0,0) hbx,List.getElem?_toArray,List.getElem?_eq_getElem (by rw[hfl];omega)];rfl)
   (fun j hj=>zfh hbx)
  rw[hz1,Nat.zero_add]at hrun
  have hst:=Frm.stores (zat x) [c1,c2,c3,⟨g,29,zas (ps++y::r)⟩] V g 3 (ps.length*6) 29 _ S rfl (by rw[hfl,zg2];omega) rfl
  have hput:zbo (zas (ps++y::r)) (ps.length*6) (zat x)=zas (ps++x::r):=by
   rw[zh3,List.append_assoc];rfl
  rw[hput]at hst
  refine⟨g,r,_,key ?_,by rw[List.length_cons]at hm;omega,hst,.inr ⟨rfl,by simp,rfl,rfl⟩⟩
  rw[hrun,List.length_cons,show ps.length+(r.length+1)=ps.length+1+r.length by omega]
theorem zq0 {x y:PEl}(hop:o.op= .buildSlice 30 2 #[(0,.tmp t1),(1,.tmp t2)]) (h1:a.tmps.getD t1 undef= .agg (zat x).toArray) (h2:a.tmps.getD t2 undef= .agg (zat y).toArray):
  (execOp a.eval o).run Tryz.prog V= .ok (.value (.slice (some ⟨V.heap.size,0,none⟩) 2 2)) (V.alloc (.cells (zas ([x,y]++[])).toArray 29)):=by
 obtain⟨b0,x0,y0,d0,z0,w0⟩:=x
 obtain⟨b1,x1,y1,d1,z1,w1⟩:=y
 rw[zae]at h1 h2
 obtain⟨dst,op,ty,pos,after,guard⟩:=o
 simp only at hop
 subst hop
 simp only[zas,zat,List.map_cons,List.map_nil,List.flatten_cons,List.flatten_nil,List.cons_append,List.nil_append]at*
 go_simp
theorem zsw (S:Frm n ls [c1,c2,c3] w e a V){y:PEl}(hop:o.op= .buildSlice 30 2 #[(0,.tmp t1),(1,.tmp t2)]) (h1:a.tmps.getD t1 undef= .agg (zat x).toArray) (h2:a.tmps.getD t2 undef= .agg (zat y).toArray)
  (k:∀g a V',Frm n ((t,.slice (some ⟨g,0,none⟩) 2 2)::ls) [c1,c2,c3,⟨g,29,zas ([x,y]++[])⟩] w e a V'→wpList Tryz.prog ops Q rest a V')
  (hg:o.guard=none:=by exact rfl) (hd:o.dst=some t:=by exact rfl) (ht:t<n:=by decide) (hl:zhf t ls=true:=by exact rfl):wpList Tryz.prog ops Q (o::rest) a V:=
 zjL (K:=fun a' V2=>a'=a.put (some t) (.slice (some ⟨V.heap.size,0,none⟩) 2 2)∧V2=V.alloc (.cells (zas ([x,y]++[])).toArray 29)) (by simp[Oper.wp,zq0 hop h1 h2,Oper.upon,hd]) hg (by
  rintro a' V2 ⟨rfl,rfl⟩
  exact k _ _ _ ((S.alloc _ _ (zcy _)).put _ ht (zcv hl)))
theorem zq1 (S:Frm n ls [c1,c2,c3,⟨g,29,zas (ps++r)⟩] w e a V) (ho:o.op= .call { callee:= .builtin .append,args:= #[.tmp t1,.tmp t2],argTypes:= #[30,30] }) (h1:a.tmps.getD t1 undef= .slice (some ⟨g,0,none⟩) N (N+r.length)) (h2:a.tmps.getD t2 undef= .slice (some ⟨gb,0,none⟩) 1 1)
  (hN:ps.length=N) (hb:V.heap[gb]?=some (.cells (zat x).toArray 29 (0,0))) (hps:N≤1000) (hm:N+r.length≤maxLen)
  (k:∀g' r' a V',N+1+r'.length≤maxLen→Frm n ((t,.slice (some ⟨g',0,none⟩) (N+1) (N+1+r'.length))::ls) [c1,c2,c3,⟨g',29,zas (ps++x::r')⟩] w e a V'→wpList Tryz.prog ops Q rest a V')
  (hg:o.guard=none:=by exact rfl) (hd:o.dst=some t:=by exact rfl) (ht:t<n:=by decide) (hl:zhf t ls=true:=by exact rfl):wpList Tryz.prog ops Q (o::rest) a V:=by
 obtain⟨g',r',V',hr,h3,S',-⟩:=zl2 S ho h1 h2 hN hb hps hm
 exact zjL (K:=fun a' V2=>a'=a.put (some t) (.slice (some ⟨g',0,none⟩) (N+1) (N+1+r'.length))∧V2=V') (by simp[Oper.wp,hr,Oper.upon,hd]) hg (by rintro a' V2 ⟨rfl,rfl⟩;exact k _ _ _ _ h3 (S'.put _ ht (zcv hl)))
theorem zq2 {c:Nat}(ho:o.op= .slice 30 (.tmp t1) none (some (.const (.int .i64 2))) none) (h1:a.tmps.getD t1 undef= .slice (some ⟨g,0,none⟩) N c) (h:2≤c):
  (execOp a.eval o).run Tryz.prog V= .ok (.value (.slice (some ⟨g,0,none⟩) 2 c)) V:=by
 rw[zae]at h1
 obtain⟨dst,op,ty,pos,after,guard⟩:=o
 simp only at ho
 subst ho
 have h9: ¬((c:Int)<2):=by omega
 simp[execOp,h1,Instr.slice,Instr.sliceBounds,Instr.sliceBound,asIntOf,go_sem,h9]
end
theorem zsx {n:Nat}{ls:List (Tmp×Value)}{w W0:World}{e:List Num}{a0:Act}{id:Nat}{Q:Exit→Act→World→Prop}{l:List Oper}(LB:Bool→List Bx)(R:World→World→Prop)(dst:List Tmp)(fs:List (Value→World→Prop))(S0:Frm n ls (LB false) w e a0 W0)
  (hR:∀V V',Below V.heap.size V V'→R V V') (hmono:∀F∈fs,∀v V V',F v V→R V V'→F v V')
  (hst:Steps (fun i t F=>∀b a V,Frm n ls (LB b) w e a V→Kn l i dst fs a V→zcl Tryz.prog l.toArray Q i t F a V∨ ∃o v V',l.toArray[i]?=some o∧o.dst=some t∧o.guard=none∧(execOp a.eval o).run Tryz.prog V= .ok (.value v) V'∧F v V'∧R V V'∧Frm n ls (LB true) w e a V') 0 dst fs)
  (hfin:∀b a V,Frm n ls (LB b) w e a V→Kf dst fs a V→Q .normal a V)
  (hm:Tryz.prog.follows .mixedOrders=true:=by kernel_rfl) (hback:zgj .any l.toArray l.length=true:=by kernel_rfl) (hdl:dst.length=l.length:=by exact rfl) (hnd:dst.Nodup:=by decide) (hds:dst.all (· <n)=true:=by exact rfl) (hfr:zhG ls dst=true:=by exact rfl):
  (Code.region id l.toArray true).wp Tryz.prog Q a0 W0:=by
 have hinj:∀ {i j:Nat} {t:Tmp},dst[i]?=some t→dst[j]?=some t→i=j:=fun {i j t} hi hj=>(List.getElem?_inj (List.getElem?_eq_some_iff.1 hi).1 hnd).1 (hi.trans hj.symm)
 have hmk:∀i v V V',fct fs i v V→R V V'→fct fs i v V':=fun i v V V' hf hr=>by
  rcases e:fs[i]? with _|F
  ·unfold fct;rw[List.getD_eq_getElem?_getD,e];trivial
  ·rw[zdt e]at hf ⊢
   exact hmono F (List.mem_of_getElem? e) v V V' hf hr
 refine wp_region_any hm ?_
 have hu:∀k,k≤l.toArray.size→unl (Array.replicate l.toArray.size false) k=k:=by
  intro k
  induction k with
  |zero=>intro _;rfl
  |succ k ih=>
   intro hk
   simp only[unl,ih (by omega)]
   rw[getD_in (by simp at hk ⊢;omega) (getD_replicate_false _ _)]
   simp
 refine zhH (fun listed a V=>(∃b,Frm n ls (LB b) w e a V)∧∀j t',dst[j]?=some t'→listed.getD j false=true→fct fs j (a.tmps.getD t' undef) V) (by simpa using hback) ?_ ?_ l.toArray.size (Array.replicate l.toArray.size false) a0 W0.drew ⟨by simp,fun j oj _ hl=>(by rw[getD_replicate_false]at hl;cases hl),fun t ht ht'=>by omega⟩ (hu _ zt3) ⟨⟨false,S0.later ((Below.refl _ W0).drew)⟩,fun j t _ h=>(by rw[getD_replicate_false]at h;cases h)⟩
 ·rintro listed a V i hsz hi hun hwt hwt' ⟨⟨b,S⟩,hf⟩
  have hi':i<dst.length:=by rw[hdl];simpa using hi
  have hd:=List.getElem?_eq_getElem hi'
  obtain⟨F,h1,h2⟩:=hst.at hd
  rw[Nat.zero_add]at h2
  have ht:dst[i]<n:=by simpa using List.all_eq_true.1 hds dst[i] (List.getElem_mem hi')
  have grow:∀v V',F v V'→R V V'→(∃b,Frm n ls (LB b) w e a V')→(∃b,Frm n ls (LB b) w e (a.put (some dst[i]) v) V')∧∀j t',dst[j]?=some t'→(listed.setIfInBounds i true).getD j false=true→fct fs j ((a.put (some dst[i]) v).tmps.getD t' undef) V':=by
   rintro v V' hF hr ⟨b',S'⟩
   refine⟨⟨b',by rw[zc4];exact S'.size,S'.defers,fun p hp=>?_,S'.boxes,S'.env⟩,fun j t' hj hl=>?_⟩
   ·have h3:=List.all_eq_true.1 hfr p hp
    have h4:p.1≠dst[i]:=fun e2=>by
     simp at h3
     exact h3 (e2▸List.getElem_mem hi')
    rw[zbr _ _ (Ne.symm h4)];exact S'.slots p hp
   ·by_cases e2:j=i
    ·subst e2
     obtain rfl:dst[j]=t':=by rw[hd]at hj;exact Option.some.inj hj
     rw[zc5 _ _ _ (by rw[S.size];exact ht),zdt h1];exact hF
    ·rw[getD_set_ne false (Ne.symm e2)]at hl
     rw[zbr _ _ (fun e3=>e2 (hinj hj (by rw[hd,e3])))]
     exact hmk _ _ _ _ (hf j t' hj hl) hr
  rcases h2 b a V S (fun j t' hj hw=>hf j t' hj (hwt j hw))with h|⟨o,v,V',ho,hdo,hg,hr,hF,hr2,S'⟩
  ·exact wpOp_mono (fun a' V' ⟨v,e1,e2,e3,_⟩=>by subst e1;exact grow v V' e2 (hR _ _ e3) ⟨b,S.later e3⟩) h
  ·exact zgL ho hdo (zad hg) hr (grow v V' hF hr2 ⟨true,S'⟩)
 ·rintro listed a V hall ⟨⟨b,S⟩,hf⟩
  exact hfin b a V S (fun j t' hj=>hf j t' hj (hall j (by have:=(List.getElem?_eq_some_iff.1 hj).1;rw[hdl]at this;simpa using this)))
def rB (x:PEl)(r:List PEl):Bool→List PEl
 |true=>match r with
  |[]=>[]
  |_::r=>x::r
 |false=>r
theorem zpv (x:PEl)(r:List PEl)(b:Bool):(rB x r b).length=r.length:=by cases b <;> cases r <;> rfl
theorem zq3 (x:PEl)(r:List PEl)(b:Bool):(rB x r b).tail=r.tail:=by cases b <;> cases r <;> rfl
theorem zq4 {x:PEl}{r:List PEl}{b:Bool}(h:rB x r b≠[]):x::r.tail=rB x r true:=by
 cases r with
 |nil=>cases b <;> exact absurd rfl h
 |cons y r=>rfl
def Rw (g:Nat)(cs:List Value)(V V':World):Prop:=V.heap.size≤V'.heap.size∧(∀k,k<V.heap.size→k≠g→V'.heap[k]?=V.heap[k]?)∧(g<V.heap.size→V'.heap[g]?=V.heap[g]?∨V'.heap[g]?=some (.cells cs.toArray 29 (0,0)))
theorem zpw {g:Nat}{cs:List Value}(V V':World)(hb:Below V.heap.size V V'):Rw g cs V V':=⟨hb.size,fun k hk _=>hb.block k hk,fun hg=> .inl (hb.block g hg)⟩
def OneP (g:Nat)(x:PEl)(v:Value)(V:World):Prop:=∃gb:Nat,v= .slice (some ⟨gb,0,none⟩) 1 1∧V.heap[gb]?=some (.cells (zat x).toArray 29 (0,0))∧gb≠g
theorem OneP.rw {g:Nat}{x:PEl}{cs:List Value}{v:Value}{V V':World}(h:OneP g x v V)(hr:Rw g cs V V'):OneP g x v V':=by
 obtain⟨gb,h1,h2,h3⟩:=h
 exact⟨gb,h1,(hr.2.1 gb (Array.getElem?_eq_some_iff.1 h2).1 h3).trans h2,h3⟩
def App (g:Nat)(ps:List PEl)(x:PEl)(r:List PEl)(N:Nat)(v:Value)(V:World):Prop:=∃(g':Nat) (r':List PEl),v= .slice (some ⟨g',0,none⟩) (N+1) (N+1+r'.length)∧V.heap[g']?=some (.cells (zas (ps++x::r')).toArray 29 (0,0))∧(g'=g→r'=r.tail)
theorem App.rw {g N:Nat}{x:PEl}{ps r:List PEl}{v:Value}{V V':World}(h:App g ps x r N v V)(hr:Rw g (zas (ps++x::r.tail)) V V'):App g ps x r N v V':=by
 obtain⟨g',r',h1,h2,h3⟩:=h
 have hlt:=(Array.getElem?_eq_some_iff.1 h2).1
 refine⟨g',r',h1,?_,h3⟩
 by_cases e:g'=g
 ·subst e
  obtain rfl:=h3 rfl
  exact(hr.2.2 hlt).elim (fun e=>e.trans h2) id
 ·exact(hr.2.1 g' hlt e).trans h2
section
variable {n:Nat}{ls:List (Tmp × Value)}{w V:World}{e:List Num}{a:Act}{o:Oper}{t t1 t2 i:Nat}{ops:Array Oper}{Q:Exit → Act → World → Prop}{c1 c2 c3:Bx}{g N:Nat}{x:PEl}{ps r:List PEl}{b:Bool}
theorem zq5 (hop:o.op= .buildSlice 30 1 #[(0,.tmp t1)]) (h1:a.tmps.getD t1 undef= .agg (zat x).toArray) (hg:g<V.heap.size):zfD o a V (OneP g x):=by
 obtain⟨b,x,y,b',x',y'⟩:=x
 refine⟨.slice (some ⟨V.heap.size,0,none⟩) 1 1,V.alloc (.cells (zat (b,x,y,b',x',y')).toArray 29),?_,⟨V.heap.size,rfl,World.alloc_heap_new' V _,by omega⟩,zt4.alloc zt3 _⟩
 rw[zae]at h1
 obtain⟨dst,op,ty,pos,after,guard⟩:=o
 simp only at hop
 subst hop
 simp only[zat]at*
 go_simp
theorem zpx (S:Frm n ls [c1,c2,c3,⟨g,29,zas (ps++rB x r b)⟩] w e a V) (hoi:ops[i]?=some o) (h1:a.tmps.getD t1 undef= .slice (some ⟨g,0,none⟩) N (N+r.length)) (h2:OneP g x (a.tmps.getD t2 undef) V) (hN:ps.length=N) (hps:N≤1000) (hm:N+r.length≤maxLen)
  (ho:o.op= .call { callee:= .builtin .append,args:= #[.tmp t1,.tmp t2],argTypes:= #[30,30] }:=by exact rfl) (hd:o.dst=some t:=by exact rfl) (hg:o.guard=none:=by exact rfl):
  zcl Tryz.prog ops Q i t (App g ps x r N) a V∨ ∃o v V',ops[i]?=some o∧o.dst=some t∧o.guard=none∧(execOp a.eval o).run Tryz.prog V= .ok (.value v) V'∧App g ps x r N v V'∧Rw g (zas (ps++x::r.tail)) V V'∧Frm n ls [c1,c2,c3,⟨g,29,zas (ps++rB x r true)⟩] w e a V':=by
 obtain⟨gb,hv,hgb,hne⟩:=h2
 obtain⟨g',r',V',hr,h3,S',h4⟩:=zl2 S ho (by rw[zpv];exact h1) hv hN hgb hps (by rw[zpv];exact hm)
 rcases h4 with⟨h5,h6,h7⟩|⟨rfl,h5,rfl,rfl⟩
 ·exact .inl (zlV hoi hd (zad hg) hr h7 ⟨g',r',rfl,S'.bx 3 rfl,fun e=>absurd e (by omega)⟩)
 ·rw[zq3]at*
  have hbx:(V.setCells g' (N*6) (zat x)).heap[g']?=some (.cells (zas (ps++x::r.tail)).toArray 29 (0,0)):=S'.bx 3 (b:=⟨g',29,zas (ps++x::r.tail)⟩) rfl
  have hbx0:V.heap[g']?=some (.cells (zas (ps++rB x r b)).toArray 29 (0,0)):=S.bx 3 (b:=⟨g',29,zas (ps++rB x r b)⟩) rfl
  have hk:=(zcJ g' (zat x) (N*6) V _ _ hbx0).2
  have hR:Rw g' (zas (ps++x::r.tail)) V (V.setCells g' (N*6) (zat x)):=⟨Nat.le_of_eq hk.1.symm,fun k _ h=>hk.2.1 k h,fun _=> .inr hbx⟩
  have hA:App g' ps x r N (.slice (some ⟨g',0,none⟩) (N+1) (N+1+r.tail.length)) (V.setCells g' (N*6) (zat x)):=⟨g',r.tail,rfl,hbx,fun _=>rfl⟩
  rw[zq4 h5]at S'
  exact .inr ⟨o,_,_,hoi,hd,hg,hr,hA,hR,S'⟩
theorem ziN (hb:V.heap[g]?=some (.cells (zas (ps++r)).toArray 29 (0,0))) (hok:∀p∈ps,okP V p):PRds V V.heap.size (some ⟨g,0,none⟩) ps:=PRds.own (rest:=zas r) (by rw[←zcg];exact hb) (Array.getElem?_eq_some_iff.1 hb).1 hok
end
section
variable {q0 r0 q1 r1 q2 r2:Rat}{rs us:List PEl}{V V0:World}{A:Option Addr}{l:List (Bool × Num × Num)}{c g N:Nat}{p y:PEl}
theorem zl3 (hR:QRds V0 V0.heap.size A l)(hll:l.length≤100000000000000)(hb:Below V0.heap.size V0 V):GL l (.slice A l.length c) V:=⟨A,c,rfl,(hR.below hb).more hb.size,hll⟩
theorem zle {p:Bool×Num×Num}(h:p∈l):p.2.1.n+p.2.2.n≤zgN l:=by
 unfold zgN
 induction l with
 |nil=>cases h
 |cons p' l ih=>
  rw[List.map_cons,List.sum_cons]
  rcases List.mem_cons.1 h with rfl|h
  ·omega
  ·have:=ih h;omega
theorem zsy {k:Nat}{b:Bool}{x y:Num}(hR:QRds V V.heap.size A l)(hk:k<l.length)(he:l[k]=(b,x,y)):x.n+y.n≤zgN l∧x.ok V V.heap.size∧y.ok V V.heap.size:=by
 obtain⟨-,h1,h2⟩:=hR k hk
 have h3:=zle (List.getElem_mem hk)
 rw[he]at h1 h2 h3
 exact⟨h3,h1,h2⟩
def OnW (q0 r0 q1 r1:Rat)(p:PEl):Prop:=zbY 349 p∧∃t,Sm 40 t∧pv p=(q0+(q1 - q0)*t,r0+(r1 - r0)*t)
theorem ztx (h:zbY 349 p)(e:pv p=(q0,r0)):OnW q0 r0 q1 r1 p:=⟨h,0,sm0 (by decide),by rw[e];exact Prod.ext (by grind) (by grind)⟩
theorem zty (h:zbY 349 p)(e:pv p=(q1,r1)):OnW q0 r0 q1 r1 p:=⟨h,1,Sm.mono (K:=1) ⟨by decide+kernel,by decide+kernel⟩ (by decide),by rw[e];exact Prod.ext (by grind) (by grind)⟩
theorem zjY (h:OnW q0 r0 q1 r1 p)(hs:∀x∈us,OnW q0 r0 q1 r1 x):∀x∈p::us,OnW q0 r0 q1 r1 x:=List.forall_mem_cons.2 ⟨h,hs⟩
theorem zjZ (h:okP V p)(hs:∀x∈us,okP V x):∀x∈p::us,okP V x:=List.forall_mem_cons.2 ⟨h,hs⟩
theorem zpy {t:Rat}(hs:∀x∈us,OnW q0 r0 q1 r1 x)(hp:zp4 349 (q0+(q1 - q0)*t,r0+(r1 - r0)*t) p)(ht:Sm 40 t):∀x∈us++[p],OnW q0 r0 q1 r1 x:=fun x hx=>by
 rcases List.mem_append.1 hx with hx|hx
 ·exact hs x hx
 ·obtain rfl:=List.mem_singleton.1 hx
  exact⟨hp.2.2,t,ht,Prod.ext hp.1.q hp.2.1.q⟩
theorem zrK (hd:Sm 83 (q1 - q0))(hd':Sm 83 (r1 - r0))(h:∀x∈rs,OnW q0 r0 q1 r1 x):Smd 250 rs:=fun p hp q hq=>by
 obtain⟨-,s,hs,e1⟩:=h p hp
 obtain⟨-,t,ht,e2⟩:=h q hq
 rw[e1,e2]
 have e:∀x d:Rat,x+d*t - (x+d*s)=d*(t - s):=fun x d=>by grind
 simp only[e]
 exact⟨(hd.mul (ht.sub hs)).mono (by decide),(hd'.mul (ht.sub hs)).mono (by decide)⟩
theorem zsz (hd:Sm 83 (q1 - q0))(hd':Sm 83 (r1 - r0))(h:∀x∈rs,OnW q0 r0 q1 r1 x)(ey:pv y=(q2,r2))(hp:Sm 83 (q2 - q0))(hp':Sm 83 (r2 - r0)):Smd 250 (rs++[y]):=fun p hp1 q hq=>by
 have e:∀x d z s:Rat,z - (x+d*s)=z - x - d*s:=fun x d z s=>by grind
 have e2:∀x d z s:Rat,x+d*s - z= -(z - x - d*s):=fun x d z s=>by grind
 rcases List.mem_append.1 hp1 with hp1|hp1 <;> rcases List.mem_append.1 hq with hq|hq
 ·exact zrK hd hd' h p hp1 q hq
 ·obtain⟨-,s,hs,e1⟩:=h p hp1
  rw[List.mem_singleton.1 hq,e1,ey]
  simp only[e]
  exact⟨(hp.sub (hd.mul hs)).mono (by decide),(hp'.sub (hd'.mul hs)).mono (by decide)⟩
 ·obtain⟨-,s,hs,e1⟩:=h q hq
  rw[List.mem_singleton.1 hp1,e1,ey]
  simp only[e2]
  exact⟨(hp.sub (hd.mul hs)).neg.mono (by decide),(hp'.sub (hd'.mul hs)).neg.mono (by decide)⟩
 ·rw[List.mem_singleton.1 hp1,List.mem_singleton.1 hq]
  have e3:∀x:Rat,x - x=0:=fun x=>by grind
  simp only[e3]
  exact⟨sm0 (by decide),sm0 (by decide)⟩
theorem zq6 (h:∀x∈rs,OnW q0 r0 q1 r1 x):zcw (rs.map pv):=zeC (a:=q0) (a':=r0) (d:=q1 - q0) (d':=r1 - r0) fun x hx=>by
 obtain⟨y,hy,rfl⟩:=List.mem_map.1 hx
 obtain⟨-,t,-,e⟩:=h y hy
 exact⟨t,e⟩
theorem zpz (h:∀x∈rs,OnW q0 r0 q1 r1 x)(ha:(q0,r0)∈rs.map pv)(hb:(q1,r1)∈rs.map pv)(ey:pv y=(q2,r2)):zcw ((rs++[y]).map pv)↔crs q0 r0 q1 r1 q2 r2=0:=by
 rw[List.map_append,List.map_singleton,ey]
 constructor
 ·intro hA
  exact hA _ (List.mem_append_left _ ha) _ (List.mem_append_left _ hb) _ (List.mem_append_right _ (List.mem_singleton.2 rfl))
 ·intro hc
  by_cases hab:q0=q1∧r0=r1
  ·obtain⟨rfl,rfl⟩:=hab
   refine zeC (a:=q0) (a':=r0) (d:=q2 - q0) (d':=r2 - r0) fun x hx=>?_
   rcases List.mem_append.1 hx with hx|hx
   ·obtain⟨z,hz,rfl⟩:=List.mem_map.1 hx
    obtain⟨-,t,-,e⟩:=h z hz
    exact⟨0,by rw[e];exact Prod.ext (by grind) (by grind)⟩
   ·exact⟨1,by rw[List.mem_singleton.1 hx];exact Prod.ext (by grind) (by grind)⟩
  ·obtain⟨t,h1,h2⟩:=ziO hc hab
   refine zeC (a:=q0) (a':=r0) (d:=q1 - q0) (d':=r1 - r0) fun x hx=>?_
   rcases List.mem_append.1 hx with hx|hx
   ·obtain⟨z,hz,rfl⟩:=List.mem_map.1 hx
    obtain⟨-,t,-,e⟩:=h z hz
    exact⟨t,e⟩
   ·exact⟨t,by rw[List.mem_singleton.1 hx];exact Prod.ext h1 h2⟩
theorem ze0 (T:TT V)(hR:PRds V V.heap.size A rs)(hl:rs.length=N)(hN:N≤1000)(h:∀x∈rs,OnW q0 r0 q1 r1 x)(hd:Sm 83 (q1 - q0))(hd':Sm 83 (r1 - r0)):
  Calls Tryz.prog 21 #[.slice A N c] V (zal V fun v _=>v= .bool true):=by
 subst hl
 exact zrL (callsIn_wide.1 (zma T hR hN (fun p hp=>(h p hp).1) (by decide) (zrK hd hd' h))) (decide_eq_true (zq6 h))
theorem zj0 {r:List PEl}(T:TT V)(hb:V.heap[g]?=some (.cells (zas (rs++y::r)).toArray 29 (0,0))) (hok:∀p∈rs,okP V p) (hoy:okP V y) (hy:zbY 80 y) (hl:rs.length+1=N) (hN:N≤1000) (h:∀x∈rs,OnW q0 r0 q1 r1 x)
  (ha:(q0,r0)∈rs.map pv) (hb2:(q1,r1)∈rs.map pv) (ey:pv y=(q2,r2)) (hd:Sm 83 (q1 - q0)) (hd':Sm 83 (r1 - r0)) (hp:Sm 83 (q2 - q0)) (hp':Sm 83 (r2 - r0)):
  Calls Tryz.prog 21 #[.slice (some ⟨g,0,none⟩) N c] V (zal V fun v _=>v= .bool (decide (crs q0 r0 q1 r1 q2 r2=0))):=by
 have e:N=(rs++[y]).length:=by rw[List.length_append,List.length_singleton,hl]
 subst e
 have hR:=ziN (ps:=rs++[y]) (r:=r) (by rw[List.append_assoc];exact hb) (fun p hp=>(List.mem_append.1 hp).elim (hok p) (fun h=>List.mem_singleton.1 h▸hoy))
 exact zrL (callsIn_wide.1 (zma T hR hN (fun p hp=>(List.mem_append.1 hp).elim (fun hp=>(h p hp).1) (fun h=>List.mem_singleton.1 h▸⟨⟨by have:=hy.1.1;omega,by have:=hy.1.2;omega⟩,by have:=hy.2.1;omega,by have:=hy.2.2;omega⟩)) (by decide) (zsz hd hd' h ey hp hp'))) (decide_eq_decide.2 (zpz h ha hb2 ey))
end
theorem znr (b0_:Bool)(x0_ y0_:Num)(d0_:Bool)(z0_ w0_:Num)(b1_:Bool)(x1_ y1_:Num)(d1_:Bool)(z1_ w1_:Num)(b2_:Bool)(x2_ y2_:Num)(d2_:Bool)(z2_ w2_:Num)(A:Option Addr)(c:Nat)(l:List (Bool×Num×Num)){V:World}(T:TT V)(ox0:x0_.ok V V.heap.size)(oy0:y0_.ok V V.heap.size)(oz0:z0_.ok V V.heap.size)(ow0:w0_.ok V V.heap.size)(ox1:x1_.ok V V.heap.size)(oy1:y1_.ok V V.heap.size)(oz1:z1_.ok V V.heap.size)(ow1:w1_.ok V V.heap.size)(ox2:x2_.ok V V.heap.size)(oy2:y2_.ok V V.heap.size)(oz2:z2_.ok V V.heap.size)(ow2:w2_.ok V V.heap.size)(hR:QRds V V.heap.size A l)(hll:l.length≤100000000000000)(hlc:l.length≤c)(hcm:c≤maxLen)(hG:zch [(b0_,x0_,y0_,d0_,z0_,w0_),(b1_,x1_,y1_,d1_,z1_,w1_),(b2_,x2_,y2_,d2_,z2_,w2_)]=false)(hln:l.length≤10)(hG2:zdc l=false):
  Calls Tryz.prog 6 #[(aP b0_ x0_ y0_ d0_ z0_ w0_),(aP b1_ x1_ y1_ d1_ z1_ w1_),(aP b2_ x2_ y2_ d2_ z2_ w2_),.slice A l.length c] V (zal V (fun v _=>v= .bool true)):=by
 have hsz:=zpM hG
 have hkx0:x0_.n≤80:=by omega
 have hky0:y0_.n≤80:=by omega
 have hkz0:z0_.n≤80:=by omega
 have hkw0:w0_.n≤80:=by omega
 have hkx1:x1_.n≤80:=by omega
 have hky1:y1_.n≤80:=by omega
 have hkz1:z1_.n≤80:=by omega
 have hkw1:w1_.n≤80:=by omega
 have hkx2:x2_.n≤80:=by omega
 have hky2:y2_.n≤80:=by omega
 have hkz2:z2_.n≤80:=by omega
 have hkw2:w2_.n≤80:=by omega
 obtain⟨q0,hqa0⟩:∃q,qOf b0_ x0_.N y0_.N=q:=⟨_,rfl⟩
 obtain⟨r0,hra0⟩:∃q,qOf d0_ z0_.N w0_.N=q:=⟨_,rfl⟩
 obtain⟨q1,hqa1⟩:∃q,qOf b1_ x1_.N y1_.N=q:=⟨_,rfl⟩
 obtain⟨r1,hra1⟩:∃q,qOf d1_ z1_.N w1_.N=q:=⟨_,rfl⟩
 obtain⟨q2,hqa2⟩:∃q,qOf b2_ x2_.N y2_.N=q:=⟨_,rfl⟩
 obtain⟨r2,hra2⟩:∃q,qOf d2_ z2_.N w2_.N=q:=⟨_,rfl⟩
 have m0:=smq hqa0 ox0 oy0
 have m0b:=smq hra0 oz0 ow0
 have m1:=smq hqa1 ox1 oy1
 have m1b:=smq hra1 oz1 ow1
 have m2:=smq hqa2 ox2 oy2
 have m2b:=smq hra2 oz2 ow2
 have hP0:∀ {V':World},Below V.heap.size V V'→P1 80 q0 r0 ((aP b0_ x0_ y0_ d0_ z0_ w0_)) V':=fun hb=>⟨b0_,x0_,y0_,d0_,z0_,w0_,rfl,hqa0,hra0,⟨hkx0,hky0⟩,⟨hkz0,hkw0⟩,⟨ox0.later hb,oy0.later hb⟩,oz0.later hb,ow0.later hb⟩
 have hP1:∀ {V':World},Below V.heap.size V V'→P1 80 q1 r1 ((aP b1_ x1_ y1_ d1_ z1_ w1_)) V':=fun hb=>⟨b1_,x1_,y1_,d1_,z1_,w1_,rfl,hqa1,hra1,⟨hkx1,hky1⟩,⟨hkz1,hkw1⟩,⟨ox1.later hb,oy1.later hb⟩,oz1.later hb,ow1.later hb⟩
 have hP2:∀ {V':World},Below V.heap.size V V'→P1 80 q2 r2 ((aP b2_ x2_ y2_ d2_ z2_ w2_)) V':=fun hb=>⟨b2_,x2_,y2_,d2_,z2_,w2_,rfl,hqa2,hra2,⟨hkx2,hky2⟩,⟨hkz2,hkw2⟩,⟨ox2.later hb,oy2.later hb⟩,oz2.later hb,ow2.later hb⟩
 have d01:Sm 250 (q1 - q0):=(m1.sub m0).mono (by omega)
 have d01b:Sm 250 (r1 - r0):=(m1b.sub m0b).mono (by omega)
 have d02:Sm 250 (q2 - q0):=(m2.sub m0).mono (by omega)
 have d02b:Sm 250 (r2 - r0):=(m2b.sub m0b).mono (by omega)
 refine zav (e:=[x2_,y2_,z2_,w2_,x1_,y1_,z1_,w1_,x0_,y0_,z0_,w0_]) Tryz.func6 rfl Tryz.ntmps6 (zt2 rfl) [(0,(aP b0_ x0_ y0_ d0_ z0_ w0_)),(1,(aP b1_ x1_ y1_ d1_ z1_ w1_)),(2,(aP b2_ x2_ y2_ d2_ z2_ w2_)),(3,.slice A l.length c)] rfl (zaa ox2 (zaa oy2 (zaa oz2 (zaa ow2 (zaa ox1 (zaa oy1 (zaa oz1 (zaa ow1 (zaa ox0 (zaa oy0 (zaa oz0 (zaa ow0 zaN)))))))))))) (fun a S=>?_)
 refine wp_seq_k fun K1 hK1=>?_
 refine zab ?_
 refine ti S (cs:=(lP b0_ x0_ y0_ d0_ z0_ w0_)) (zaw rfl (S.at 0 rfl) rfl) (fun g1=>[⟨g1,29,(lP b0_ x0_ y0_ d0_ z0_ w0_)⟩]) fun g1 a V1 hgg1 S=>?_
 refine ti S (cs:=(lP b1_ x1_ y1_ d1_ z1_ w1_)) (zaw rfl (S.at 2 rfl) rfl) (fun g2=>[⟨g1,29,(lP b0_ x0_ y0_ d0_ z0_ w0_)⟩,⟨g2,29,(lP b1_ x1_ y1_ d1_ z1_ w1_)⟩]) fun g2 a V2 hgg2 S=>?_
 refine ti S (cs:=(lP b2_ x2_ y2_ d2_ z2_ w2_)) (zaw rfl (S.at 4 rfl) rfl) (fun g3=>[⟨g1,29,(lP b0_ x0_ y0_ d0_ z0_ w0_)⟩,⟨g2,29,(lP b1_ x1_ y1_ d1_ z1_ w1_)⟩,⟨g3,29,(lP b2_ x2_ y2_ d2_ z2_ w2_)⟩]) fun g3 a V3 hgg3 S=>?_
 refine tv S (zaq rfl) fun a S=>?_
 refine hK1 _ _ ?_
 refine wp_seq_k fun K2 hK2=>?_
 refine wp_seq_k fun K3 hK3=>?_
 refine zab ?_
 refine tv S (za9 rfl (S.at 3 rfl) (S.bx 0 rfl) rfl) fun a S=>?_
 refine tv S (za9 rfl (S.at 3 rfl) (S.bx 1 rfl) rfl) fun a S=>?_
 refine tv S (za9 rfl (S.at 3 rfl) (S.bx 2 rfl) rfl) fun a S=>?_
 refine ty S (F:=GP ([(b0_,x0_,y0_,d0_,z0_,w0_),(b1_,x1_,y1_,d1_,z1_,w1_),(b2_,x2_,y2_,d2_,z2_,w2_)])) (zek rfl (S.at 2 rfl) (S.at 1 rfl) (S.at 0 rfl) (S.num 8 rfl) (S.num 9 rfl) (S.num 10 rfl) (S.num 11 rfl) (S.num 4 rfl) (S.num 5 rfl) (S.num 6 rfl) (S.num 7 rfl) (S.num 0 rfl) (S.num 1 rfl) (S.num 2 rfl) (S.num 3 rfl)) fun v a V4 hF hb S=>?_
 obtain⟨ov1,hov1⟩:∃z,z=v:=⟨_,rfl⟩
 rw[←hov1]at hF S
 have rov1:=hF
 refine tc S (F:=(fun v _=>v= .bool false)) (rc1 Tryz.func7 (S.at 0 rfl)) (zfo rov1 hG) fun v a V5 hF hb S=>?_
 replace rov1:=rov1.keep hb
 subst hF
 refine tv S (zac rfl (S.at 0 rfl)) fun a S=>?_
 refine tvg S (S.at 0 rfl) (zac rfl (S.at 13 rfl)) fun a S=>?_
 refine tvg S (S.at 1 rfl) (zca (by decide) rfl (S.at 0 rfl)) fun a S=>?_
 refine tvg S (S.at 2 rfl) (za5 (c:=false) (zbS rfl (S.at 0 rfl) rfl) (decide_eq_false (by omega))) fun a S=>?_
 refine tv S (zaP false rfl (S.at 3 rfl) (S.at 0 rfl)) fun a S=>?_
 refine tv S (zac rfl (S.at 0 rfl)) fun a S=>?_
 refine tvg S (S.at 0 rfl) (zac rfl (S.at 18 rfl)) fun a S=>?_
 refine tcg S (S.at 1 rfl) (F:=(fun v _=>v= .bool false)) (rc1 Tryz.func8 (S.at 0 rfl)) (zl0 (zl3 hR hll S.below) hG2) fun v a V6 hF hb S=>?_
 replace rov1:=rov1.keep hb
 subst hF
 refine tv S (zaP false rfl (S.at 2 rfl) (S.at 0 rfl)) fun a S=>?_
 refine hK3 _ _ ?_
 refine wp_cond_false (S.at 0 rfl) ?_
 refine wp_skip ?_
 refine hK2 _ _ ?_
 refine wp_seq_k fun K4 hK4=>?_
 have S:=S.keep [6,5,4,3] (ls':=[(6,pT g3 0),(5,pT g2 0),(4,pT g1 0),(3,.slice A l.length c)]) rfl
 have h1:Sm 83 (q1 - q0):=(m1.sub m0).mono (by omega)
 have h1b:Sm 83 (r1 - r0):=(m1b.sub m0b).mono (by omega)
 have h2:Sm 83 (q2 - q0):=(m2.sub m0).mono (by omega)
 have h2b:Sm 83 (r2 - r0):=(m2b.sub m0b).mono (by omega)
 have hz:=(ziB hG2).2
 have hW:∀ {us:List PEl},(∀x∈us,OnW q0 r0 q1 r1 x)→∀x∈(b0_,x0_,y0_,d0_,z0_,w0_)::(b1_,x1_,y1_,d1_,z1_,w1_)::us,OnW q0 r0 q1 r1 x:=fun h=>zjY (ztx ⟨⟨zt5 hkx0 (by decide),zt5 hky0 (by decide)⟩,zt5 hkz0 (by decide),zt5 hkw0 (by decide)⟩ (Prod.ext hqa0 hra0)) (zjY (zty ⟨⟨zt5 hkx1 (by decide),zt5 hky1 (by decide)⟩,zt5 hkz1 (by decide),zt5 hkw1 (by decide)⟩ (Prod.ext hqa1 hra1)) h)
 have hO:∀ {us:List PEl} {V':World},Below V.heap.size V V'→(∀p∈us,okP V' p)→∀p∈(b0_,x0_,y0_,d0_,z0_,w0_)::(b1_,x1_,y1_,d1_,z1_,w1_)::us,okP V' p:=fun hb h=>zjZ ⟨⟨ox0.later hb,oy0.later hb⟩,oz0.later hb,ow0.later hb⟩ (zjZ ⟨⟨ox1.later hb,oy1.later hb⟩,oz1.later hb,ow1.later hb⟩ h)
 refine zab ?_
 refine tv S (za9 rfl (S.at 2 rfl) (S.bx 0 rfl) rfl) fun a S=>?_
 refine tv S (za9 rfl (S.at 2 rfl) (S.bx 1 rfl) rfl) fun a S=>?_
 refine zsw (x:=(b0_,x0_,y0_,d0_,z0_,w0_)) (y:=(b1_,x1_,y1_,d1_,z1_,w1_)) S rfl (S.at 1 rfl) (S.at 0 rfl) fun g a V7 S=>?_
 refine tv S (zag rfl (S.at 0 rfl)) fun a S=>?_
 refine hK4 _ _ ?_
 refine wp_seq_k fun K5 hK5=>?_
 refine wp_seq_k fun K6 hK6=>?_
 have S:=S.sel [0,4,5,6,7] rfl
 refine zab ?_
 refine tv S (zaq rfl) fun a S=>?_
 refine hK6 _ _ ?_
 refine wp_block ?_
 have S:=S.pick [] (fun z hz=>by cases hz)
 refine wp_loop (fun aI VI=>∃(k:Nat) (us r:List PEl) (g:Nat),(us.length=k∧k≤l.length∧(∀x∈us,OnW q0 r0 q1 r1 x)∧k+2+r.length≤maxLen)∧Frm 72 [(10,.int .i64 ((k:Nat):Int)),(9,.slice (some ⟨g,0,none⟩) (k+2) (k+2+r.length)),(6,pT g3 0),(5,pT g2 0),(4,pT g1 0),(3,.slice A l.length c)] [⟨g1,29,(lP b0_ x0_ y0_ d0_ z0_ w0_)⟩,⟨g2,29,(lP b1_ x1_ y1_ d1_ z1_ w1_)⟩,⟨g3,29,(lP b2_ x2_ y2_ d2_ z2_ w2_)⟩,⟨g,29,zas (((b0_,x0_,y0_,d0_,z0_,w0_)::(b1_,x1_,y1_,d1_,z1_,w1_)::us)++r)⟩] V (zdo us) aI VI)
  (fun aI _=>l.length - (intOf (aI.tmps.getD 10 undef)).toNat) ⟨0,[],[],g,⟨rfl,Nat.zero_le _,fun x hx=>(by cases hx),by decide⟩,S⟩ ?_
 rintro a1 V8 ⟨k,us,r,g,⟨hpl,hkl,hD,hmx⟩,S⟩
 have hm0:a1.tmps.getD 10 undef= .int .i64 ((k:Nat):Int):=S.at 0 rfl
 refine wp_seq_k fun K7 hK7=>?_
 refine wp_seq_k fun K8 hK8=>?_
 refine zab ?_
 refine tv S (zac rfl (S.at 0 rfl)) fun a S=>?_
 refine tv S (zac rfl (S.at 6 rfl)) fun a S=>?_
 refine tv S (zca (by decide) rfl (S.at 0 rfl)) fun a S=>?_
 refine tv S (zcG rfl (S.at 2 rfl) (S.at 0 rfl)) fun a S=>?_
 refine hK8 _ _ ?_
 rcases zuc (decide (((k:Nat):Int)<((l.length:Nat):Int)))with hc|hc
 ·refine wp_cond_true ((S.at 0 rfl).trans (congrArg Value.bool hc)) ?_
  have hlt:k<l.length:=by have:=of_decide_eq_true hc;omega
  refine wp_skip ?_
  refine hK7 _ _ ?_
  refine wp_seq_k fun K9 hK9=>?_
  refine wp_block ?_
  obtain⟨b,x,y,hel⟩:∃b x y,l[k]=(b,x,y):=⟨_,_,_,rfl⟩
  obtain⟨hkx,hox,hoy⟩:=zsy hR hlt hel
  obtain⟨t,ht⟩:∃q,qOf b x.N y.N=q:=⟨_,rfl⟩
  have mt:Sm 40 t:=(smq ht hox hoy).mono (by omega)
  have S:=S.sel [4,5,6,7,8,9] rfl
  refine fr 9 [35,36,37,38,39,40,41,42,43] [IsV (.slice (some ⟨g,0,none⟩) (k+2) (k+2+r.length)),IsV ((aP b0_ x0_ y0_ d0_ z0_ w0_)),IsV ((aP b1_ x1_ y1_ d1_ z1_ w1_)),IsV (.slice A l.length c),IsV (.int .i64 ((k:Nat):Int)),IsV (.pointer (some (zbh A (k*3)))),IsV ((aG b x y)),PT 349 (q0+(q1 - q0)*t) (r0+(r1 - r0)*t),PL1 349 (q0+(q1 - q0)*t) (r0+(r1 - r0)*t)] S ?_ ?_
  ·refine sc (fun _ _ S _ _=>sv rfl (zac rfl (S.at 1 rfl))) ?_
   refine sc (fun _ _ S _ _=>sv rfl (za9 rfl (S.at 4 rfl) (S.bx 0 rfl) rfl)) ?_
   refine sc (fun _ _ S _ _=>sv rfl (za9 rfl (S.at 3 rfl) (S.bx 1 rfl) rfl)) ?_
   refine sc (fun _ _ S _ _=>sv rfl (zac rfl (S.at 5 rfl))) ?_
   refine sc (fun _ _ S _ _=>sv rfl (zac rfl (S.at 0 rfl))) ?_
   refine sc (fun _ _ _ _ hd=>sv rfl (zeA hR hlt rfl (hd.v 3 rfl rfl) (hd.v 4 rfl rfl))) ?_
   refine sc (fun _ _ S _ hd=>sv rfl (zfn ((hR.below S.below).more S.below.size) hlt hel rfl (hd.v 5 rfl rfl))) ?_
   refine sc (fun _ _ S _ hd=>sl rfl (rc3 Tryz.func29 (hd.v 1 rfl rfl) (hd.v 2 rfl rfl) (hd.v 6 rfl rfl)) (ztY ((hP0 S.below).to rfl rfl (by decide)) ((hP1 S.below).to rfl rfl (by decide)) ⟨b,x,y,rfl,ht,by omega,by omega,hox.later S.below,hoy.later S.below⟩ (h1.mono (by decide)) (h1b.mono (by decide)) ((h1.mul mt).mono (by decide)) ((h1b.mul mt).mono (by decide)) ((m0.add (h1.mul mt)).mono (by omega)) ((m0b.add (h1b.mul mt)).mono (by omega)))) ?_
   refine sc (fun _ _ _ _ hd=>sy rfl (zp6 rfl rfl (hd.r 7 rfl rfl))) ?_
   exact sn
  ·intro a2 V9 S hB2 hf
   obtain⟨gb,p,hv,hg,hp,⟨o1,o2⟩,o3,o4⟩:=hf.r 8 rfl rfl
   have S:=((S.add (hf.v 0 rfl rfl)).add hv)
   have S:=(((S.know o4).know o3).know o2).know o1
   show wpList _ _ _ [_,_] _ _
   refine zq1 (ps:=(b0_,x0_,y0_,d0_,z0_,w0_)::(b1_,x1_,y1_,d1_,z1_,w1_)::us) S rfl (S.at 1 rfl) (S.at 0 rfl) (by simp[hpl]) hg (by omega) hmx fun g' r' a V10 hm2 S=>?_
   rw[show((b0_,x0_,y0_,d0_,z0_,w0_)::(b1_,x1_,y1_,d1_,z1_,w1_)::us)++p::r'=((b0_,x0_,y0_,d0_,z0_,w0_)::(b1_,x1_,y1_,d1_,z1_,w1_)::(us++[p]))++r' by simp]at S
   refine zaS S (zag rfl (S.at 0 rfl)) rfl rfl (by decide) (ls':=[(44,.slice (some ⟨g',0,none⟩) (k+2+1) (k+2+1+r'.length)),(43,.slice (some ⟨gb,0,none⟩) 1 1),(35,.slice (some ⟨g,0,none⟩) (k+2) (k+2+r.length)),(10,.int .i64 ((k:Nat):Int)),(6,pT g3 0),(5,pT g2 0),(4,pT g1 0),(3,.slice A l.length c)]) rfl (fun a S=>?_)
   refine hK9 _ _ ?_
   have S:=S.sel [0,4,5,6,7,8] rfl
   refine zab ?_
   refine tv S (zac rfl (S.at 1 rfl)) fun a S=>?_
   refine tv S (zbE (k:=k) (m:=1) rfl (S.at 0 rfl) rfl (by omega)) fun a S=>?_
   refine zaS S (v:= .int .i64 ((k+1:Nat):Int)) (zag rfl (S.at 0 rfl)) rfl rfl (by decide) (ls':=[(34,.int .i64 ((k+1:Nat):Int)),(33,.int .i64 ((k:Nat):Int)),(9,.slice (some ⟨g',0,none⟩) (k+2+1) (k+2+1+r'.length)),(6,pT g3 0),(5,pT g2 0),(4,pT g1 0),(3,.slice A l.length c)]) rfl (fun a S=>?_)
   have S:=S.sel [0,3,4,5,6,7] rfl
   refine⟨⟨k+1,us++[p],r',g',⟨by simp[hpl],hlt,zpy hD hp mt,by omega⟩,by rw[zlz];exact S⟩,?_⟩
   have hm1:=S.at 0 rfl
   rw[hm0,hm1]
   simp only[intOf];omega
 ·refine wp_cond_false ((S.at 0 rfl).trans (congrArg Value.bool hc)) ?_
  refine wp_exit ?_
  refine hK5 _ _ ?_
  have hwy:=hW hD
  have S:=S.sel [5,6,7,8] rfl
  refine wp_seq_k fun K10 hK10=>?_
  refine wp_seq_k fun K11 hK11=>?_
  refine zab ?_
  refine tv S (zac rfl (S.at 0 rfl)) fun a S=>?_
  refine tc S (F:=fun v _=>v= .bool true) (rc1 Tryz.func21 (S.at 0 rfl)) (ze0 (T.keep S.below) (ziN (S.bx 3 rfl) (hO S.below fun p hp=>zcx S.env hp)) (by simp[hpl]) (by omega) hwy h1 h1b) fun v a V11 hF hb S=>?_
  subst hF
  refine tv S (zec (b:=true) rfl (S.at 0 rfl)) fun a S=>?_
  refine tv S (zac rfl (S.at 0 rfl)) fun a S=>?_
  refine tvg S (S.at 0 rfl) (zac rfl (S.at 4 rfl)) fun a S=>?_
  refine tvg S (S.at 1 rfl) (zq2 rfl (S.at 0 rfl) (by omega)) fun a S=>?_
  refine tcg S (S.at 2 rfl) (F:=fun v _=>v= .bool true) (rc1 Tryz.func21 (S.at 0 rfl)) (ze0 (rs:=[(b0_,x0_,y0_,d0_,z0_,w0_),(b1_,x1_,y1_,d1_,z1_,w1_)]) (T.keep S.below) (ziN (r:=us++r) (S.bx 3 rfl) (hO S.below fun p hp=>by cases hp)) rfl (by decide) (hW fun x hx=>by cases hx) h1 h1b) fun v a V12 hF hb S=>?_
  subst hF
  refine tvg S (S.at 3 rfl) (zec (b:=true) rfl (S.at 0 rfl)) fun a S=>?_
  refine tv S (zaP false rfl (S.at 4 rfl) (S.at 0 rfl)) fun a S=>?_
  refine tv S (zac rfl (S.at 0 rfl)) fun a S=>?_
  refine tcg S (S.at 0 rfl) (F:=fun v _=>v= .bool true) (rcc Tryz.func21) (ze0 (rs:=[]) (T.keep S.below) (fun k hk=>by cases hk) rfl (by decide) (fun x hx=>by cases hx) h1 h1b) fun v a V13 hF hb S=>?_
  subst hF
  refine tvg S (S.at 1 rfl) (zec (b:=true) rfl (S.at 0 rfl)) fun a S=>?_
  refine tv S (zaP false rfl (S.at 2 rfl) (S.at 0 rfl)) fun a S=>?_
  refine hK11 _ _ ?_
  refine wp_cond_false (S.at 0 rfl) ?_
  refine wp_skip ?_
  refine hK10 _ _ ?_
  have S:=S.sel [13,14,15,16] rfl
  have hglt:=S.lt 3 rfl
  have hey:pv (b2_,x2_,y2_,d2_,z2_,w2_)=(q2,r2):=Prod.ext hqa2 hra2
  refine wp_seq_k fun K12 hK12=>?_
  refine zsx (fun b=>[⟨g1,29,(lP b0_ x0_ y0_ d0_ z0_ w0_)⟩,⟨g2,29,(lP b1_ x1_ y1_ d1_ z1_ w1_)⟩,⟨g3,29,(lP b2_ x2_ y2_ d2_ z2_ w2_)⟩,⟨g,29,zas (((b0_,x0_,y0_,d0_,z0_,w0_)::(b1_,x1_,y1_,d1_,z1_,w1_)::us)++rB (b2_,x2_,y2_,d2_,z2_,w2_) r b)⟩]) (Rw g (zas (((b0_,x0_,y0_,d0_,z0_,w0_)::(b1_,x1_,y1_,d1_,z1_,w1_)::us)++(b2_,x2_,y2_,d2_,z2_,w2_)::r.tail))) [58,59,60,61,62,63,64,65,66,67,68,69,70,71,8] [IsV (.slice (some ⟨g,0,none⟩) (k+2) (k+2+r.length)),IsV ((aP b2_ x2_ y2_ d2_ z2_ w2_)),OneP g (b2_,x2_,y2_,d2_,z2_,w2_),App g ((b0_,x0_,y0_,d0_,z0_,w0_)::(b1_,x1_,y1_,d1_,z1_,w1_)::us) (b2_,x2_,y2_,d2_,z2_,w2_) r (k+2),IsV (.bool (decide (crs q0 r0 q1 r1 q2 r2=0))),IsV ((aP b0_ x0_ y0_ d0_ z0_ w0_)),IsV ((aP b1_ x1_ y1_ d1_ z1_ w1_)),IsV ((aP b2_ x2_ y2_ d2_ z2_ w2_)),IsV (.int .i64 (zan (crs q0 r0 q1 r1 q2 r2) 0)),IsV (.bool (decide (crs q0 r0 q1 r1 q2 r2=0))),IsV (.bool true),IsV (.bool true),IsV (.bool true),IsV (.bool true),IsV (.bool true)] S zpw ?_ ?_ ?_
  ·intro F hF v V1 V2 h hr
   simp only[List.mem_cons,List.not_mem_nil,or_false]at hF
   rcases hF with rfl|rfl|rfl|rfl|rfl|rfl|rfl|rfl|rfl|rfl|rfl|rfl|rfl|rfl|rfl <;> first|exact h|exact h.rw hr
  ·refine sc (fun _ _ _ S _=> .inl (sv rfl (zac rfl (S.at 0 rfl)))) ?_
   refine sc (fun _ _ _ S _=> .inl (sv rfl (za9 rfl (S.at 1 rfl) (S.bx 2 rfl) rfl))) ?_
   refine sc (fun _ _ _ S hd=> .inl (sy rfl (zq5 (x:=(b2_,x2_,y2_,d2_,z2_,w2_)) rfl (hd.v 1 rfl rfl) (S.lt 3 rfl)))) ?_
   refine sc (fun _ _ _ S hd=>zpx S rfl (hd.v 0 rfl rfl) (hd.r 2 rfl rfl) (by simp[hpl]) (by omega) hmx) ?_
   refine sc (fun _ _ _ S hd=> .inl (by
    obtain⟨g',r',hv,hg',-⟩:=hd.r 3 rfl rfl
    exact sl rfl (rc1 Tryz.func21 hv) (zj0 (r:=r') (T.keep S.below) hg' (hO S.below fun p hp=>zcx S.env hp) ⟨⟨ox2.later S.below,oy2.later S.below⟩,oz2.later S.below,ow2.later S.below⟩ ⟨⟨hkx2,hky2⟩,hkz2,hkw2⟩ (by simp[hpl]) (by omega) hwy (by simp[pv,hqa0,hra0]) (by simp[pv,hqa1,hra1]) hey h1 h1b h2 h2b))) ?_
   refine sc (fun _ _ _ S _=> .inl (sv rfl (za9 rfl (S.at 3 rfl) (S.bx 0 rfl) rfl))) ?_
   refine sc (fun _ _ _ S _=> .inl (sv rfl (za9 rfl (S.at 2 rfl) (S.bx 1 rfl) rfl))) ?_
   refine sc (fun _ _ _ S _=> .inl (sv rfl (za9 rfl (S.at 1 rfl) (S.bx 2 rfl) rfl))) ?_
   refine sc (fun _ _ _ S hd=> .inl (sl rfl (rc3 Tryz.func10 (hd.v 5 rfl rfl) (hd.v 6 rfl rfl) (hd.v 7 rfl rfl)) (zdu (T.keep S.below) (hP0 S.below) (hP1 S.below) (hP2 S.below) (by omega) (by omega) (by omega) d01 d01b d02 d02b))) ?_
   refine sc (fun _ _ _ _ hd=> .inl (sv rfl (za5 (zbT _ (by decide) rfl (hd.v 8 rfl rfl) rfl) zdS))) ?_
   refine sc (fun _ _ _ _ hd=> .inl (sv rfl (za5 (zqG rfl (hd.v 4 rfl rfl) (hd.v 9 rfl rfl)) (beq_self_eq_true _)))) ?_
   refine sc (fun _ _ _ _ hd=> .inl (sv rfl (zac rfl (hd.v 10 rfl rfl)))) ?_
   refine sc (fun _ _ _ S hd=> .inl (slg rfl (hd.v 11 rfl rfl) (rc0 Tryz.func9) (zgg (T.keep S.below)))) ?_
   refine sc (fun _ _ _ _ hd=> .inl (sv rfl (zaP true rfl (hd.v 11 rfl rfl) (hd.v 12 rfl rfl)))) ?_
   refine sc (fun _ _ _ _ hd=> .inl (sv rfl (zag rfl (hd.v 13 rfl rfl)))) ?_
   exact sn
  ·intro b a3 V14 S hf
   have S:=S.add (hf.v 14 rfl rfl)
   refine hK12 _ _ ?_
   refine wp_ret ?_
   exact zaE rfl S (S.at 0 rfl) ⟨_,rfl,rfl,S.below⟩
theorem zlf (b0_:Bool)(x0_ y0_:Num)(d0_:Bool)(z0_ w0_:Num)(b1_:Bool)(x1_ y1_:Num)(d1_:Bool)(z1_ w1_:Num)(b2_:Bool)(x2_ y2_:Num)(d2_:Bool)(z2_ w2_:Num)(A:Option Addr)(c:Nat)(l:List (Bool×Num×Num)){V:World}(T:TT V)(ox0:x0_.ok V V.heap.size)(oy0:y0_.ok V V.heap.size)(oz0:z0_.ok V V.heap.size)(ow0:w0_.ok V V.heap.size)(ox1:x1_.ok V V.heap.size)(oy1:y1_.ok V V.heap.size)(oz1:z1_.ok V V.heap.size)(ow1:w1_.ok V V.heap.size)(ox2:x2_.ok V V.heap.size)(oy2:y2_.ok V V.heap.size)(oz2:z2_.ok V V.heap.size)(ow2:w2_.ok V V.heap.size)(hR:QRds V V.heap.size A l)(hll:l.length≤100000000000000)(hlc:l.length≤c)(hcm:c≤maxLen)(hG:zch [(b0_,x0_,y0_,d0_,z0_,w0_),(b1_,x1_,y1_,d1_,z1_,w1_),(b2_,x2_,y2_,d2_,z2_,w2_)]=true):
  Calls Tryz.prog 6 #[(aP b0_ x0_ y0_ d0_ z0_ w0_),(aP b1_ x1_ y1_ d1_ z1_ w1_),(aP b2_ x2_ y2_ d2_ z2_ w2_),.slice A l.length c] V (zal V (fun v _=>v= .bool true)):=by
 obtain⟨q0,hqa0⟩:∃q,qOf b0_ x0_.N y0_.N=q:=⟨_,rfl⟩
 obtain⟨r0,hra0⟩:∃q,qOf d0_ z0_.N w0_.N=q:=⟨_,rfl⟩
 obtain⟨q1,hqa1⟩:∃q,qOf b1_ x1_.N y1_.N=q:=⟨_,rfl⟩
 obtain⟨r1,hra1⟩:∃q,qOf d1_ z1_.N w1_.N=q:=⟨_,rfl⟩
 obtain⟨q2,hqa2⟩:∃q,qOf b2_ x2_.N y2_.N=q:=⟨_,rfl⟩
 obtain⟨r2,hra2⟩:∃q,qOf d2_ z2_.N w2_.N=q:=⟨_,rfl⟩
 refine zav (e:=[x2_,y2_,z2_,w2_,x1_,y1_,z1_,w1_,x0_,y0_,z0_,w0_]) Tryz.func6 rfl Tryz.ntmps6 (zt2 rfl) [(0,(aP b0_ x0_ y0_ d0_ z0_ w0_)),(1,(aP b1_ x1_ y1_ d1_ z1_ w1_)),(2,(aP b2_ x2_ y2_ d2_ z2_ w2_)),(3,.slice A l.length c)] rfl (zaa ox2 (zaa oy2 (zaa oz2 (zaa ow2 (zaa ox1 (zaa oy1 (zaa oz1 (zaa ow1 (zaa ox0 (zaa oy0 (zaa oz0 (zaa ow0 zaN)))))))))))) (fun a S=>?_)
 refine wp_seq_k fun K1 hK1=>?_
 refine zab ?_
 refine ti S (cs:=(lP b0_ x0_ y0_ d0_ z0_ w0_)) (zaw rfl (S.at 0 rfl) rfl) (fun g1=>[⟨g1,29,(lP b0_ x0_ y0_ d0_ z0_ w0_)⟩]) fun g1 a V1 hgg1 S=>?_
 refine ti S (cs:=(lP b1_ x1_ y1_ d1_ z1_ w1_)) (zaw rfl (S.at 2 rfl) rfl) (fun g2=>[⟨g1,29,(lP b0_ x0_ y0_ d0_ z0_ w0_)⟩,⟨g2,29,(lP b1_ x1_ y1_ d1_ z1_ w1_)⟩]) fun g2 a V2 hgg2 S=>?_
 refine ti S (cs:=(lP b2_ x2_ y2_ d2_ z2_ w2_)) (zaw rfl (S.at 4 rfl) rfl) (fun g3=>[⟨g1,29,(lP b0_ x0_ y0_ d0_ z0_ w0_)⟩,⟨g2,29,(lP b1_ x1_ y1_ d1_ z1_ w1_)⟩,⟨g3,29,(lP b2_ x2_ y2_ d2_ z2_ w2_)⟩]) fun g3 a V3 hgg3 S=>?_
 refine tv S (zaq rfl) fun a S=>?_
 refine hK1 _ _ ?_
 refine wp_seq_k fun K2 hK2=>?_
 refine wp_seq_k fun K3 hK3=>?_
 refine zab ?_
 refine tv S (za9 rfl (S.at 3 rfl) (S.bx 0 rfl) rfl) fun a S=>?_
 refine tv S (za9 rfl (S.at 3 rfl) (S.bx 1 rfl) rfl) fun a S=>?_
 refine tv S (za9 rfl (S.at 3 rfl) (S.bx 2 rfl) rfl) fun a S=>?_
 refine ty S (F:=GP ([(b0_,x0_,y0_,d0_,z0_,w0_),(b1_,x1_,y1_,d1_,z1_,w1_),(b2_,x2_,y2_,d2_,z2_,w2_)])) (zek rfl (S.at 2 rfl) (S.at 1 rfl) (S.at 0 rfl) (S.num 8 rfl) (S.num 9 rfl) (S.num 10 rfl) (S.num 11 rfl) (S.num 4 rfl) (S.num 5 rfl) (S.num 6 rfl) (S.num 7 rfl) (S.num 0 rfl) (S.num 1 rfl) (S.num 2 rfl) (S.num 3 rfl)) fun v a V4 hF hb S=>?_
 obtain⟨ov1,hov1⟩:∃z,z=v:=⟨_,rfl⟩
 rw[←hov1]at hF S
 have rov1:=hF
 refine tc S (F:=(fun v _=>v= .bool true)) (rc1 Tryz.func7 (S.at 0 rfl)) (zfo rov1 hG) fun v a V5 hF hb S=>?_
 replace rov1:=rov1.keep hb
 subst hF
 refine tv S (zac rfl (S.at 0 rfl)) fun a S=>?_
 refine tk S (S.at 0 rfl) fun a S=>?_
 refine tk S (S.at 1 rfl) fun a S=>?_
 refine tk S (S.at 2 rfl) fun a S=>?_
 refine tv S (zaP true rfl (S.at 3 rfl) rfl) fun a S=>?_
 refine tv S (zac rfl (S.at 0 rfl)) fun a S=>?_
 refine tk S (S.at 0 rfl) fun a S=>?_
 refine tk S (S.at 1 rfl) fun a S=>?_
 refine tv S (zaP true rfl (S.at 2 rfl) rfl) fun a S=>?_
 refine hK3 _ _ ?_
 refine wp_cond_true (S.at 0 rfl) ?_
 refine wp_seq_k fun K4 hK4=>?_
 have S:=S.keep [8] (ls':=[(8,.bool false)]) rfl
 refine zab ?_
 refine tc S (F:=(fun v _=>v= .bool true)) (rc0 Tryz.func9) (zgg (T.keep S.below)) fun v a V6 hF hb S=>?_
 subst hF
 refine zaS S (v:= .bool true) (zag rfl (S.at 0 rfl)) rfl rfl (by decide) (ls':=[(25,.bool true)]) rfl (fun a S=>?_)
 refine hK4 _ _ ?_
 refine wp_ret ?_
 exact zaE rfl S (S.at 0 rfl) ⟨_,rfl,rfl,S.below⟩
theorem zj1 (b0_:Bool)(x0_ y0_:Num)(d0_:Bool)(z0_ w0_:Num)(b1_:Bool)(x1_ y1_:Num)(d1_:Bool)(z1_ w1_:Num)(b2_:Bool)(x2_ y2_:Num)(d2_:Bool)(z2_ w2_:Num)(A:Option Addr)(c:Nat)(l:List (Bool×Num×Num)){V:World}(T:TT V)(ox0:x0_.ok V V.heap.size)(oy0:y0_.ok V V.heap.size)(oz0:z0_.ok V V.heap.size)(ow0:w0_.ok V V.heap.size)(ox1:x1_.ok V V.heap.size)(oy1:y1_.ok V V.heap.size)(oz1:z1_.ok V V.heap.size)(ow1:w1_.ok V V.heap.size)(ox2:x2_.ok V V.heap.size)(oy2:y2_.ok V V.heap.size)(oz2:z2_.ok V V.heap.size)(ow2:w2_.ok V V.heap.size)(hR:QRds V V.heap.size A l)(hll:l.length≤100000000000000)(hlc:l.length≤c)(hcm:c≤maxLen)(hG:zch [(b0_,x0_,y0_,d0_,z0_,w0_),(b1_,x1_,y1_,d1_,z1_,w1_),(b2_,x2_,y2_,d2_,z2_,w2_)]=false)(hln:10<l.length):
  Calls Tryz.prog 6 #[(aP b0_ x0_ y0_ d0_ z0_ w0_),(aP b1_ x1_ y1_ d1_ z1_ w1_),(aP b2_ x2_ y2_ d2_ z2_ w2_),.slice A l.length c] V (zal V (fun v _=>v= .bool true)):=by
 obtain⟨q0,hqa0⟩:∃q,qOf b0_ x0_.N y0_.N=q:=⟨_,rfl⟩
 obtain⟨r0,hra0⟩:∃q,qOf d0_ z0_.N w0_.N=q:=⟨_,rfl⟩
 obtain⟨q1,hqa1⟩:∃q,qOf b1_ x1_.N y1_.N=q:=⟨_,rfl⟩
 obtain⟨r1,hra1⟩:∃q,qOf d1_ z1_.N w1_.N=q:=⟨_,rfl⟩
 obtain⟨q2,hqa2⟩:∃q,qOf b2_ x2_.N y2_.N=q:=⟨_,rfl⟩
 obtain⟨r2,hra2⟩:∃q,qOf d2_ z2_.N w2_.N=q:=⟨_,rfl⟩
 refine zav (e:=[x2_,y2_,z2_,w2_,x1_,y1_,z1_,w1_,x0_,y0_,z0_,w0_]) Tryz.func6 rfl Tryz.ntmps6 (zt2 rfl) [(0,(aP b0_ x0_ y0_ d0_ z0_ w0_)),(1,(aP b1_ x1_ y1_ d1_ z1_ w1_)),(2,(aP b2_ x2_ y2_ d2_ z2_ w2_)),(3,.slice A l.length c)] rfl (zaa ox2 (zaa oy2 (zaa oz2 (zaa ow2 (zaa ox1 (zaa oy1 (zaa oz1 (zaa ow1 (zaa ox0 (zaa oy0 (zaa oz0 (zaa ow0 zaN)))))))))))) (fun a S=>?_)
 refine wp_seq_k fun K1 hK1=>?_
 refine zab ?_
 refine ti S (cs:=(lP b0_ x0_ y0_ d0_ z0_ w0_)) (zaw rfl (S.at 0 rfl) rfl) (fun g1=>[⟨g1,29,(lP b0_ x0_ y0_ d0_ z0_ w0_)⟩]) fun g1 a V1 hgg1 S=>?_
 refine ti S (cs:=(lP b1_ x1_ y1_ d1_ z1_ w1_)) (zaw rfl (S.at 2 rfl) rfl) (fun g2=>[⟨g1,29,(lP b0_ x0_ y0_ d0_ z0_ w0_)⟩,⟨g2,29,(lP b1_ x1_ y1_ d1_ z1_ w1_)⟩]) fun g2 a V2 hgg2 S=>?_
 refine ti S (cs:=(lP b2_ x2_ y2_ d2_ z2_ w2_)) (zaw rfl (S.at 4 rfl) rfl) (fun g3=>[⟨g1,29,(lP b0_ x0_ y0_ d0_ z0_ w0_)⟩,⟨g2,29,(lP b1_ x1_ y1_ d1_ z1_ w1_)⟩,⟨g3,29,(lP b2_ x2_ y2_ d2_ z2_ w2_)⟩]) fun g3 a V3 hgg3 S=>?_
 refine tv S (zaq rfl) fun a S=>?_
 refine hK1 _ _ ?_
 refine wp_seq_k fun K2 hK2=>?_
 refine wp_seq_k fun K3 hK3=>?_
 refine zab ?_
 refine tv S (za9 rfl (S.at 3 rfl) (S.bx 0 rfl) rfl) fun a S=>?_
 refine tv S (za9 rfl (S.at 3 rfl) (S.bx 1 rfl) rfl) fun a S=>?_
 refine tv S (za9 rfl (S.at 3 rfl) (S.bx 2 rfl) rfl) fun a S=>?_
 refine ty S (F:=GP ([(b0_,x0_,y0_,d0_,z0_,w0_),(b1_,x1_,y1_,d1_,z1_,w1_),(b2_,x2_,y2_,d2_,z2_,w2_)])) (zek rfl (S.at 2 rfl) (S.at 1 rfl) (S.at 0 rfl) (S.num 8 rfl) (S.num 9 rfl) (S.num 10 rfl) (S.num 11 rfl) (S.num 4 rfl) (S.num 5 rfl) (S.num 6 rfl) (S.num 7 rfl) (S.num 0 rfl) (S.num 1 rfl) (S.num 2 rfl) (S.num 3 rfl)) fun v a V4 hF hb S=>?_
 obtain⟨ov1,hov1⟩:∃z,z=v:=⟨_,rfl⟩
 rw[←hov1]at hF S
 have rov1:=hF
 refine tc S (F:=(fun v _=>v= .bool false)) (rc1 Tryz.func7 (S.at 0 rfl)) (zfo rov1 hG) fun v a V5 hF hb S=>?_
 replace rov1:=rov1.keep hb
 subst hF
 refine tv S (zac rfl (S.at 0 rfl)) fun a S=>?_
 refine tvg S (S.at 0 rfl) (zac rfl (S.at 13 rfl)) fun a S=>?_
 refine tvg S (S.at 1 rfl) (zca (by decide) rfl (S.at 0 rfl)) fun a S=>?_
 refine tvg S (S.at 2 rfl) (za5 (c:=true) (zbS rfl (S.at 0 rfl) rfl) (decide_eq_true (by omega))) fun a S=>?_
 refine tv S (zaP false rfl (S.at 3 rfl) (S.at 0 rfl)) fun a S=>?_
 refine tv S (zac rfl (S.at 0 rfl)) fun a S=>?_
 refine tk S (S.at 0 rfl) fun a S=>?_
 refine tk S (S.at 1 rfl) fun a S=>?_
 refine tv S (zaP true rfl (S.at 2 rfl) rfl) fun a S=>?_
 refine hK3 _ _ ?_
 refine wp_cond_true (S.at 0 rfl) ?_
 refine wp_seq_k fun K4 hK4=>?_
 have S:=S.keep [8] (ls':=[(8,.bool false)]) rfl
 refine zab ?_
 refine tc S (F:=(fun v _=>v= .bool true)) (rc0 Tryz.func9) (zgg (T.keep S.below)) fun v a V6 hF hb S=>?_
 subst hF
 refine zaS S (v:= .bool true) (zag rfl (S.at 0 rfl)) rfl rfl (by decide) (ls':=[(25,.bool true)]) rfl (fun a S=>?_)
 refine hK4 _ _ ?_
 refine wp_ret ?_
 exact zaE rfl S (S.at 0 rfl) ⟨_,rfl,rfl,S.below⟩
theorem zj2 (b0_:Bool)(x0_ y0_:Num)(d0_:Bool)(z0_ w0_:Num)(b1_:Bool)(x1_ y1_:Num)(d1_:Bool)(z1_ w1_:Num)(b2_:Bool)(x2_ y2_:Num)(d2_:Bool)(z2_ w2_:Num)(A:Option Addr)(c:Nat)(l:List (Bool×Num×Num)){V:World}(T:TT V)(ox0:x0_.ok V V.heap.size)(oy0:y0_.ok V V.heap.size)(oz0:z0_.ok V V.heap.size)(ow0:w0_.ok V V.heap.size)(ox1:x1_.ok V V.heap.size)(oy1:y1_.ok V V.heap.size)(oz1:z1_.ok V V.heap.size)(ow1:w1_.ok V V.heap.size)(ox2:x2_.ok V V.heap.size)(oy2:y2_.ok V V.heap.size)(oz2:z2_.ok V V.heap.size)(ow2:w2_.ok V V.heap.size)(hR:QRds V V.heap.size A l)(hll:l.length≤100000000000000)(hlc:l.length≤c)(hcm:c≤maxLen)(hG:zch [(b0_,x0_,y0_,d0_,z0_,w0_),(b1_,x1_,y1_,d1_,z1_,w1_),(b2_,x2_,y2_,d2_,z2_,w2_)]=false)(hln:l.length≤10)(hG2:zdc l=true):
  Calls Tryz.prog 6 #[(aP b0_ x0_ y0_ d0_ z0_ w0_),(aP b1_ x1_ y1_ d1_ z1_ w1_),(aP b2_ x2_ y2_ d2_ z2_ w2_),.slice A l.length c] V (zal V (fun v _=>v= .bool true)):=by
 obtain⟨q0,hqa0⟩:∃q,qOf b0_ x0_.N y0_.N=q:=⟨_,rfl⟩
 obtain⟨r0,hra0⟩:∃q,qOf d0_ z0_.N w0_.N=q:=⟨_,rfl⟩
 obtain⟨q1,hqa1⟩:∃q,qOf b1_ x1_.N y1_.N=q:=⟨_,rfl⟩
 obtain⟨r1,hra1⟩:∃q,qOf d1_ z1_.N w1_.N=q:=⟨_,rfl⟩
 obtain⟨q2,hqa2⟩:∃q,qOf b2_ x2_.N y2_.N=q:=⟨_,rfl⟩
 obtain⟨r2,hra2⟩:∃q,qOf d2_ z2_.N w2_.N=q:=⟨_,rfl⟩
 refine zav (e:=[x2_,y2_,z2_,w2_,x1_,y1_,z1_,w1_,x0_,y0_,z0_,w0_]) Tryz.func6 rfl Tryz.ntmps6 (zt2 rfl) [(0,(aP b0_ x0_ y0_ d0_ z0_ w0_)),(1,(aP b1_ x1_ y1_ d1_ z1_ w1_)),(2,(aP b2_ x2_ y2_ d2_ z2_ w2_)),(3,.slice A l.length c)] rfl (zaa ox2 (zaa oy2 (zaa oz2 (zaa ow2 (zaa ox1 (zaa oy1 (zaa oz1 (zaa ow1 (zaa ox0 (zaa oy0 (zaa oz0 (zaa ow0 zaN)))))))))))) (fun a S=>?_)
 refine wp_seq_k fun K1 hK1=>?_
 refine zab ?_
 refine ti S (cs:=(lP b0_ x0_ y0_ d0_ z0_ w0_)) (zaw rfl (S.at 0 rfl) rfl) (fun g1=>[⟨g1,29,(lP b0_ x0_ y0_ d0_ z0_ w0_)⟩]) fun g1 a V1 hgg1 S=>?_
 refine ti S (cs:=(lP b1_ x1_ y1_ d1_ z1_ w1_)) (zaw rfl (S.at 2 rfl) rfl) (fun g2=>[⟨g1,29,(lP b0_ x0_ y0_ d0_ z0_ w0_)⟩,⟨g2,29,(lP b1_ x1_ y1_ d1_ z1_ w1_)⟩]) fun g2 a V2 hgg2 S=>?_
 refine ti S (cs:=(lP b2_ x2_ y2_ d2_ z2_ w2_)) (zaw rfl (S.at 4 rfl) rfl) (fun g3=>[⟨g1,29,(lP b0_ x0_ y0_ d0_ z0_ w0_)⟩,⟨g2,29,(lP b1_ x1_ y1_ d1_ z1_ w1_)⟩,⟨g3,29,(lP b2_ x2_ y2_ d2_ z2_ w2_)⟩]) fun g3 a V3 hgg3 S=>?_
 refine tv S (zaq rfl) fun a S=>?_
 refine hK1 _ _ ?_
 refine wp_seq_k fun K2 hK2=>?_
 refine wp_seq_k fun K3 hK3=>?_
 refine zab ?_
 refine tv S (za9 rfl (S.at 3 rfl) (S.bx 0 rfl) rfl) fun a S=>?_
 refine tv S (za9 rfl (S.at 3 rfl) (S.bx 1 rfl) rfl) fun a S=>?_
 refine tv S (za9 rfl (S.at 3 rfl) (S.bx 2 rfl) rfl) fun a S=>?_
 refine ty S (F:=GP ([(b0_,x0_,y0_,d0_,z0_,w0_),(b1_,x1_,y1_,d1_,z1_,w1_),(b2_,x2_,y2_,d2_,z2_,w2_)])) (zek rfl (S.at 2 rfl) (S.at 1 rfl) (S.at 0 rfl) (S.num 8 rfl) (S.num 9 rfl) (S.num 10 rfl) (S.num 11 rfl) (S.num 4 rfl) (S.num 5 rfl) (S.num 6 rfl) (S.num 7 rfl) (S.num 0 rfl) (S.num 1 rfl) (S.num 2 rfl) (S.num 3 rfl)) fun v a V4 hF hb S=>?_
 obtain⟨ov1,hov1⟩:∃z,z=v:=⟨_,rfl⟩
 rw[←hov1]at hF S
 have rov1:=hF
 refine tc S (F:=(fun v _=>v= .bool false)) (rc1 Tryz.func7 (S.at 0 rfl)) (zfo rov1 hG) fun v a V5 hF hb S=>?_
 replace rov1:=rov1.keep hb
 subst hF
 refine tv S (zac rfl (S.at 0 rfl)) fun a S=>?_
 refine tvg S (S.at 0 rfl) (zac rfl (S.at 13 rfl)) fun a S=>?_
 refine tvg S (S.at 1 rfl) (zca (by decide) rfl (S.at 0 rfl)) fun a S=>?_
 refine tvg S (S.at 2 rfl) (za5 (c:=false) (zbS rfl (S.at 0 rfl) rfl) (decide_eq_false (by omega))) fun a S=>?_
 refine tv S (zaP false rfl (S.at 3 rfl) (S.at 0 rfl)) fun a S=>?_
 refine tv S (zac rfl (S.at 0 rfl)) fun a S=>?_
 refine tvg S (S.at 0 rfl) (zac rfl (S.at 18 rfl)) fun a S=>?_
 refine tcg S (S.at 1 rfl) (F:=(fun v _=>v= .bool true)) (rc1 Tryz.func8 (S.at 0 rfl)) (zl0 (zl3 hR hll S.below) hG2) fun v a V6 hF hb S=>?_
 replace rov1:=rov1.keep hb
 subst hF
 refine tv S (zaP false rfl (S.at 2 rfl) (S.at 0 rfl)) fun a S=>?_
 refine hK3 _ _ ?_
 refine wp_cond_true (S.at 0 rfl) ?_
 refine wp_seq_k fun K4 hK4=>?_
 have S:=S.keep [8] (ls':=[(8,.bool false)]) rfl
 refine zab ?_
 refine tc S (F:=(fun v _=>v= .bool true)) (rc0 Tryz.func9) (zgg (T.keep S.below)) fun v a V7 hF hb S=>?_
 subst hF
 refine zaS S (v:= .bool true) (zag rfl (S.at 0 rfl)) rfl rfl (by decide) (ls':=[(25,.bool true)]) rfl (fun a S=>?_)
 refine hK4 _ _ ?_
 refine wp_ret ?_
 exact zaE rfl S (S.at 0 rfl) ⟨_,rfl,rfl,S.below⟩
end Go.Proofs.YtdeelcoipmdoiaaGreatDoor
