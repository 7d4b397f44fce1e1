/- A part. -/
import Derived.Test.YtafokgknenienaaGreatDoorGVVecN
set_option maxHeartbeats 4000000
set_option maxRecDepth 100000
namespace Go.Proofs.YtafokgknenienaaGreatDoor
open Go Go.RowKit
theorem zsQ (n:Nat):Builtin.zeroCells #[.bool false,.slice none 0 0,.slice none 0 0,.bool false,.slice none 0 0,.slice none 0 0] n=(zaX (List.replicate n z6)).toArray:=by
 rw[←zqO];rfl
theorem zgM (p:PEl):(zba p).length=6:=rfl
def zqp (lb:List Bx)(v:Value)(ps:List PEl):Prop:=(v= .slice none 0 0∧ps=[]∧lb=[])∨ ∃g m,v= .slice (some ⟨g,0,none⟩) ps.length (ps.length+m)∧lb=[⟨g,53,zaX (ps++List.replicate m z6)⟩]∧ps.length+m≤maxLen
section
variable {n:Nat}{ls:List (Tmp × Value)}{lb:List Bx}{w V:World}{e:List Num}{a:Act}{o:Oper}{t t1 t2:Tmp}{v:Value}{ops:Array Oper}{Q:Exit → Act → World → Prop}{rest:List Oper}
theorem zrQ {gb:Nat}{x:PEl}(hb:V.heap[gb]?=some (.cells (zba x).toArray 53 (0,0))):Go.Src Tryz.prog 6 54 (.slice (some ⟨gb,0,none⟩) 1 1) 1 (zba x) V:=
 Go.Src.ofSlice V Tryz.underlying54 ⟨gb,0,none⟩ 1 1 (zba x) rfl (fun j u hu=>by
  rw[Addr.add_lit,cell_of_row V gb (0+j) _ _ (0,0) hb,Nat.zero_add]
  simpa using hu) (fun u hu=>by
  simp only[zba,List.mem_cons,List.not_mem_nil,or_false]at hu
  rcases hu with rfl|rfl|rfl|rfl|rfl|rfl <;> rfl)
theorem zqq {gb:Nat}{x:PEl}{ps:List PEl}{ts:Array TypeId}(S:Frm n ls lb w e a V)(ho:o.op= .call { callee:= .builtin .append,args:= #[.tmp t1,.tmp t2],argTypes:=ts })(hts:ts= #[54,54]) (h1:a.tmps.getD t1 undef=v) (h2:a.tmps.getD t2 undef= .slice (some ⟨gb,0,none⟩) 1 1)
  (hRB:zqp lb v ps) (hb:V.heap[gb]?=some (.cells (zba x).toArray 53 (0,0))) (hps:ps.length≤1000) {ls':List (Tmp×Value)} (hl:zeo t ls=ls')
  (k:∀v' lb' a V',zqp lb' v' (ps++[x])→Frm n ((t,v')::ls') lb' w e a V'→wpList Tryz.prog ops Q rest a V')
  (hg:o.guard=none:=by exact rfl) (hd:o.dst=some t:=by exact rfl) (ht:t<n:=by decide):wpList Tryz.prog ops Q (o::rest) a V:=by
 obtain⟨i0,hi0,hz0,hz1,hz2⟩:=info_parts zlD
 have hs:=zrQ hb
 rw[←hz1]at hs
 subst hts
 have key:∀ {v':Value} {V':World} {lb':List Bx},(Builtin.append_ #[54,54] o.type #[v,.slice (some ⟨gb,0,none⟩) 1 1]).run Tryz.prog V= .ok v' V'→zqp lb' v' (ps++[x])→Frm n ls lb' w e a V'→wpList Tryz.prog ops Q (o::rest) a V:=by
  intro v' V' lb' hrun hRB' S'
  rw[zah]at h1 h2
  have e1:a.eval (.tmp t1)=v:=by simpa[Act.eval]using h1
  have e2:a.eval (.tmp t2)= .slice (some ⟨gb,0,none⟩) 1 1:=by simpa[Act.eval]using h2
  have hr:(execOp a.eval o).run Tryz.prog V= .ok (.value v') V':=by
   simp[execOp,ho,resolve,invoke,builtin,e1,e2,hrun,Result.andThen]
  exact zky (K:=fun a' V2=>a'=a.put (some t) v'∧V2=V') (by simp[Oper.wp,hr,Oper.upon,hd]) hg (by rintro a' V2 ⟨rfl,rfl⟩;exact k _ _ _ _ hRB' (S'.put _ ht hl))
 have Sd:Frm n ls lb w e a V.drew:=S.later ((Below.refl _ V).drew)
 have hgrow:∀(need old:Nat) (ps':List PEl) (A:Array Value),A=(zaX ps').toArray→ps'.length=need→need≤maxLen→A++Builtin.zeroCells #[.bool false,.slice none 0 0,.slice none 0 0,.bool false,.slice none 0 0,.slice none 0 0] (grownCap V need old 53 - need)=(zaX (ps'++List.replicate (grownCap V need old 53 - need) z6)).toArray:=by
  intro need old ps' A hA _ _
  rw[hA,zsQ,zcC];simp
 rcases hRB with⟨rfl,rfl,rfl⟩|⟨g,m,rfl,rfl,hm⟩
 ·have hrun:=run_append_nil (P:=Tryz.prog) (w:=V) 54 o.type 53 i0 _ Tryz.underlying54 hi0 hz0 ⟨gb,0,none⟩ 1 1 (zba x) (by rw[hz1];rfl) (fun j u hu=>by
   rw[Addr.add_lit,cell_of_row V gb (0+j) _ _ (0,0) hb,Nat.zero_add]
   simpa using hu) (by decide) (by decide) (by rw[hz2];decide)
  have hc:=grownCap_ge V 1 0 53
  have hc2:=grownCap_le_maxLen V 1 0 53 (by simp[maxLen])
  have e6:=hgrow 1 0 [x] (zba x).toArray (by simp[zaX]) rfl (by simp[maxLen])
  simp only[Value.cells]at hrun
  rw[e6]at hrun
  refine key hrun (lb':=[⟨V.heap.size,53,zaX ([x]++List.replicate (grownCap V 1 0 53 - 1) z6)⟩]) (.inr ⟨V.heap.size,grownCap V 1 0 53 - 1,?_,rfl,?_⟩) (Sd.alloc 53 _ (zcV _))
  ·rw[show([]++[x]:List PEl).length+(grownCap V 1 0 53 - 1)=grownCap V 1 0 53 by simp;omega];rfl
  ·simp;omega
 ·have hbx:=S.bx 0 rfl
  have hfl:(zaX (ps++List.replicate m z6)).length=(ps.length+m)*6:=by rw[zcX,List.length_append,List.length_replicate]
  rcases zti m with rfl|hm0
  ·have holds:∀j u,(zaX ps)[j]?=some u→V.cell? ((⟨g,0,none⟩:Addr).add j)=some u:=fun j u hu=>by
    rw[Addr.add_lit,cell_of_row V g (0+j) _ _ (0,0) hbx,Nat.zero_add]
    simpa using hu
   have hrun:=run_append_grow (P:=Tryz.prog) (w:=V) 54 o.type 53 i0 _ Tryz.underlying54 hi0 hz0 ⟨g,0,none⟩ ps.length (ps.length+0) (zaX ps) (by rw[hz1,zcX]) holds ⟨gb,0,none⟩ 1 1 (zba x) (by rw[hz1];rfl) (fun j u hu=>by
    rw[Addr.add_lit,cell_of_row V gb (0+j) _ _ (0,0) hb,Nat.zero_add]
    simpa using hu) (by omega) (by omega) (growslice_fits (by omega) (by rw[hz2];omega))
   have hc:=grownCap_ge V (ps.length+1) (ps.length+0) 53
   have hc2:=grownCap_le_maxLen V (ps.length+1) (ps.length+0) 53 (by simp only[maxLen];omega)
   have e6:=hgrow (ps.length+1) (ps.length+0) (ps++[x]) ((zaX ps).toArray++(zba x).toArray) (by rw[zcC];simp[zaX]) (by simp) (by simp only[maxLen];omega)
   simp only[Value.cells]at hrun
   rw[e6]at hrun
   refine key hrun (lb':=[⟨V.heap.size,53,zaX (ps++[x]++List.replicate (grownCap V (ps.length+1) (ps.length+0) 53 - (ps.length+1)) z6)⟩]) (.inr ⟨V.heap.size,grownCap V (ps.length+1) (ps.length+0) 53 - (ps.length+1),?_,rfl,?_⟩) ((Sd.alloc 53 _ (zcV _)).reorder [1] rfl (by decide))
   ·rw[show(ps++[x]).length+(grownCap V (ps.length+1) (ps.length+0) 53 - (ps.length+1))=grownCap V (ps.length+1) (ps.length+0) 53 by rw[List.length_append,List.length_singleton];omega]
    rw[List.length_append];rfl
   ·rw[List.length_append,List.length_singleton];omega
  ·have hrun:=run_append_room_src (w:=V) 54 54 o.type 53 i0 Tryz.underlying54 hi0 g 0 ps.length (ps.length+m) _ 1 (zba x) hs (by omega)
    (fun j hj=>by
     rw[zgM]at hj
     rw[hz1,cell_of_row V g _ _ _ (0,0) hbx,List.getElem?_toArray,List.getElem?_eq_getElem (by rw[hfl];omega)];rfl)
    (fun j hj=>zf5 hbx)
   rw[hz1,Nat.zero_add]at hrun
   have hst:=Frm.stores (zba x) [⟨g,53,zaX (ps++List.replicate m z6)⟩] V g 0 (ps.length*6) 53 _ S rfl (by rw[hfl,zgM];omega) rfl
   have hput:zce (zaX (ps++List.replicate m z6)) (ps.length*6) (zba x)=zaX (ps++[x]++List.replicate (m - 1) z6):=by
    rw[show m=(m - 1)+1 by omega,List.replicate_succ]
    exact zhP ps _ _ _
   rw[hput]at hst
   refine key hrun (lb':=[⟨g,53,zaX (ps++[x]++List.replicate (m - 1) z6)⟩]) (.inr ⟨g,m - 1,?_,rfl,?_⟩) hst
   ·rw[List.length_append,List.length_singleton,show ps.length+1+(m - 1)=ps.length+m by omega]
   ·rw[List.length_append,List.length_singleton];omega
end
def PL1 (K:Nat)(q q':Rat)(v:Value)(V:World):Prop:=∃(g:Nat) (p:PEl),v= .slice (some ⟨g,0,none⟩) 1 1∧V.heap[g]?=some (.cells (zba p).toArray 53 (0,0))∧zpe K (q,q') p∧(p.2.1.ok V V.heap.size∧p.2.2.1.ok V V.heap.size)∧p.2.2.2.2.1.ok V V.heap.size∧p.2.2.2.2.2.ok V V.heap.size
theorem PL1.keep {K:Nat}{q q':Rat}{v:Value}{V V':World}(h:PL1 K q q' v V)(hb:Below V.heap.size V V'):PL1 K q q' v V':=by
 obtain⟨g,p,h1,h2,h3,⟨h4,h5⟩,h6,h7⟩:=h
 exact⟨g,p,h1,(hb.block g (Array.getElem?_eq_some_iff.1 h2).1).trans h2,h3,⟨h4.later hb,h5.later hb⟩,h6.later hb,h7.later hb⟩
instance {K:Nat} {q q':Rat}:Keeps (PL1 K q q'):=⟨fun h hb=>PL1.keep h hb⟩
theorem zpa {a:Act}{V:World}{o:Oper}{t1:Tmp}{v1:Value}{K:Nat}{q q':Rat}(hop:o.op= .buildSlice 54 1 #[(0,.tmp t1)]) (h1:a.tmps.getD t1 undef=v1) (h:PT K q q' v1 V):zg3 o a V (PL1 K q q'):=by
 obtain⟨b,x,y,b',x',y',rfl,i1,i2,⟨k1,k2⟩,⟨k3,k4⟩,⟨o1,o2⟩,o3,o4⟩:=h
 have hb:Below V.heap.size V (V.alloc (.cells (zba (b,x,y,b',x',y')).toArray 53)):=ztc.alloc ztb _
 refine⟨.slice (some ⟨V.heap.size,0,none⟩) 1 1,V.alloc (.cells (zba (b,x,y,b',x',y')).toArray 53),?_,⟨V.heap.size,(b,x,y,b',x',y'),rfl,World.alloc_heap_new' V _,⟨i1,i2,⟨k1,k2⟩,k3,k4⟩,⟨o1.later hb,o2.later hb⟩,o3.later hb,o4.later hb⟩,hb⟩
 rw[zah]at h1
 obtain⟨dst,op,ty,pos,after,guard⟩:=o
 simp only at hop
 subst hop
 simp only[zba]
 go_simp
theorem zrR {K:Nat}{qs:List (Rat×Rat)}{v:Value}{V:World}(h:PRow K qs v V)(hK:K≤700):Calls Tryz.prog 74 #[v] V (zai V (TRow (max K 1) qs)):=by
 obtain⟨A,c,l,rfl,hR,rfl,hk4,hl,hlc,hcm⟩:=h
 refine zao (e:=[]) Tryz.func74 rfl Tryz.ntmps74 (zta rfl) [(0,.slice A l.length c)] rfl zaz (fun a S=>?_)
 refine wp_seq_k fun K1 hK1=>?_
 refine zab ?_
 refine tv S (zav rfl) fun a S=>?_
 refine hK1 _ _ ?_
 refine wp_seq_k fun K2 hK2=>?_
 refine zab ?_
 refine tv S (zav rfl) fun a S=>?_
 refine hK2 _ _ ?_
 refine wp_seq_k fun K3 hK3=>?_
 refine wp_seq_k fun K4 hK4=>?_
 have S:=S.sel [0,2] rfl
 refine zab ?_
 refine tv S (zav rfl) fun a S=>?_
 refine hK4 _ _ ?_
 refine wp_block ?_
 refine wp_loop (fun aI VI=>∃(k:Nat) (ps:List PEl) (u:Value) (lb:List Bx),(ps.length=k∧k≤l.length∧TolD (max K 1) ((l.map pv).take k) ps∧zqp lb u ps)∧Frm 28 [(4,.int .i64 ((k:Nat):Int)),(3,u),(0,.slice A l.length c)] lb V (zd7 ps) aI VI)
  (fun aI _=>l.length - (intOf (aI.tmps.getD 4 undef)).toNat) ⟨0,[],_,[],⟨rfl,Nat.zero_le _,TolD.nil,.inl ⟨rfl,rfl,rfl⟩⟩,S⟩ ?_
 rintro a1 V2 ⟨k,ps,u,lb,⟨hpl,hkl,hD,hB⟩,S⟩
 have hm0:a1.tmps.getD 4 undef= .int .i64 ((k:Nat):Int):=S.at 0 rfl
 refine wp_seq_k fun K5 hK5=>?_
 refine wp_seq_k fun K6 hK6=>?_
 refine zab ?_
 refine tv S (zad rfl (S.at 0 rfl)) fun a S=>?_
 refine tv S (zad rfl (S.at 3 rfl)) fun a S=>?_
 refine tv S (zci rfl (S.at 0 rfl)) fun a S=>?_
 refine tv S (zbY rfl (S.at 2 rfl) (S.at 0 rfl)) fun a S=>?_
 refine hK6 _ _ ?_
 rcases ztk (decide (((k:Nat):Int)<((l.length:Nat):Int)))with hc|hc
 ·refine wp_cond_true ((S.at 0 rfl).trans (congrArg Value.bool hc)) ?_
  have hlt:k<l.length:=by have:=of_decide_eq_true hc;omega
  refine wp_skip ?_
  refine hK5 _ _ ?_
  refine wp_seq_k fun K7 hK7=>?_
  refine wp_block ?_
  obtain⟨b,x,y,b',x',y',hel⟩:∃b x y b' x' y',l[k]=(b,x,y,b',x',y'):=⟨_,_,_,_,_,_,rfl⟩
  obtain⟨⟨ox,oy⟩,ox',oy'⟩:=hR.oks hlt hel
  have hke:=hk4 _ (List.getElem_mem hlt)
  rw[hel]at hke
  have hA:=(hR.el hlt hel).s
  have S:=S.sel [4,5,6] rfl
  have hb0:=S.below
  refine fr 15 [11,12,13,14,15,16,17,18,19,20,21,22,23,24,25] [IsV u,IsV (.slice A l.length c),IsV (.int .i64 ((k:Nat):Int)),IsV (.pointer (some (zaY A (k*6)))),IsV (.pointer (some (zaY A (k*6)))),IsV ((aG b x y)),QT (max K 1) (qOf b x.N y.N),IsV (.slice A l.length c),IsV (.int .i64 ((k:Nat):Int)),IsV (.pointer (some (zaY A (k*6)))),IsV (.pointer (some (zaY A (k*6+3)))),IsV (.agg #[.bool b',.slice x'.A x'.n x'.c,.slice y'.A y'.n y'.c]),QT (max K 1) (qOf b' x'.N y'.N),PT (max K 1) (qOf b x.N y.N) (qOf b' x'.N y'.N),PL1 (max K 1) (qOf b x.N y.N) (qOf b' x'.N y'.N)] S ?_ ?_
  ·refine sc (fun _ _ S _ _=>sv rfl (zad rfl (S.at 1 rfl))) ?_
   refine sc (fun _ _ S _ _=>sv rfl (zad rfl (S.at 2 rfl))) ?_
   refine sc (fun _ _ S _ _=>sv rfl (zad rfl (S.at 0 rfl))) ?_
   refine sc (fun _ _ _ _ hd=>sv rfl (zbp hA hlt rfl (hd.v 1 rfl rfl) (hd.v 2 rfl rfl))) ?_
   refine sc (fun _ _ _ _ hd=>sv rfl (zbB zfa rfl (hd.v 3 rfl rfl))) ?_
   refine sc (fun _ _ S _ hd=>sv rfl (zo8 hA ((hR.below S.below).el hlt hel).c0 ((hR.below S.below).el hlt hel).c1 ((hR.below S.below).el hlt hel).c2 rfl (hd.v 4 rfl rfl))) ?_
   refine sc (fun _ _ S _ hd=>sl rfl (rc1 Tryz.func25 (hd.v 5 rfl rfl)) (zdg ⟨b,x,y,rfl,rfl,hke.1.1,hke.1.2,ox.later S.below,oy.later S.below⟩ hK)) ?_
   refine sc (fun _ _ S _ _=>sv rfl (zad rfl (S.at 2 rfl))) ?_
   refine sc (fun _ _ S _ _=>sv rfl (zad rfl (S.at 0 rfl))) ?_
   refine sc (fun _ _ _ _ hd=>sv rfl (zbp hA hlt rfl (hd.v 7 rfl rfl) (hd.v 8 rfl rfl))) ?_
   refine sc (fun _ _ _ _ hd=>sv rfl (zbB (zfc hA) rfl (hd.v 9 rfl rfl))) ?_
   refine sc (fun _ _ S _ hd=>sv rfl (zo8 hA ((hR.below S.below).el hlt hel).c3 ((hR.below S.below).el hlt hel).c4 ((hR.below S.below).el hlt hel).c5 rfl (hd.v 10 rfl rfl))) ?_
   refine sc (fun _ _ S _ hd=>sl rfl (rc1 Tryz.func25 (hd.v 11 rfl rfl)) (zdg ⟨b',x',y',rfl,rfl,hke.2.1,hke.2.2,ox'.later S.below,oy'.later S.below⟩ hK)) ?_
   refine sc (fun _ _ _ _ hd=>by
    obtain⟨v,hv,hq⟩:=zlx (hd.r 6 rfl rfl) (hd.r 12 rfl rfl)
    exact sv rfl (za2 rfl rfl rfl hv) hq) ?_
   refine sc (fun _ _ _ _ hd=>sy rfl (zpa rfl rfl (hd.r 13 rfl rfl))) ?_
   exact sn
  ·intro a2 V3 S hB2 hf
   obtain⟨gb,p,hv,hg,hp,⟨o1,o2⟩,o3,o4⟩:=hf.r 14 rfl rfl
   have S:=((S.add (hf.v 0 rfl rfl)).add hv)
   have S:=(((S.know o4).know o3).know o2).know o1
   show wpList _ _ _ [_,_] _ _
   refine zqq S rfl rfl (S.at 1 rfl) (S.at 0 rfl) hB hg (by omega) rfl (fun u2 lb2 a V4 hB3 S=>?_)
   refine za5 S (v:=u2) (zan rfl (S.at 0 rfl)) rfl rfl (by decide) (ls':=[(26,u2),(25,.slice (some ⟨gb,0,none⟩) 1 1),(11,u),(4,.int .i64 ((k:Nat):Int)),(0,.slice A l.length c)]) rfl (fun a S=>?_)
   refine hK7 _ _ ?_
   have S:=S.sel [0,4,5] rfl
   refine zab ?_
   refine tv S (zad rfl (S.at 1 rfl)) fun a S=>?_
   refine tv S (zcQ (k:=k) (m:=1) rfl (S.at 0 rfl) rfl (by omega)) fun a S=>?_
   refine za5 S (v:= .int .i64 ((k+1:Nat):Int)) (zan rfl (S.at 0 rfl)) rfl rfl (by decide) (ls':=[(10,.int .i64 ((k+1:Nat):Int)),(9,.int .i64 ((k:Nat):Int)),(3,u2),(0,.slice A l.length c)]) rfl (fun a S=>?_)
   have S:=S.sel [0,3,4] rfl
   have hD2:TolD (max K 1) ((l.map pv).take (k+1)) (ps++[p]):=by
    rw[List.take_succ_eq_append_getElem (by simpa using hlt)]
    refine hD.snoc ?_
    rw[List.getElem_map,hel]
    exact hp
   refine⟨⟨k+1,ps++[p],u2,lb2,⟨by simp[hpl],hlt,hD2,hB3⟩,by rw[zgO];exact S⟩,?_⟩
   have hm1:=S.at 0 rfl
   rw[hm0,hm1]
   simp only[intOf];omega
 ·refine wp_cond_false ((S.at 0 rfl).trans (congrArg Value.bool hc)) ?_
  refine wp_exit ?_
  refine hK3 _ _ ?_
  obtain rfl:k=l.length:=by have:=of_decide_eq_false hc;omega
  refine wp_seq_k fun K9 hK9=>?_
  refine zab ?_
  refine tv S (zad rfl (S.at 5 rfl)) fun a S=>?_
  refine tv S (zan rfl (S.at 0 rfl)) fun a S=>?_
  refine hK9 _ _ ?_
  refine wp_ret ?_
  rw[List.take_of_length_le (by simp)]at hD
  have hoks:∀ {hi:Nat} {V':World},(∀z∈zd7 ps,z.ok V' hi)→∀p∈ps,(p.2.1.ok V' hi∧p.2.2.1.ok V' hi)∧p.2.2.2.2.1.ok V' hi∧p.2.2.2.2.2.ok V' hi:=fun he p hp=>by
   obtain⟨⟨m1,m2⟩,m3,m4⟩:=zhO hp
   exact⟨⟨he _ m1,he _ m2⟩,he _ m3,he _ m4⟩
  rcases hB with⟨rfl,rfl,rfl⟩|⟨g,m,rfl,rfl,hm⟩
  ·exact zaH rfl S (S.at 0 rfl) ⟨_,rfl,⟨none,0,[],rfl,fun _ h=>by simp at h,hD,Nat.zero_le _,Nat.le_refl _,Nat.zero_le _⟩,S.below⟩
  ·exact zaH rfl S (S.at 0 rfl) ⟨_,rfl,⟨some ⟨g,0,none⟩,ps.length+m,ps,rfl,PRds.own (rest:=zaX (List.replicate m z6)) (by rw[←zcC];exact S.bx 0 rfl) (S.lt 0 rfl) (hoks S.env.2),hD,by omega,by omega,hm⟩,S.below⟩
end Go.Proofs.YtafokgknenienaaGreatDoor
