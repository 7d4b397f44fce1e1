/- A part. -/
import Derived.Test.YtafokgknenienaaGreatDoorGVVecL
set_option maxHeartbeats 4000000
set_option maxRecDepth 100000
namespace Go.Proofs.YtafokgknenienaaGreatDoor
open Go Go.RowKit
def pv (p:PEl):Rat×Rat:=(qOf p.1 p.2.1.N p.2.2.1.N,qOf p.2.2.2.1 p.2.2.2.2.1.N p.2.2.2.2.2.N)
def zfC (K:Nat)(p:PEl):Prop:=(p.2.1.n≤K∧p.2.2.1.n≤K)∧p.2.2.2.2.1.n≤K∧p.2.2.2.2.2.n≤K
def PRow (K:Nat)(qs:List (Rat×Rat))(v:Value)(V:World):Prop:=∃(A:Option Addr) (c:Nat) (l:List PEl),v= .slice A l.length c∧PRds V V.heap.size A l∧l.map pv=qs∧(∀p∈l,zfC K p)∧l.length≤1000∧l.length≤c∧c≤maxLen
def zpe (K:Nat)(q:Rat×Rat)(p:PEl):Prop:=IsQ q.1 p.1 p.2.1 p.2.2.1∧IsQ q.2 p.2.2.2.1 p.2.2.2.2.1 p.2.2.2.2.2∧zfC K p
def TolD (K:Nat)(qs:List (Rat×Rat))(l:List PEl):Prop:=l.length=qs.length∧∀k (h:k<l.length) (h':k<qs.length),zpe K qs[k] l[k]
def TRow (K:Nat)(qs:List (Rat×Rat))(v:Value)(V:World):Prop:=∃(A:Option Addr) (c:Nat) (l:List PEl),v= .slice A l.length c∧PRds V V.heap.size A l∧TolD K qs l∧l.length≤1000∧l.length≤c∧c≤maxLen
section
variable {K K' n:Nat}{qs:List (Rat × Rat)}{v:Value}{V V':World}{l:List PEl}{q:Rat × Rat}{p:PEl}
theorem TolD.nil:TolD K [] []:=⟨rfl,fun _ h=>by cases h⟩
theorem TolD.snoc (h:TolD K qs l)(hp:zpe K q p):TolD K (qs++[q]) (l++[p]):=by
 refine⟨by simp[h.1],fun k h1 h2=>?_⟩
 by_cases hk:k<l.length
 ·rw[List.getElem_append_left hk,List.getElem_append_left (by rw[←h.1];exact hk)]
  exact h.2 k hk _
 ·have e1:k=l.length:=by rw[List.length_append,List.length_singleton]at h1;omega
  subst e1
  rw[List.getElem_append_right ztb,List.getElem_append_right (by rw[h.1];exact Nat.le_refl _)]
  simpa[h.1]using hp
theorem TolD.pv (h:TolD K qs l):l.map pv=qs:=by
 refine List.ext_getElem (by simp[h.1]) fun k h1 h2=>?_
 rw[List.getElem_map]
 obtain⟨a,b,-⟩:=h.2 k (by simpa using h1) h2
 exact Prod.ext a.q b.q
theorem TRow.any (h:TRow K qs v V):PRow K qs v V:=by
 obtain⟨A,c,l,h1,h2,h3,h4⟩:=h
 refine⟨A,c,l,h1,h2,h3.pv,fun p hp=>?_,h4⟩
 obtain⟨k,hk,rfl⟩:=List.getElem_of_mem hp
 exact(h3.2 k hk (by rw[←h3.1];exact hk)).2.2
theorem TRow.keep (h:TRow K qs v V)(hb:Below V.heap.size V V'):TRow K qs v V':=by
 obtain⟨A,c,l,h1,h2,h3⟩:=h;exact⟨A,c,l,h1,(h2.below hb).more hb.size,h3⟩
theorem PRow.keep (h:PRow K qs v V)(hb:Below V.heap.size V V'):PRow K qs v V':=by
 obtain⟨A,c,l,h1,h2,h3⟩:=h;exact⟨A,c,l,h1,(h2.below hb).more hb.size,h3⟩
instance:Keeps (TRow K qs):=⟨fun h hb=>TRow.keep h hb⟩
instance:Keeps (PRow K qs):=⟨fun h hb=>PRow.keep h hb⟩
theorem GP.row (h:GP l v V)(hk:∀p∈l,zfC K p)(hl:l.length≤1000)(hq:l.map Go.Proofs.YtafokgknenienaaGreatDoor.pv=qs):PRow K qs v V:=by
 obtain⟨A,c,h1,h2,h3,h4,h5⟩:=h;exact⟨A,c,l,h1,h2,hq,hk,hl,h4,h5⟩
def zd7 (ps:List PEl):List Num:=(ps.reverse.map fun p=>[p.2.1,p.2.2.1,p.2.2.2.2.1,p.2.2.2.2.2]).flatten
theorem zgO (ps:List PEl)(p:PEl):zd7 (ps++[p])=p.2.1::p.2.2.1::p.2.2.2.2.1::p.2.2.2.2.2::zd7 ps:=by simp[zd7]
theorem zhO {ps:List PEl}{p:PEl}(h:p∈ps):(p.2.1∈zd7 ps∧p.2.2.1∈zd7 ps)∧p.2.2.2.2.1∈zd7 ps∧p.2.2.2.2.2∈zd7 ps:=by
 have key:∀z,z∈[p.2.1,p.2.2.1,p.2.2.2.2.1,p.2.2.2.2.2]→z∈zd7 ps:=fun z hz=>List.mem_flatten.2 ⟨_,List.mem_map.2 ⟨p,List.mem_reverse.2 h,rfl⟩,hz⟩
 exact⟨⟨key _ (by simp),key _ (by simp)⟩,key _ (by simp),key _ (by simp)⟩
def z6:PEl:=(false,⟨none,0,0,0⟩,⟨none,0,0,0⟩,false,⟨none,0,0,0⟩,⟨none,0,0,0⟩)
theorem zgP (p:PEl)(l:List PEl):zaX (p::l)=zba p++zaX l:=by simp[zaX]
theorem zcC (l l':List PEl):zaX (l++l')=zaX l++zaX l':=by simp[zaX]
theorem zcV:∀l:List PEl,(zaX l).all za8=true
 |[]=>rfl
 |p::l=>by rw[zgP,List.all_append,zcV l];rfl
theorem zhP (ps rest:List PEl)(x y:PEl):zce (zaX (ps++y::rest)) (ps.length*6) (zba x)=zaX (ps++[x]++rest):=by
 have h:=zfn (zba x) (zaX ps) (zba y) (zaX rest) rfl
 rw[zcX]at h
 rw[zcC,zgP,←List.append_assoc,h,zcC,zcC]
 simp[zaX]
theorem zlD:(Tryz.prog.info? 53).map (fun i=>(i.zero,i.size,i.bytes))=some (some (.agg #[.bool false,.slice none 0 0,.slice none 0 0,.bool false,.slice none 0 0,.slice none 0 0]),6,112):=by kernel_rfl
theorem zqO (n:Nat):madeCells #[.bool false,.slice none 0 0,.slice none 0 0,.bool false,.slice none 0 0,.slice none 0 0] (n*6)=(zaX (List.replicate n z6)).toArray:=by
 apply Array.ext_getElem?
 intro i
 rw[show(zaX (List.replicate n z6)).toArray[i]?=(zaX (List.replicate n z6))[i]? from by simp]
 by_cases h1:i<n*6
 ·have hk:i/6<(List.replicate n z6).length:=by rw[List.length_replicate];omega
  have e:=zjP hk (i:=i%6) (by omega)
  have ei:i/6*6+i%6=i:=by omega
  rw[ei,List.getElem_replicate]at e
  rw[e]
  have e3:(madeCells #[.bool false,.slice none 0 0,.slice none 0 0,.bool false,.slice none 0 0,.slice none 0 0] (n*6))[i]?=some (#[Value.bool false,.slice none 0 0,.slice none 0 0,.bool false,.slice none 0 0,.slice none 0 0][i%6]!):=by
   simp[madeCells,h1]
  rw[e3]
  rcases(by omega:i%6=0∨i%6=1∨i%6=2∨i%6=3∨i%6=4∨i%6=5)with h|h|h|h|h|h <;> rw[h] <;> rfl
 ·rw[Array.getElem?_eq_none (by rw[size_madeCells];omega),List.getElem?_eq_none (by rw[zcX,List.length_replicate];omega)]
theorem zrT {a:Act}{o:Oper}{t1:Tmp}(ho:o.op= .makeSlice 54 (.tmp t1) (.tmp t1)) (h1:a.tmps.getD t1 undef= .int .i64 (n:Nat)) (hn:n≤1000):
  (execOp a.eval o).run Tryz.prog V= .ok (.value (.slice (some ⟨V.heap.size,0,none⟩) n n)) (V.alloc (.cells (zaX (List.replicate n z6)).toArray 53)):=by
 have e1:a.eval (.tmp t1)= .int .i64 (n:Nat):=h1
 obtain⟨i0,hi0,hz0,hz1,hz2⟩:=info_parts zlD
 have hr:=run_make V 54 53 i0 _ Tryz.underlying54 hi0 hz0 .i64 .i64 (n:Nat) (n:Nat) (by omega) (Int.le_refl _) (by rw[hz2];omega) (by omega)
 rw[hz1]at hr
 rw[←zqO]
 simp only[Int.toNat_natCast]at hr
 obtain⟨dst,op,ty,pos,after,guard⟩:=o
 simp only at ho
 subst ho
 unfold execOp
 simp only[e1]
 have hr':=hr
 simp only[Value.cells]at hr'
 simp[go_sem,hr']
theorem zrU (g m:Nat):zaY (some ⟨g,0,none⟩) m=⟨g,m,none⟩:=by
 show Addr.add ⟨g,0,none⟩ m=_
 rw[zaV]
end
section
variable {n:Nat}{ls:List (Tmp × Value)}{lb:List Bx}{w V:World}{e:List Num}{a:Act}{o:Oper}{t:Tmp}{v:Value}{ops:Array Oper}{Q:Exit → Act → World → Prop}{rest:List Oper}{P:Program}
theorem zsR (S:Frm n ls lb w e a V){T:TypeId}{cs:List Value}(hr:(execOp a.eval o).run P V= .ok (.value v) (V.alloc (.cells cs.toArray T)))(hn:cs.all za8=true)(k:∀a V',Frm n ((t,v)::ls) (lb++[⟨V.heap.size,T,cs⟩]) w e a V'→wpList P ops Q rest a V')
  (hg:o.guard=none:=by exact rfl) (hd:o.dst=some t:=by exact rfl) (ht:t<n:=by decide) (hl:zin t ls=true:=by exact rfl):wpList P ops Q (o::rest) a V:=
 zky (K:=fun a' V2=>a'=a.put (some t) v∧V2=V.alloc (.cells cs.toArray T)) (by simp[Oper.wp,hr,Oper.upon,hd]) hg (by rintro a' V2 ⟨rfl,rfl⟩;exact k _ _ ((S.alloc T cs hn).put _ ht (zcH hl)))
end
theorem zdu {K:Nat}{qs:List (Rat×Rat)}{v:Value}{V:World}(T:TT V)(h:PRow K qs v V)(hK:K≤400):Calls Tryz.prog 73 #[v] V (zai V (TRow (max K 1) qs)):=by
 obtain⟨A,c,l,rfl,hR,rfl,hk4,hl,hlc,hcm⟩:=h
 refine zao (e:=[]) Tryz.func73 rfl Tryz.ntmps73 (zta rfl) [(0,.slice A l.length c)] rfl zaz (fun a S=>?_)
 refine wp_seq_k fun K1 hK1=>?_
 refine zab ?_
 refine tv S (zav rfl) fun a S=>?_
 refine hK1 _ _ ?_
 refine wp_seq_k fun K2 hK2=>?_
 refine zab ?_
 refine tv S (zad rfl (S.at 1 rfl)) fun a S=>?_
 refine tv S (zci rfl (S.at 0 rfl)) fun a S=>?_
 refine zsR S (zrT rfl (S.at 0 rfl) hl) (zcV _) fun a V1 S=>?_
 refine tv S (zan rfl (S.at 0 rfl)) fun a S=>?_
 refine hK2 _ _ ?_
 obtain⟨g,hg⟩:∃g,V.heap.size=g:=⟨_,rfl⟩
 rw[hg]at S
 refine wp_seq_k fun K3 hK3=>?_
 refine wp_seq_k fun K4 hK4=>?_
 have S:=S.sel [0,5] rfl
 refine zab ?_
 refine tv S (zad rfl (S.at 1 rfl)) fun a S=>?_
 refine tv S (zci rfl (S.at 0 rfl)) fun a S=>?_
 refine tv S (zjq rfl) fun a S=>?_
 refine hK4 _ _ ?_
 refine wp_block ?_
 have S:=S.sel [0,1,2,3] rfl
 refine wp_loop (fun aI VI=>∃(k:Nat) (ps:List PEl),(ps.length=k∧k≤l.length∧TolD (max K 1) ((l.map pv).take k) ps)∧Frm 23 [(11,.int .i64 ((k:Nat):Int)),(10,.int .i64 ((l.length:Nat):Int)),(9,.slice A l.length c),(3,.slice (some ⟨g,0,none⟩) l.length l.length)] [⟨g,53,zaX (ps++List.replicate (l.length - k) z6)⟩] V (zd7 ps) aI VI)
  (fun aI _=>l.length - (intOf (aI.tmps.getD 11 undef)).toNat) ⟨0,[],⟨rfl,Nat.zero_le _,TolD.nil⟩,S⟩ ?_
 rintro a1 V2 ⟨k,ps,⟨hpl,hkl,hD⟩,S⟩
 have hm0:a1.tmps.getD 11 undef= .int .i64 ((k:Nat):Int):=S.at 0 rfl
 refine wp_seq_k fun K5 hK5=>?_
 refine zab ?_
 refine tv S (zbY rfl (S.at 0 rfl) (S.at 1 rfl)) fun a S=>?_
 refine hK5 _ _ ?_
 refine wp_seq_k fun K6 hK6=>?_
 rcases ztk (decide (((k:Nat):Int)<((l.length:Nat):Int)))with hc|hc
 ·refine wp_cond_true ((S.at 0 rfl).trans (congrArg Value.bool hc)) ?_
  have hlt:k<l.length:=by have:=of_decide_eq_true hc;omega
  refine wp_skip ?_
  refine hK6 _ _ ?_
  refine wp_seq_k fun K7 hK7=>?_
  refine wp_block ?_
  obtain⟨b,x,y,b',x',y',hel⟩:∃b x y b' x' y',l[k]=(b,x,y,b',x',y'):=⟨_,_,_,_,_,_,rfl⟩
  obtain⟨⟨ox,oy⟩,ox',oy'⟩:=hR.oks hlt hel
  have hke:=hk4 _ (List.getElem_mem hlt)
  rw[hel]at hke
  refine wp_seq_k fun K8 hK8=>?_
  refine zab ?_
  refine tv S (zad rfl (S.at 1 rfl)) fun a S=>?_
  refine tv S (zbp (hR.el hlt hel).s hlt rfl (S.at 4 rfl) (S.at 2 rfl)) fun a S=>?_
  refine tv S (zc2 ((hR.below S.below).el hlt hel) rfl (S.at 0 rfl)) fun a S=>?_
  refine ti S (cs:=[.bool false,.slice none 0 0,.slice none 0 0,.bool false,.slice none 0 0,.slice none 0 0]) (zas rfl (Tryz.zeroValue53 _) rfl) (fun g5=>[⟨g,53,zaX (ps++List.replicate (l.length - k) z6)⟩,⟨g5,53,[.bool false,.slice none 0 0,.slice none 0 0,.bool false,.slice none 0 0,.slice none 0 0]⟩]) fun g5 a V3 _ S=>?_
  refine tv S (zan rfl (S.at 3 rfl)) fun a S=>?_
  refine zap S (i:=1) (vs:=[.bool b,aS x,aS y,.bool b',.slice x'.A x'.n x'.c,.slice y'.A y'.n y'.c]) rfl (fun ht=>zal rfl (S.at 1 rfl) (S.at 2 rfl) zaq rfl (zta rfl) ht) (zta rfl) rfl rfl rfl (lb':=[⟨g,53,zaX (ps++List.replicate (l.length - k) z6)⟩,⟨g5,53,[.bool b,aS x,aS y,.bool b',.slice x'.A x'.n x'.c,.slice y'.A y'.n y'.c]⟩]) rfl (fun V4 S=>?_)
  refine hK8 _ _ ?_
  have S:=S.sel [0,1,6,7,8,9] rfl
  have B:=PtAt.mk (V:=V4) (K:=K) (S.bx 1 rfl) rfl rfl hke.1.1 hke.1.2 hke.2.1 hke.2.2 (ox.later S.below) (oy.later S.below) (ox'.later S.below) (oy'.later S.below)
  have T4:=T.keep S.below
  refine zab ?_
  refine tv S (zad rfl (S.at 5 rfl)) fun a S=>?_
  refine tv S (zad rfl (S.at 1 rfl)) fun a S=>?_
  refine tv S (zhM rfl (S.at 3 rfl)) fun a S=>?_
  refine tc S (rc1 Tryz.func110 (S.at 0 rfl)) (zdv (enters_of Tryz.func117 (by kernel_rfl) rfl) (fun W hW=>zpj (T4.keep hW) zph (B.keep hW) (by omega)) (fun W hW=>zpj (T4.keep hW) zpi (B.keep hW) (by omega))) fun u a V5 hF hb S=>?_
  obtain⟨d,z,w,d',z',w',rfl,i1,i2,⟨k1,k2⟩,⟨k3,k4⟩,⟨o1,o2⟩,o3,o4⟩:=hF
  have S:=(((S.know o4).know o3).know o2).know o1
  refine tv S (zbp ⟨_,rfl⟩ hlt rfl (S.at 3 rfl) (S.at 2 rfl)) fun a S=>?_
  have hlen:(zaX (ps++List.replicate (l.length - k) z6)).length=l.length*6:=by rw[zcX,List.length_append,List.length_replicate,hpl];congr 1;omega
  have hput:zce (zaX (ps++List.replicate (l.length - k) z6)) (k*6) (zba (d,z,w,d',z',w'))=zaX (ps++[(d,z,w,d',z',w')]++List.replicate (l.length - (k+1)) z6):=by
   rw[show l.length - k=(l.length - (k+1))+1 by omega,List.replicate_succ,←hpl]
   exact zhP ps _ _ _
  refine zap S (i:=0) (vs:=zba (d,z,w,d',z',w')) (off:=k*6) rfl (fun ht=>zal rfl ((S.at 0 rfl).trans (by rw[zrU])) (S.at 1 rfl) zaq rfl (m:=l.length*6) (by show k*6+6≤_;omega) (by rw[←hlen];exact ht)) (by rw[hlen];show k*6+6≤_;omega) rfl rfl rfl (lb':=[⟨g,53,zaX (ps++[(d,z,w,d',z',w')]++List.replicate (l.length - (k+1)) z6)⟩,⟨g5,53,[.bool b,aS x,aS y,.bool b',.slice x'.A x'.n x'.c,.slice y'.A y'.n y'.c]⟩]) (by rw[hput];rfl) (fun V6 S=>?_)
  refine hK7 _ _ ?_
  have S:=S.sel [7,8,9,10] rfl
  have S:=S.reorder [0] rfl (by decide)
  refine zab ?_
  refine tv S (zcQ (k:=k) (m:=1) rfl (S.at 0 rfl) rfl (by omega)) fun a S=>?_
  refine za5 S (v:= .int .i64 ((k+1:Nat):Int)) (zad rfl (S.at 0 rfl)) rfl rfl (by decide) (ls':=[(21,.int .i64 ((k+1:Nat):Int)),(10,.int .i64 ((l.length:Nat):Int)),(9,.slice A l.length c),(3,.slice (some ⟨g,0,none⟩) l.length l.length)]) rfl (fun a S=>?_)
  have S:=S.sel [0,2,3,4] rfl
  have hD2:TolD (max K 1) ((l.map pv).take (k+1)) (ps++[(d,z,w,d',z',w')]):=by
   rw[List.take_succ_eq_append_getElem (by simpa using hlt)]
   refine hD.snoc ?_
   rw[List.getElem_map,hel]
   exact⟨i1,i2,⟨k1,k2⟩,k3,k4⟩
  refine⟨⟨k+1,ps++[(d,z,w,d',z',w')],⟨by simp[hpl],hlt,hD2⟩,by rw[zgO];exact S⟩,?_⟩
  have hm1:=S.at 0 rfl
  rw[hm0,hm1]
  simp only[intOf];omega
 ·refine wp_cond_false ((S.at 0 rfl).trans (congrArg Value.bool hc)) ?_
  refine wp_exit ?_
  refine hK3 _ _ ?_
  obtain rfl:k=l.length:=by have:=of_decide_eq_false hc;omega
  refine wp_seq_k fun K9 hK9=>?_
  refine zab ?_
  refine tv S (zad rfl (S.at 4 rfl)) fun a S=>?_
  refine tv S (zan rfl (S.at 0 rfl)) fun a S=>?_
  refine hK9 _ _ ?_
  refine wp_ret ?_
  rw[List.take_of_length_le (by simp)]at hD
  refine zaH rfl S (S.at 0 rfl) ⟨_,rfl,⟨some ⟨g,0,none⟩,l.length,ps,by rw[hpl],PRds.own (rest:=zaX (List.replicate (l.length - l.length) z6)) (by rw[←zcC];exact S.bx 0 rfl) (S.lt 0 rfl) (fun p hp=>?_),hD,by omega,by omega,by omega⟩,S.below⟩
  obtain⟨⟨m1,m2⟩,m3,m4⟩:=zhO hp
  exact⟨⟨S.env.2 _ m1,S.env.2 _ m2⟩,S.env.2 _ m3,S.env.2 _ m4⟩
theorem zkT {K K':Nat}{qs:List (Rat×Rat)}{A A2:Option Addr}{c c2:Nat}{l l2:List PEl}{V:World}(hR:PRds V V.heap.size A l)(hR2:PRds V V.heap.size A2 l2)(hD:TolD K qs l)(hD2:TolD K' qs l2)(hll:l.length≤1000):
  Calls Tryz.prog 72 #[.slice A l.length c,.slice A2 l2.length c2] V (zai V (fun v _=>v= .bool true)):=by
 refine zao (e:=[]) Tryz.func72 rfl Tryz.ntmps72 (zta rfl) [(0,.slice A l.length c),(1,.slice A2 l2.length c2)] rfl zaz (fun a S=>?_)
 refine wp_seq_k fun K1 hK1=>?_
 refine zab ?_
 refine tv S (zav rfl) fun a S=>?_
 refine hK1 _ _ ?_
 refine wp_seq_k fun K2 hK2=>?_
 refine wp_seq_k fun K3 hK3=>?_
 refine zab ?_
 refine tv S (zad rfl (S.at 1 rfl)) fun a S=>?_
 refine tv S (zci rfl (S.at 0 rfl)) fun a S=>?_
 refine tv S (zad rfl (S.at 4 rfl)) fun a S=>?_
 refine tv S (zci rfl (S.at 0 rfl)) fun a S=>?_
 refine tv S (za9 (zfr _ (by decide) rfl (S.at 2 rfl) (S.at 0 rfl)) (show(!decide (((l.length:Nat):Int)=((l2.length:Nat):Int)))=false from(by have:=hD.1;have:=hD2.1;simp;omega))) fun a S=>?_
 refine hK3 _ _ ?_
 refine wp_cond_false (S.at 0 rfl) ?_
 refine wp_skip ?_
 refine hK2 _ _ ?_
 refine wp_seq_k fun K4 hK4=>?_
 refine wp_seq_k fun K5 hK5=>?_
 refine zab ?_
 refine tv S (zav rfl) fun a S=>?_
 refine hK5 _ _ ?_
 refine wp_block ?_
 have S:=S.keep [5,0,1] (ls':=[(5,.int .i64 0),(0,.slice A l.length c),(1,.slice A2 l2.length c2)]) rfl
 have S:=S.sel [0,1,2] rfl
 have S:=S.seln [] rfl
 have S:=S.reorder [] rfl (by decide)
 refine wp_loop (fun aI VI=>∃(k:Nat),(k≤l.length)∧Frm 27 [(5,.int .i64 (((k:Nat):Int))),(0,.slice A l.length c),(1,.slice A2 l2.length c2)] [] V [] aI VI) (fun aI _=>(l.length) - (intOf (aI.tmps.getD 5 undef)).toNat) ⟨0,Nat.zero_le _,S⟩ ?_
 rintro a1 V1 ⟨k,hkl,S⟩
 have hm0:a1.tmps.getD 5 undef= .int .i64 (((k:Nat):Int)):=S.at 0 rfl
 refine wp_seq_k fun K6 hK6=>?_
 refine wp_seq_k fun K7 hK7=>?_
 refine zab ?_
 refine tv S (zad rfl (S.at 0 rfl)) fun a S=>?_
 refine tv S (zad rfl (S.at 2 rfl)) fun a S=>?_
 refine tv S (zci rfl (S.at 0 rfl)) fun a S=>?_
 refine tv S (zbY rfl (S.at 2 rfl) (S.at 0 rfl)) fun a S=>?_
 refine hK7 _ _ ?_
 rcases ztk (decide (((k:Nat):Int)<((l.length:Nat):Int)))with hc14|hc14
 ·refine wp_cond_true ((S.at 0 rfl).trans (congrArg Value.bool hc14)) ?_
  have hlt:k<l.length:=by have:=of_decide_eq_true hc14;omega
  have hlt2_:k<l2.length:=by have:=hD.1;have:=hD2.1;omega
  have hq:k<qs.length:=by have:=hD.1;omega
  obtain⟨be,xe,ye,be2,xe2,ye2,hel⟩:∃b x y b' x' y',l[k]=(b,x,y,b',x',y'):=⟨_,_,_,_,_,_,rfl⟩
  obtain⟨⟨hea,heb⟩,hec,hed⟩:=hR.oks hlt hel
  have S:=S.know (hea.later S.below)
  have S:=S.know (heb.later S.below)
  have S:=S.know (hec.later S.below)
  have S:=S.know (hed.later S.below)
  obtain⟨be2_,xe2_,ye2_,be22_,xe22_,ye22_,hel2_⟩:∃b x y b' x' y',l2[k]=(b,x,y,b',x',y'):=⟨_,_,_,_,_,_,rfl⟩
  obtain⟨⟨hea2_,heb2_⟩,hec2_,hed2_⟩:=hR2.oks hlt2_ hel2_
  have S:=S.know (hea2_.later S.below)
  have S:=S.know (heb2_.later S.below)
  have S:=S.know (hec2_.later S.below)
  have S:=S.know (hed2_.later S.below)
  have hta:=hD.2 k hlt hq
  rw[hel]at hta
  obtain⟨i1a,i2a,⟨k1a,k2a⟩,k3a,k4a⟩:=hta
  have htb:=hD2.2 k hlt2_ hq
  rw[hel2_]at htb
  obtain⟨i1b,i2b,⟨k1b,k2b⟩,k3b,k4b⟩:=htb
  refine wp_skip ?_
  refine hK6 _ _ ?_
  refine wp_seq_k fun K8 hK8=>?_
  refine wp_block ?_
  refine wp_seq_k fun K9 hK9=>?_
  obtain⟨W1,hW1⟩:∃W,W=V1:=⟨_,rfl⟩
  rw[←hW1]at S ⊢
  have S0:=S
  refine fr 10 [17,18,19,20,21,22,23,24,25,26] [IsV (.slice A l.length c),IsV (.int .i64 (((k:Nat):Int))),IsV (.pointer (some (zaY A (k*6)))),IsV ((aP be xe ye be2 xe2 ye2)),IsV (.slice A2 l2.length c2),IsV (.int .i64 (((k:Nat):Int))),IsV (.pointer (some (zaY A2 (k*6)))),IsV ((aP be2_ xe2_ ye2_ be22_ xe22_ ye22_)),IsV (.bool true),IsV (.bool false)] S ?_ ?_
  ·refine sc (fun _ _ S _ _=>sv rfl (zad rfl (S.at 5 rfl))) ?_
   refine sc (fun _ _ S _ _=>sv rfl (zad rfl (S.at 4 rfl))) ?_
   refine sc (fun _ _ _ _ hd=>sv rfl (zbp (hR.el hlt hel).s hlt rfl (hd.v 0 rfl rfl) (hd.v 1 rfl rfl))) ?_
   refine sc (fun _ _ S _ hd=>sv rfl (zc2 ((hR.below S.below).el hlt hel) rfl (hd.v 2 rfl rfl))) ?_
   refine sc (fun _ _ S _ _=>sv rfl (zad rfl (S.at 6 rfl))) ?_
   refine sc (fun _ _ S _ _=>sv rfl (zad rfl (S.at 4 rfl))) ?_
   refine sc (fun _ _ _ _ hd=>sv rfl (zbp (hR2.el hlt2_ hel2_).s hlt2_ rfl (hd.v 4 rfl rfl) (hd.v 5 rfl rfl))) ?_
   refine sc (fun _ _ S _ hd=>sv rfl (zc2 ((hR2.below S.below).el hlt2_ hel2_) rfl (hd.v 6 rfl rfl))) ?_
   refine sc (fun _ _ S _ hd=>sl rfl (rc2 Tryz.func48 (hd.v 3 rfl rfl) (hd.v 7 rfl rfl)) (zcT (show PT K ((qs[k]'hq).1) ((qs[k]'hq).2) ((aP be xe ye be2 xe2 ye2)) _ from⟨be,xe,ye,be2,xe2,ye2,rfl,i1a,i2a,⟨k1a,k2a⟩,⟨k3a,k4a⟩,⟨(S.num 7 rfl),(S.num 6 rfl)⟩,(S.num 5 rfl),(S.num 4 rfl)⟩) (show PT K' ((qs[k]'hq).1) ((qs[k]'hq).2) ((aP be2_ xe2_ ye2_ be22_ xe22_ ye22_)) _ from⟨be2_,xe2_,ye2_,be22_,xe22_,ye22_,rfl,i1b,i2b,⟨k1b,k2b⟩,⟨k3b,k4b⟩,⟨(S.num 3 rfl),(S.num 2 rfl)⟩,(S.num 1 rfl),(S.num 0 rfl)⟩) rfl rfl)) ?_
   refine sc (fun _ _ _ _ hd=>sv rfl (zdE (b:=true) rfl (hd.v 8 rfl rfl))) ?_
   exact sn
  ·intro a2 V2 S hB hf
   have S:=S.add (hf.v 9 rfl rfl)
   clear hf S0
   show wpList _ _ _ [] _ _
   refine hK9 _ _ ?_
   refine wp_cond_false (S.at 0 rfl) ?_
   refine wp_skip ?_
   refine hK8 _ _ ?_
   refine zab ?_
   refine tv S (zad rfl (S.at 5 rfl)) fun a S=>?_
   refine tv S (zcQ (k:=k) (m:=1) rfl (S.at 0 rfl) rfl (by omega)) fun a S=>?_
   refine za5 S (v:= .int .i64 (((k+1:Nat):Int))) (zan rfl (S.at 0 rfl)) rfl rfl (by decide) (ls':=[(16,.int .i64 (((k+1:Nat):Int))),(15,.int .i64 (((k:Nat):Int))),(26,.bool false),(14,.bool (decide (((k:Nat):Int)<((l.length:Nat):Int)))),(13,.int .i64 (((l.length:Nat):Int))),(12,.slice A l.length c),(11,.int .i64 (((k:Nat):Int))),(0,.slice A l.length c),(1,.slice A2 l2.length c2)]) rfl (fun a S=>?_)
   have S:=S.sel [0,8,9] rfl
   have S:=S.seln [] rfl
   have S:=S.reorder [] rfl (by decide)
   refine⟨⟨k+1,hlt,S⟩,?_⟩
   have hm1:=S.at 0 rfl
   rw[hm0,hm1]
   simp only[intOf];omega
 ·refine wp_cond_false ((S.at 0 rfl).trans (congrArg Value.bool hc14)) ?_
  refine wp_exit ?_
  refine hK4 _ _ ?_
  refine wp_seq_k fun K10 hK10=>?_
  refine zab ?_
  refine tv S (zav rfl) fun a S=>?_
  refine hK10 _ _ ?_
  refine wp_ret ?_
  exact zaH rfl S (S.at 0 rfl) ⟨_,rfl,rfl,S.below⟩
theorem zc4 {K K':Nat}{qs qs':List (Rat×Rat)}{v v':Value}{V:World}(h:TRow K qs v V)(h':TRow K' qs' v' V)(e:qs=qs'):Calls Tryz.prog 72 #[v,v'] V (zai V fun v _=>v= .bool true):=by
 subst e
 obtain⟨A,c,l,rfl,hR,hD,hl,-⟩:=h
 obtain⟨A',c',l',rfl,hR',hD',-⟩:=h'
 exact zkT hR hR' hD hD' hl
section
variable {q q' q1 q1' q2 q2' q3 q3':Rat}
theorem zeG (q1 q1' q2 q2':Rat): -1≤zaS q1 q1' q2 q2'∧zaS q1 q1' q2 q2'≤1:=by
 unfold zaS;split
 ·exact zgz _ _
 ·exact zgz _ _
theorem zpf (q1 q1' q2 q2':Rat):zaS q2 q2' q1 q1'= -zaS q1 q1' q2 q2':=by
 unfold zaS
 rw[zju q1 q2,zju q1' q2']
 by_cases h:zaI q1 q2=0
 ·rw[if_pos h,if_pos (by omega)]
 ·rw[if_neg h,if_neg (by omega)]
theorem zpg (q1 q1' q2 q2' q3 q3':Rat):zaS (q1+q3) (q1'+q3') (q2+q3) (q2'+q3')=zaS q1 q1' q2 q2':=by
 unfold zaS
 rw[zjv,zjv]
theorem zhQ (a b:Rat):zaI (-b) (-a)=zaI a b:=zjt (by constructor <;> intro h <;> grind) (by constructor <;> intro h <;> grind)
theorem zm9 (q1 q1' q2 q2':Rat):zaS (-q2) (-q2') (-q1) (-q1')=zaS q1 q1' q2 q2':=by
 unfold zaS
 rw[zhQ,zhQ]
theorem ziA:zaS q1 q1' q2 q2'<0↔q1<q2∨(q1=q2∧q1'<q2'):=by
 have key:∀a b:Rat,zaI a b<0↔a<b:=fun a b=>by
  constructor
  ·intro h
   by_cases hc:a<b
   ·exact hc
   ·have:=of_decide_eq_true (zlo.2 hc);omega
  ·intro h;rw[zdD h];decide
 unfold zaS
 by_cases h:zaI q1 q2=0
 ·rw[if_pos h,key]
  have:=zcg.1 h
  subst this
  constructor
  ·exact fun h=> .inr ⟨rfl,h⟩
  ·rintro(h|h)
   ·grind
   ·exact h.2
 ·rw[if_neg h,key]
  constructor
  ·exact .inl
  ·rintro(h2|h2)
   ·exact h2
   ·exact absurd (zcg.2 h2.1) h
theorem zkU (h:decide (zaS q1 q1' q2 q2'<0)=true)(h':decide (zaS q2 q2' q3 q3'<0)=true):decide (0≤zaS q1 q1' q3 q3')=false:=by
 have h1:=ziA.1 (of_decide_eq_true h)
 have h2:=ziA.1 (of_decide_eq_true h')
 have h3:zaS q1 q1' q3 q3'<0:=ziA.2 (by
  rcases h1 with h1|⟨h1,h1'⟩ <;> rcases h2 with h2|⟨h2,h2'⟩
  ·exact .inl (by grind)
  ·exact .inl (by grind)
  ·exact .inl (by grind)
  ·exact .inr ⟨by grind,by grind⟩)
 exact decide_eq_false (by omega)
theorem zsS (q1 q1' q2 q2':Rat):Inr (-zaS q1 q1' q2 q2'):=by
 have:=zeG q1 q1' q2 q2'
 unfold Inr;omega
def ElP (K:Nat)(q q':Rat)(v:Value)(V:World):Prop:=∃(A:Option Addr) (m:Nat) (b:Bool) (x y:Num) (b':Bool) (x' y':Num),v= .pointer (some (zaY A m))∧(∃ad,A=some ad∧ad.block<V.heap.size)∧ElAt V A m b x y b' x' y'∧PT K q q' (.agg #[.bool b,.slice x.A x.n x.c,.slice y.A y.n y.c,.bool b',.slice x'.A x'.n x'.c,.slice y'.A y'.n y'.c]) V
section
variable {K n:Nat}{qs:List (Rat × Rat)}{v v1:Value}{V V':World}{a:Act}{o:Oper}{t1 t2:Tmp}
theorem ElP.keep (h:ElP K q q' v V)(hb:Below V.heap.size V V'):ElP K q q' v V':=by
 obtain⟨A,m,b,x,y,b',x',y',h1,⟨ad,rfl,h2⟩,h3,h4⟩:=h
 have hc:∀ {i:Nat} {u:Value},V.cell? (zaY (some ad) i)=some u→V'.cell? (zaY (some ad) i)=some u:=fun h=>(hb.cell (by show(ad.add _).block<_;rw[zaO];exact h2)).trans h
 exact⟨_,m,b,x,y,b',x',y',h1,⟨ad,rfl,zte h2 hb.size⟩,⟨h3.s,hc h3.c0,hc h3.c1,hc h3.c2,hc h3.c3,hc h3.c4,hc h3.c5⟩,h4.keep hb⟩
instance:Keeps (ElP K q q'):=⟨fun h hb=>ElP.keep h hb⟩
theorem zjQ (h:TRow K qs v1 V){i:Nat}(hi:i<qs.length):∃A n c,v1= .slice A n c∧(∃ad,A=some ad)∧i<n∧ElP K qs[i].1 qs[i].2 (.pointer (some (zaY A (i*6)))) V:=by
 obtain⟨A,c,l,rfl,hR,hD,-⟩:=h
 have hk:i<l.length:=by rw[hD.1];exact hi
 obtain⟨b,x,y,b',x',y',hel⟩:∃b x y b' x' y',l[i]=(b,x,y,b',x',y'):=⟨_,_,_,_,_,_,rfl⟩
 obtain⟨i1,i2,⟨k1,k2⟩,k3,k4⟩:=hD.2 i hk hi
 rw[hel]at i1 i2 k1 k2 k3 k4
 obtain⟨⟨ox,oy⟩,ox',oy'⟩:=hR.oks hk hel
 obtain⟨⟨ad,hA,hb,-⟩,-⟩:=hR i hk
 exact⟨A,l.length,c,rfl,⟨ad,hA⟩,hk,A,i*6,b,x,y,b',x',y',rfl,⟨ad,hA,hb⟩,hR.el hk hel,b,x,y,b',x',y',rfl,i1,i2,⟨k1,k2⟩,⟨k3,k4⟩,⟨ox,oy⟩,ox',oy'⟩
theorem zb9 {A:Option Addr}{c i:Nat}(hA:∃ad,A=some ad)(hk:i<n)(ho:o.op= .indexAddr 54 (.tmp t1) (.const (.int .i64 (i:Nat)))) (h1:a.tmps.getD t1 undef= .slice A n c):
  (execOp a.eval o).run Tryz.prog V= .ok (.value (.pointer (some (zaY A (i*6))))) V:=by
 obtain⟨ad,rfl⟩:=hA
 rw[zah]at h1
 obtain⟨dst,op,ty,pos,after,guard⟩:=o
 simp only at ho
 subst ho
 have h3:(i:Int)<(n:Int):=by omega
 unfold zaY
 go_simp
theorem zdc (h:TRow K qs v1 V)(hn:qs.length=n)(ho:o.op= .call { callee:= .builtin .len,args:= #[.tmp t1],argTypes:= #[54] }) (h1:a.tmps.getD t1 undef=v1):(execOp a.eval o).run Tryz.prog V= .ok (.value (.int .i64 ((n:Nat):Int))) V:=by
 obtain⟨A,c,l,rfl,hR,hD,-⟩:=h
 have:=zci (V:=V) ho h1
 rwa [hD.1,hn]at this
theorem zfg:PRow 0 [] (.slice none 0 0) V:=⟨none,0,[],rfl,fun _ h=>by simp at h,rfl,fun p hp=>by simp at hp,Nat.zero_le _,Nat.le_refl _,Nat.zero_le _⟩
end
end
end Go.Proofs.YtafokgknenienaaGreatDoor
