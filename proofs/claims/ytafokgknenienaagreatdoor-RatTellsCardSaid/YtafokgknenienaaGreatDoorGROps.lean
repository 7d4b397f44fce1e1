/- A part. -/
import Derived.Test.YtafokgknenienaaGreatDoorGRatG
set_option maxHeartbeats 4000000
set_option maxRecDepth 100000
namespace Go.Proofs.YtafokgknenienaaGreatDoor
open Go Go.RowKit
variable {v v' v1 v2:Value}{V:World}{K K' N M:Nat}{q q' q1 q2:Rat}{Z Z':Int}
def rmz (Z Z':Int):Int:=if Z'=0 then 0 else Z.fmod Z'
def zfX (Z':Int):Int:=if Z'=0 then 30 else 0
def ZDiv (K K':Nat)(Z Z':Int)(v:Value)(V:World):Prop:=∃v0 v1,v= .tuple #[v0,v1,.int .i64 (zfX Z')]∧ZT (K+1) (Z.fdiv Z') v0 V∧ZT (max K K'+1) (rmz Z Z') v1 V
theorem ZDiv.keep {V':World}(h:ZDiv K K' Z Z' v V)(hb:Below V.heap.size V V'):ZDiv K K' Z Z' v V':=by
 obtain⟨v0,v1,h1,h2,h3⟩:=h;exact⟨v0,v1,h1,h2.keep hb,h3.keep hb⟩
theorem ZDiv.keepS {V':World}{shs:List (TypeId×Nat)}{g:Nat}{vs:List Value}(h:ZDiv K K' Z Z' v V)(hb:Sto shs g vs V V'):ZDiv K K' Z Z' v V':=by
 obtain⟨v0,v1,h1,h2,h3⟩:=h;exact⟨v0,v1,h1,h2.keepS hb,h3.keepS hb⟩
def N2 (K K' N M:Nat)(v:Value)(V:World):Prop:=∃v1 v2,v= .tuple #[v1,v2]∧NT K N v1 V∧NT K' M v2 V
def NE (K N:Nat)(er:Int)(v:Value)(V:World):Prop:=∃v1,v= .tuple #[v1,.int .i64 er]∧NT K N v1 V
def N2E (K K' N M:Nat)(er:Int)(v:Value)(V:World):Prop:=∃v1 v2,v= .tuple #[v1,v2,.int .i64 er]∧NT K N v1 V∧NT K' M v2 V
theorem N2.keep {V':World}(h:N2 K K' N M v V)(hb:Below V.heap.size V V'):N2 K K' N M v V':=by obtain⟨a,b,h1,h2,h3⟩:=h;exact⟨a,b,h1,h2.keep hb,h3.keep hb⟩
theorem NE.keep {V':World}{er:Int}(h:NE K N er v V)(hb:Below V.heap.size V V'):NE K N er v V':=by obtain⟨a,h1,h2⟩:=h;exact⟨a,h1,h2.keep hb⟩
theorem N2E.keep {V':World}{er:Int}(h:N2E K K' N M er v V)(hb:Below V.heap.size V V'):N2E K K' N M er v V':=by obtain⟨a,b,h1,h2,h3⟩:=h;exact⟨a,b,h1,h2.keep hb,h3.keep hb⟩
section
variable {V':World}{shs:List (TypeId × Nat)}{g:Nat}{vs:List Value}
theorem N2.keepS (h:N2 K K' N M v V)(hb:Sto shs g vs V V'):N2 K K' N M v V':=by obtain⟨a,b,h1,h2,h3⟩:=h;exact⟨a,b,h1,h2.keepS hb,h3.keepS hb⟩
theorem NE.keepS {er:Int}(h:NE K N er v V)(hb:Sto shs g vs V V'):NE K N er v V':=by obtain⟨a,h1,h2⟩:=h;exact⟨a,h1,h2.keepS hb⟩
theorem N2E.keepS {er:Int}(h:N2E K K' N M er v V)(hb:Sto shs g vs V V'):N2E K K' N M er v V':=by obtain⟨a,b,h1,h2,h3⟩:=h;exact⟨a,b,h1,h2.keepS hb,h3.keepS hb⟩
end
instance {K K' N M:Nat}:Keeps (N2 K K' N M):=⟨fun h hb=>N2.keep h hb⟩
instance {K K' N M:Nat} {shs:List (TypeId×Nat)}:KeepsS shs (N2 K K' N M):=⟨fun h hb=>N2.keepS h hb⟩
instance {K N:Nat} {er:Int}:Keeps (NE K N er):=⟨fun h hb=>NE.keep h hb⟩
instance {K N:Nat} {er:Int} {shs:List (TypeId×Nat)}:KeepsS shs (NE K N er):=⟨fun h hb=>NE.keepS h hb⟩
instance {K K' N M:Nat} {er:Int}:Keeps (N2E K K' N M er):=⟨fun h hb=>N2E.keep h hb⟩
instance {K K' N M:Nat} {er:Int} {shs:List (TypeId×Nat)}:KeepsS shs (N2E K K' N M er):=⟨fun h hb=>N2E.keepS h hb⟩
instance {K K':Nat} {Z Z':Int}:Keeps (ZDiv K K' Z Z'):=⟨fun h hb=>ZDiv.keep h hb⟩
instance {K K':Nat} {Z Z':Int} {shs:List (TypeId×Nat)}:KeepsS shs (ZDiv K K' Z Z'):=⟨fun h hb=>ZDiv.keepS h hb⟩
theorem zhf (a b:Int):(a.fdiv b).natAbs≤a.natAbs+1∧(rmz a b).natAbs≤a.natAbs+b.natAbs:=by
 unfold rmz
 by_cases hb:b=0
 ·subst hb;simp
 ·have h1:=Int.fdiv_mul_add_fmod a b
  have h2:(a.fmod b).natAbs<b.natAbs:=by
   rcases Int.lt_or_gt_of_ne hb with h|h
   ·have e1:a.fmod b=_:=Int.fmod_eq_emod
    have e2:=Int.emod_lt_of_pos a (show 0< -b by omega)
    rw[Int.emod_neg]at e2
    have e3:=Int.emod_nonneg a hb
    split at e1 <;> omega
   ·have e1:=Int.fmod_nonneg_of_pos a h
    have e2:=Int.fmod_lt_of_pos a h
    omega
  rw[if_neg hb]
  refine⟨?_,by omega⟩
  generalize a.fdiv b=d at*
  generalize a.fmod b=m at*
  have h3:(d*b).natAbs=d.natAbs*b.natAbs:=Int.natAbs_mul d b
  have h4:d.natAbs≤d.natAbs*b.natAbs:=Nat.le_mul_of_pos_right _ (by omega)
  by_cases h5:d.natAbs≤1
  ·omega
  ·have h6:d.natAbs*b.natAbs≥(d.natAbs - 1)*b.natAbs+b.natAbs:=by
    have:d.natAbs=(d.natAbs - 1)+1:=by omega
    conv=>lhs;rw[this,Nat.add_mul,Nat.one_mul]
    exact Nat.le_refl _
   have h7:d.natAbs - 1≤(d.natAbs - 1)*b.natAbs:=Nat.le_mul_of_pos_right _ (by omega)
   omega
theorem zt3 (h:N1 K N v1 V)(h':N1 K' M v2 V)(b:K≤800)(b':K'≤800):Calls Tryz.prog 85 #[v1,v2] V (zao V (N2E K K (N/M) (zbv N M) (zbF M))):=by
 have l:=h.lt
 obtain⟨x,rfl,rfl,hx,o1⟩:=h
 obtain⟨y,rfl,rfl,hy,o2⟩:=h'
 refine(zlU (zf0 o1 o2) (x:=x) (y:=y) (by simp) (by simp) (by omega) (by omega)).mono ?_
 rintro en V' ⟨p,r,rfl,q1,q2,q3,q4,hE⟩
 exact⟨_,rfl,⟨_,_,rfl,⟨p,rfl,q1,q2,by rw[q2];exact zaj.2 (zuE (Nat.div_le_self _ _) l),hE.2 p (by simp)⟩,⟨r,rfl,q3,q4,by rw[q4];exact zaj.2 (zuE (zeb _ _) l),hE.2 r (by simp)⟩⟩,hE.1⟩
section
variable {n:Nat}{ls:List (Tmp × Value)}{lb:List Bx}{w:World}{e:List Num}{a:Act}{i j:Nat}{o:Oper}
theorem zdP {fn:Func}{R:Ending→World→Prop}{t t' u:Tmp}{T:TypeId}{g g':Nat}{cs cs':List Value}{d:TypeDesc}{P:Program}(hr:fn.results= #[.cell t T,.cell t' T,.tmp u])(S:Frm n ls lb w e a V)(h:a.tmps.getD t undef= .pointer (some ⟨g,0,none⟩))(hi:lb[i]?=some ⟨g,T,cs⟩)(h':a.tmps.getD t' undef= .pointer (some ⟨g',0,none⟩))(hi':lb[j]?=some ⟨g',T,cs'⟩)
  (hu:P.underlying T=some d) (hd:d.isRow=true) (hs:(P.info? T).map (·.size)=some cs.length) (hs':(P.info? T).map (·.size)=some cs'.length) (h2:a.tmps.getD u undef=v) (hR:R (.returned (.tuple #[.agg cs.toArray,.agg cs'.toArray,v])) V):bodyPost P fn R .ret a V:=by
 refine bodyPost_ret ?_ S.defers hR
 have e1:a.tmps[t]?.getD undef= .pointer (some ⟨g,0,none⟩):=by rw[←zag];exact h
 have e2:a.tmps[t']?.getD undef= .pointer (some ⟨g',0,none⟩):=by rw[←zag];exact h'
 have e3:a.tmps[u]?.getD undef=v:=by rw[←zag];exact h2
 have r1:=run_loadVar_row (P:=P) V g T T cs.toArray (0,0) d (S.bx i hi) hu (by cases d <;> simp_all [TypeDesc.isRow]) (by simpa using hs)
 have r2:=run_loadVar_row (P:=P) V g' T T cs'.toArray (0,0) d (S.bx j hi') hu (by cases d <;> simp_all [TypeDesc.isRow]) (by simpa using hs')
 simp[results,hr,e1,e2,e3,asAddr,r1,r2]
theorem zim (ho:o.op= .build 25 #[]):(execOp a.eval o).run Tryz.prog V= .ok (.value (.agg #[.bool false,.slice none 0 0])) V:=by
 obtain⟨dst,op,ty,pos,after,guard⟩:=o
 simp only at ho
 subst ho
 go_simp
end
theorem ze3 {b':Bool}{M:Nat}(hM:(!decide (zbF M=0))=true)(hZ':zOf b' M=Z'):Z'=0:=by
 have h0:M=0:=by
  rcases zuH M with h|h
  ·exact h
  ·rw[zdE (by omega)]at hM;cases hM
 subst h0;subst hZ';cases b' <;> rfl
theorem zpB {M:Nat}(h:(!decide (zbF M=0))=true):zbF M=30:=by
 unfold zbF at h ⊢
 split at h
 ·rw[if_pos (by assumption)]
 ·cases h
theorem zmt (h:Z=0):ZT K Z (.agg #[.bool false,.slice none 0 0]) V:=by
 subst h
 obtain⟨x,h1,h2,h3,h4,h5⟩:=zqa (V:=V)
 injection h1 with e1 e2 e3
 exact⟨false,x,by rw[←e1,←e2,←e3],⟨by simp,h2,h3⟩,by omega,h5⟩
theorem div_pos {M:Nat}(hM:(!decide (zbF M=0))=false):M≠0:=by
 rintro rfl;rw[zeX]at hM;cases hM
theorem znK {b b' c c':Bool}{r N M:Nat}(hz:zOf c N=Z)(hz':zOf c' M=Z')(hM:M≠0)(hb:b=decide (Z<0))(hb':b'=decide (Z'<0))(hs:(b != b')=true)(hr:decide (0<((r:Nat):Int))=true)(hn:r=lenL (zbv N M)):zOf (b != b') (N/M) - 1=Z.fdiv Z':=by
 have e1:N=Z.natAbs:=by rw[←hz];cases c <;> simp[zOf]
 have e2:M=Z'.natAbs:=by rw[←hz'];cases c' <;> simp[zOf]
 have h0:zbv N M≠0:=fun h=>by rw[h,zaU]at hn;have:=of_decide_eq_true hr;omega
 rw[zbZ hM]at h0
 subst e1 e2 hb hb'
 rw[hs]
 exact zlQ (fun h=>hM (by rw[h];rfl)) hs (by omega)
theorem zin {b b' c c':Bool}{r N M:Nat}(hz:zOf c N=Z)(hz':zOf c' M=Z')(hM:M≠0)(hb:b=decide (Z<0))(hb':b'=decide (Z'<0))(hs:((b != b')=true∧decide (0<((r:Nat):Int))=true)→False)(hn:r=lenL (zbv N M)):zOf (b != b') (N/M)=Z.fdiv Z':=by
 have e1:N=Z.natAbs:=by rw[←hz];cases c <;> simp[zOf]
 have e2:M=Z'.natAbs:=by rw[←hz'];cases c' <;> simp[zOf]
 rw[zbZ hM]at hn
 subst e1 e2 hb hb'
 refine zlP (fun h=>hM (by rw[h];rfl)) (fun h=>hs ⟨h.1,decide_eq_true ?_⟩)
 have:lenL (Z.natAbs%Z'.natAbs)≠0:=fun h2=>by have:=zbb.1 h2;omega
 omega
theorem zhg {q r:Int}(hq:q=Z.fdiv Z')(h0:Z'≠0)(hr:r=Z - q*Z'):r=rmz Z Z':=by
 subst hq hr
 unfold rmz
 rw[if_neg h0]
 exact zlR Z Z'
def ZDv (Z Z':Int)(v:Value)(V:World):Prop:=∃v0 v1,v= .tuple #[v0,v1,.int .i64 (zfX Z')]∧ZT 259 (Z.fdiv Z') v0 V∧ZT 259 (rmz Z Z') v1 V
theorem zt4 {Z Z':Int}{v1 v2:Value}{V:World}(h1:Z1 128 (Z) v1 V)(h2:Z1 128 (Z') v2 V):
  Calls Tryz.prog 108 #[v1,v2] V (zao V (ZDv Z Z')):=by
 obtain⟨b1,x1,rfl,hz1,hk1,ok1⟩:=h1
 obtain⟨b2,x2,rfl,hz2,hk2,ok2⟩:=h2
 refine zaD (e:=[x2,x1]) Tryz.func108 rfl Tryz.ntmps108 (zuz rfl) [(0,(aZ b1 x1)),(1,(aZ b2 x2))] rfl (zak ok2 (zak ok1 zaW)) (fun a S=>?_)
 refine wp_seq_k fun K1 hK1=>?_
 refine zaa ?_
 refine ti S (cs:=[.bool b1,aS x1]) (zaH rfl (S.at 0 rfl) rfl) (fun g1=>[⟨g1,25,[.bool b1,aS x1]⟩]) fun g1 a V1 hgg1 S=>?_
 refine ti S (cs:=[.bool b2,aS x2]) (zaH rfl (S.at 2 rfl) rfl) (fun g2=>[⟨g1,25,[.bool b1,aS x1]⟩,⟨g2,25,[.bool b2,aS x2]⟩]) fun g2 a V2 hgg2 S=>?_
 refine ti S (cs:=[.bool false,.slice none 0 0]) (zap rfl (Tryz.zeroValue25 _) rfl) (fun g3=>[⟨g1,25,[.bool b1,aS x1]⟩,⟨g2,25,[.bool b2,aS x2]⟩,⟨g3,25,[.bool false,.slice none 0 0]⟩]) fun g3 a V3 hgg3 S=>?_
 refine ti S (cs:=[.bool false,.slice none 0 0]) (zap rfl (Tryz.zeroValue25 _) rfl) (fun g4=>[⟨g1,25,[.bool b1,aS x1]⟩,⟨g2,25,[.bool b2,aS x2]⟩,⟨g3,25,[.bool false,.slice none 0 0]⟩,⟨g4,25,[.bool false,.slice none 0 0]⟩]) fun g4 a V4 hgg4 S=>?_
 refine tv S (zau rfl) fun a S=>?_
 refine hK1 _ _ ?_
 refine wp_seq_k fun K2 hK2=>?_
 refine zaa ?_
 refine tv S (zaf rfl (S.at 4 rfl) (zbu _)) fun a S=>?_
 refine tv S (zar rfl (S.at 0 rfl) (S.bx 0 rfl) (Tryz.isAgg23 _) rfl) fun a S=>?_
 refine tv S (zaf rfl (S.at 5 rfl) (zbu _)) fun a S=>?_
 refine tv S (zar rfl (S.at 0 rfl) (S.bx 1 rfl) (Tryz.isAgg23 _) rfl) fun a S=>?_
 refine tc S (F:=N2E 128 128 (x1.N/x2.N) (zbv x1.N x2.N) (zbF x2.N)) (rc2 Tryz.func85 (S.at 2 rfl) (S.at 0 rfl)) (zt3 (show N1 128 (x1.N) (aS x1) _ from⟨x1,rfl,rfl,hk1,(S.num 1 rfl)⟩) (show N1 128 (x2.N) (aS x2) _ from⟨x2,rfl,rfl,hk2,(S.num 0 rfl)⟩) (by decide) (by decide)) fun v a V5 hF hb S=>?_
 obtain⟨tv1,tv2,rfl,tf1,tf2⟩:=hF
 obtain⟨x3,rfl,hN1,hn1,hk3,ok3⟩:=tf1
 obtain⟨x4,rfl,hN2,hn2,hk4,ok4⟩:=tf2
 have S:=S.know ok4
 have S:=S.know ok3
 refine tv S (zad rfl (S.at 0 rfl)) fun a S=>?_
 refine tv S (zaq rfl (S.at 0 rfl) rfl) fun a S=>?_
 refine tv S (zaq rfl (S.at 1 rfl) rfl) fun a S=>?_
 refine tv S (zaq rfl (S.at 2 rfl) rfl) fun a S=>?_
 refine tv S (zam rfl (S.at 2 rfl)) fun a S=>?_
 refine tv S (zam rfl (S.at 2 rfl)) fun a S=>?_
 refine tv S (zam rfl (S.at 2 rfl)) fun a S=>?_
 refine hK2 _ _ ?_
 refine wp_seq_k fun K3 hK3=>?_
 refine wp_seq_k fun K4 hK4=>?_
 have S:=S.keep [9,8,7,5,4,3,2] (ls':=[(9,.int .i64 (zbF x2.N)),(8,aS x4),(7,aS x3),(5,pT g4 0),(4,pT g3 0),(3,pT g2 0),(2,pT g1 0)]) rfl
 refine zaa ?_
 refine tv S (zad rfl (S.at 0 rfl)) fun a S=>?_
 refine tv S (zdR _ (by decide) rfl (S.at 0 rfl) rfl) fun a S=>?_
 refine hK4 _ _ ?_
 rcases zuJ (!decide (zbF x2.N=0))with hc21|hc21
 ·refine wp_cond_true ((S.at 0 rfl).trans (congrArg Value.bool hc21)) ?_
  refine wp_seq_k fun K5 hK5=>?_
  refine zaa ?_
  refine tv S (zim rfl) fun a S=>?_
  refine tv S (zim rfl) fun a S=>?_
  refine tv S (zad rfl (S.at 4 rfl)) fun a S=>?_
  refine zal S (i:=2) (vs:=[.bool false,.slice none 0 0]) rfl (fun ht=>zah rfl (S.at 9 rfl) (S.at 2 rfl) zav rfl (zuz rfl) ht) (zuz rfl) rfl rfl rfl (lb':=[⟨g1,25,[.bool b1,aS x1]⟩,⟨g2,25,[.bool b2,aS x2]⟩,⟨g3,25,[.bool false,.slice none 0 0]⟩,⟨g4,25,[.bool false,.slice none 0 0]⟩]) rfl (fun V6 S=>?_)
  refine zal S (i:=3) (vs:=[.bool false,.slice none 0 0]) rfl (fun ht=>zah rfl (S.at 8 rfl) (S.at 1 rfl) zav rfl (zuz rfl) ht) (zuz rfl) rfl rfl rfl (lb':=[⟨g1,25,[.bool b1,aS x1]⟩,⟨g2,25,[.bool b2,aS x2]⟩,⟨g3,25,[.bool false,.slice none 0 0]⟩,⟨g4,25,[.bool false,.slice none 0 0]⟩]) rfl (fun V7 S=>?_)
  refine tv S (zam rfl (S.at 0 rfl)) fun a S=>?_
  refine hK5 _ _ ?_
  refine wp_ret ?_
  exact zdP rfl S (S.at 10 rfl) (i:=2) rfl (S.at 9 rfl) (j:=3) rfl Tryz.underlying25 rfl zav zav (S.at 0 rfl) ⟨_,rfl,⟨_,_,congrArg (fun z=>Value.tuple #[.agg #[.bool false,.slice none 0 0],.agg #[.bool false,.slice none 0 0],.int .i64 z]) (show zbF x2.N=zfX Z' by rw[ze3 hc21 hz2,zpB hc21];rfl),zmt (by rw[ze3 hc21 hz2];simp),zmt (by rw[ze3 hc21 hz2];rfl)⟩,S.below⟩
 ·refine wp_cond_false ((S.at 0 rfl).trans (congrArg Value.bool hc21)) ?_
  have hM:=div_pos hc21
  have hZ0:Z'≠0:=by rw[←hz2];intro h;apply hM;cases b2 <;> simp[zOf]at h <;> exact h
  refine wp_skip ?_
  refine hK3 _ _ ?_
  refine wp_seq_k fun K6 hK6=>?_
  obtain⟨W1,hW1⟩:∃W,W=V5:=⟨_,rfl⟩
  rw[←hW1]at S ⊢
  have S0:=S
  refine fr 4 [25,26,27,28] [IsV ((aZ b1 x1)),ZT 128 (Z),IsV ((aZ b2 x2)),ZT 128 (Z')] S ?_ ?_
  ·refine sc (fun _ _ S _ _=>sv rfl (zab rfl (S.at 8 rfl) (S.bx 0 rfl) Tryz.underlying25 rfl (vs:=[.bool b1,aS x1]) zav rfl)) ?_
   refine sc (fun _ _ S _ hd=>sl rfl (rc1 Tryz.func80 (hd.v 0 rfl rfl)) (zlL (show Z1 128 (Z) ((aZ b1 x1)) _ from⟨b1,x1,rfl,hz1,hk1,(S.num 3 rfl)⟩))) ?_
   refine sc (fun _ _ S _ _=>sv rfl (zab rfl (S.at 7 rfl) (S.bx 1 rfl) Tryz.underlying25 rfl (vs:=[.bool b2,aS x2]) zav rfl)) ?_
   refine sc (fun _ _ S _ hd=>sl rfl (rc1 Tryz.func80 (hd.v 2 rfl rfl)) (zlL (show Z1 128 (Z') ((aZ b2 x2)) _ from⟨b2,x2,rfl,hz2,hk2,(S.num 2 rfl)⟩))) ?_
   exact sn
  ·intro a1 V8 S hB hf
   obtain⟨b3,x5,hv1,hz3,hk5,ok5⟩:=hf.r 1 rfl rfl
   have S:=S.add hv1
   have S:=S.know ok5
   obtain⟨b4,x6,hv2,hz4,hk6,ok6⟩:=hf.r 3 rfl rfl
   have S:=S.add hv2
   have S:=S.know ok6
   clear hf S0
   show wpList _ _ _ [_,_] _ _
   refine zal S (i:=0) (vs:=[.bool b3,aS x5]) rfl (fun ht=>zah rfl (S.at 10 rfl) (S.at 1 rfl) zav rfl (zuz rfl) ht) (zuz rfl) rfl rfl rfl (lb':=[⟨g1,25,[.bool b3,aS x5]⟩,⟨g2,25,[.bool b2,aS x2]⟩,⟨g3,25,[.bool false,.slice none 0 0]⟩,⟨g4,25,[.bool false,.slice none 0 0]⟩]) rfl (fun V9 S=>?_)
   refine zal S (i:=1) (vs:=[.bool b4,aS x6]) rfl (fun ht=>zah rfl (S.at 9 rfl) (S.at 0 rfl) zav rfl (zuz rfl) ht) (zuz rfl) rfl rfl rfl (lb':=[⟨g1,25,[.bool b3,aS x5]⟩,⟨g2,25,[.bool b4,aS x6]⟩,⟨g3,25,[.bool false,.slice none 0 0]⟩,⟨g4,25,[.bool false,.slice none 0 0]⟩]) rfl (fun V10 S=>?_)
   refine hK6 _ _ ?_
   refine wp_seq_k fun K7 hK7=>?_
   refine zaa ?_
   refine tv S (zaf rfl (S.at 10 rfl) (za9 _)) fun a S=>?_
   refine tv S (zar rfl (S.at 0 rfl) (S.bx 0 rfl) (Tryz.isAgg4 _) rfl) fun a S=>?_
   refine tv S (zaf rfl (S.at 11 rfl) (za9 _)) fun a S=>?_
   refine tv S (zar rfl (S.at 0 rfl) (S.bx 1 rfl) (Tryz.isAgg4 _) rfl) fun a S=>?_
   refine tv S (zfI rfl (S.at 2 rfl) (S.at 0 rfl)) fun a S=>?_
   refine tv S (zad rfl (S.at 11 rfl)) fun a S=>?_
   refine tv S (zaL rfl (S.at 1 rfl) (S.at 0 rfl) (zf1 _ _ _ _)) fun a S=>?_
   refine tc S (F:=ZT 128 (zOf (b3 != b4) (x1.N/x2.N))) (rc1 Tryz.func80 (S.at 0 rfl)) (zlL (show Z1 128 (zOf (b3 != b4) (x1.N/x2.N)) (.agg #[.bool (b3 != b4),aS x3]) _ from⟨(b3 != b4),x3,rfl,congrArg (zOf (b3 != b4)) hN1,hk3,(S.num 2 rfl)⟩)) fun v a V11 hF hb S=>?_
   obtain⟨b5,x7,rfl,hz5,hk7,ok7⟩:=hF
   have S:=S.know ok7
   refine ti S (cs:=[.bool false,.slice none 0 0]) (zap rfl (Tryz.zeroValue25 _) rfl) (fun g5=>[⟨g1,25,[.bool b3,aS x5]⟩,⟨g2,25,[.bool b4,aS x6]⟩,⟨g3,25,[.bool false,.slice none 0 0]⟩,⟨g4,25,[.bool false,.slice none 0 0]⟩,⟨g5,25,[.bool false,.slice none 0 0]⟩]) fun g5 a V12 hgg5 S=>?_
   refine zal S (i:=4) (vs:=[.bool b5,aS x7]) rfl (fun ht=>zah rfl (S.at 0 rfl) (S.at 1 rfl) zav rfl (zuz rfl) ht) (zuz rfl) rfl rfl rfl (lb':=[⟨g1,25,[.bool b3,aS x5]⟩,⟨g2,25,[.bool b4,aS x6]⟩,⟨g3,25,[.bool false,.slice none 0 0]⟩,⟨g4,25,[.bool false,.slice none 0 0]⟩,⟨g5,25,[.bool b5,aS x7]⟩]) rfl (fun V13 S=>?_)
   refine hK7 _ _ ?_
   refine wp_seq_k fun K8 hK8=>?_
   refine wp_seq_k fun K9 hK9=>?_
   rcases zuJ ((b3 != b4))with hs6|hs6
   ·skip
    have S:=S.keep [10,8,5,4,3,2] (ls':=[(10,pT g5 0),(8,aS x4),(5,pT g4 0),(4,pT g3 0),(3,pT g2 0),(2,pT g1 0)]) rfl
    refine zaa ?_
    refine tv S (zaf rfl (S.at 5 rfl) (za9 _)) fun a S=>?_
    refine tv S (zar rfl (S.at 0 rfl) (S.bx 0 rfl) (Tryz.isAgg4 _) rfl) fun a S=>?_
    refine tv S (zaf rfl (S.at 6 rfl) (za9 _)) fun a S=>?_
    refine tv S (zar rfl (S.at 0 rfl) (S.bx 1 rfl) (Tryz.isAgg4 _) rfl) fun a S=>?_
    refine tv S (zbc (zfI rfl (S.at 2 rfl) (S.at 0 rfl)) (show(b3 != b4)=true from hs6)) fun a S=>?_
    refine tv S (zad rfl (S.at 0 rfl)) fun a S=>?_
    refine tvg S (S.at 0 rfl) (zad rfl (S.at 7 rfl)) fun a S=>?_
    refine tvg S (S.at 1 rfl) (zcP (by decide) rfl (S.at 0 rfl)) fun a S=>?_
    refine tvg S (S.at 2 rfl) (zf2 rfl (S.at 0 rfl) rfl) fun a S=>?_
    refine tv S (zaM true rfl (S.at 3 rfl) (S.at 0 rfl)) fun a S=>?_
    refine hK9 _ _ ?_
    rcases zuJ (decide (0<((x4.n:Nat):Int)))with hc46|hc46
    ·refine wp_cond_true ((S.at 0 rfl).trans (congrArg Value.bool hc46)) ?_
     obtain⟨W2,hW2⟩:∃W,W=V13:=⟨_,rfl⟩
     rw[←hW2]at S ⊢
     have S0:=S
     refine fr 3 [47,48,49] [IsV ((aZ b5 x7)),ZT 2 (1),ZT 129 ((zOf (b3 != b4) (x1.N/x2.N)) - 1)] S ?_ ?_
     ·refine sc (fun _ _ S _ _=>sv rfl (zab rfl (S.at 10 rfl) (S.bx 4 rfl) Tryz.underlying25 rfl (vs:=[.bool b5,aS x7]) zav rfl)) ?_
      refine sc (fun _ _ _ _ _=>sl rfl (rcc Tryz.func44) (zjg (n:=1) (by decide))) ?_
      refine sc (fun _ _ S _ hd=>sl rfl (rc2 Tryz.func94 (hd.v 0 rfl rfl) rfl) (zkF (show ZT 128 (zOf (b3 != b4) (x1.N/x2.N)) ((aZ b5 x7)) _ from⟨b5,x7,rfl,hz5,hk7,(S.num 0 rfl)⟩).any ((hd.r 1 rfl rfl)).any (by decide) (by decide))) ?_
      exact sn
     ·intro a2 V14 S hB hf
      obtain⟨b6,x8,hv3,hz6,hk8,ok8⟩:=hf.r 2 rfl rfl
      have S:=S.add hv3
      have S:=S.know ok8
      clear hf S0
      show wpList _ _ _ [_] _ _
      refine zal S (i:=4) (vs:=[.bool b6,aS x8]) rfl (fun ht=>zah rfl (S.at 11 rfl) (S.at 0 rfl) zav rfl (zuz rfl) ht) (zuz rfl) rfl rfl rfl (lb':=[⟨g1,25,[.bool b3,aS x5]⟩,⟨g2,25,[.bool b4,aS x6]⟩,⟨g3,25,[.bool false,.slice none 0 0]⟩,⟨g4,25,[.bool false,.slice none 0 0]⟩,⟨g5,25,[.bool b6,aS x8]⟩]) rfl (fun V15 S=>?_)
      refine hK8 _ _ ?_
      refine wp_seq_k fun K10 hK10=>?_
      have hQ:=znK hz1 hz2 hM hz3.1 hz4.1 hs6 hc46 hn2
      have S:=S.keep [10,5,4,3,2] (ls':=[(10,pT g5 0),(5,pT g4 0),(4,pT g3 0),(3,pT g2 0),(2,pT g1 0)]) rfl
      obtain⟨W3,hW3⟩:∃W,W=V15:=⟨_,rfl⟩
      rw[←hW3]at S ⊢
      have S0:=S
      refine fr 7 [50,51,52,53,54,55,56] [IsV ((aZ b6 x8)),IsV ((aZ b3 x5)),IsV ((aZ b6 x8)),IsV ((aZ b4 x6)),ZL 129 4 ([(zOf (b3 != b4) (x1.N/x2.N)) - 1,Z']),ZT 258 (((zOf (b3 != b4) (x1.N/x2.N)) - 1)*(Z')),ZT 259 (Z - (((zOf (b3 != b4) (x1.N/x2.N)) - 1)*(Z')))] S ?_ ?_
      ·refine sc (fun _ _ S _ _=>sv rfl (zab rfl (S.at 0 rfl) (S.bx 4 rfl) Tryz.underlying25 rfl (vs:=[.bool b6,aS x8]) zav rfl)) ?_
       refine sc (fun _ _ S _ _=>sv rfl (zab rfl (S.at 4 rfl) (S.bx 0 rfl) Tryz.underlying25 rfl (vs:=[.bool b3,aS x5]) zav rfl)) ?_
       refine sc (fun _ _ S _ _=>sv rfl (zab rfl (S.at 0 rfl) (S.bx 4 rfl) Tryz.underlying25 rfl (vs:=[.bool b6,aS x8]) zav rfl)) ?_
       refine sc (fun _ _ S _ _=>sv rfl (zab rfl (S.at 3 rfl) (S.bx 1 rfl) Tryz.underlying25 rfl (vs:=[.bool b4,aS x6]) zav rfl)) ?_
       refine sc (fun _ _ S _ hd=>sy rfl (zbH rfl (hd.v 2 rfl rfl) (hd.v 3 rfl rfl) (show ZT 129 ((zOf (b3 != b4) (x1.N/x2.N)) - 1) ((aZ b6 x8)) _ from⟨b6,x8,rfl,hz6,hk8,(S.num 0 rfl)⟩).any (((show ZT 128 (Z') ((aZ b4 x6)) _ from⟨b4,x6,rfl,hz4,hk6,(S.num 2 rfl)⟩).any).to rfl (by omega)))) ?_
       refine sc (fun _ _ _ _ hd=>sl rfl (rc1 Tryz.func90 rfl) (zeR ((hd.r 4 rfl rfl)).row (by decide))) ?_
       refine sc (fun _ _ S _ hd=>sl rfl (rc2 Tryz.func94 (hd.v 1 rfl rfl) rfl) (zkF (show ZT 128 (Z) ((aZ b3 x5)) _ from⟨b3,x5,rfl,hz3,hk5,(S.num 3 rfl)⟩).any ((hd.r 5 rfl rfl)).any (by decide) (by decide))) ?_
       exact sn
      ·intro a3 V16 S hB hf
       have S:=S.add (hf.v 0 rfl rfl)
       obtain⟨b7,x9,hv4,hz7,hk9,ok9⟩:=hf.r 6 rfl rfl
       have S:=S.add hv4
       have S:=S.know ok9
       clear hf S0
       show wpList _ _ _ [_,_,_] _ _
       refine zal S (i:=2) (vs:=[.bool b6,aS x8]) rfl (fun ht=>zah rfl (S.at 4 rfl) (S.at 1 rfl) zav rfl (zuz rfl) ht) (zuz rfl) rfl rfl rfl (lb':=[⟨g1,25,[.bool b3,aS x5]⟩,⟨g2,25,[.bool b4,aS x6]⟩,⟨g3,25,[.bool b6,aS x8]⟩,⟨g4,25,[.bool false,.slice none 0 0]⟩,⟨g5,25,[.bool b6,aS x8]⟩]) rfl (fun V17 S=>?_)
       refine zal S (i:=3) (vs:=[.bool b7,aS x9]) rfl (fun ht=>zah rfl (S.at 3 rfl) (S.at 0 rfl) zav rfl (zuz rfl) ht) (zuz rfl) rfl rfl rfl (lb':=[⟨g1,25,[.bool b3,aS x5]⟩,⟨g2,25,[.bool b4,aS x6]⟩,⟨g3,25,[.bool b6,aS x8]⟩,⟨g4,25,[.bool b7,aS x9]⟩,⟨g5,25,[.bool b6,aS x8]⟩]) rfl (fun V18 S=>?_)
       refine tv S (zau rfl) fun a S=>?_
       refine hK10 _ _ ?_
       refine wp_ret ?_
       exact zdP rfl S (S.at 5 rfl) (i:=2) rfl (S.at 4 rfl) (j:=3) rfl Tryz.underlying25 rfl zav zav (S.at 0 rfl) ⟨_,rfl,⟨_,_,congrArg (fun z=>Value.tuple #[(aZ b6 x8),(aZ b7 x9),.int .i64 z]) (show(0:Int)=zfX Z' by unfold zfX;rw[if_neg hZ0]),(show ZT 129 ((zOf (b3 != b4) (x1.N/x2.N)) - 1) ((aZ b6 x8)) _ from⟨b6,x8,rfl,hz6,hk8,(S.num 1 rfl)⟩).to hQ (by decide),(show ZT 259 (Z - (((zOf (b3 != b4) (x1.N/x2.N)) - 1)*(Z'))) ((aZ b7 x9)) _ from⟨b7,x9,rfl,hz7,hk9,(S.num 0 rfl)⟩).to (zhg hQ hZ0 rfl) (by decide)⟩,S.below⟩
    ·refine wp_cond_false ((S.at 0 rfl).trans (congrArg Value.bool hc46)) ?_
     refine wp_skip ?_
     refine hK8 _ _ ?_
     refine wp_seq_k fun K11 hK11=>?_
     have hQ:=zin hz1 hz2 hM hz3.1 hz4.1 (fun h=>by rw[hc46]at h;exact absurd h.2 (by decide)) hn2
     obtain⟨W4,hW4⟩:∃W,W=V13:=⟨_,rfl⟩
     rw[←hW4]at S ⊢
     have S0:=S
     refine fr 7 [50,51,52,53,54,55,56] [IsV ((aZ b5 x7)),IsV ((aZ b3 x5)),IsV ((aZ b5 x7)),IsV ((aZ b4 x6)),ZL 128 4 ([zOf (b3 != b4) (x1.N/x2.N),Z']),ZT 256 ((zOf (b3 != b4) (x1.N/x2.N))*(Z')),ZT 257 (Z - ((zOf (b3 != b4) (x1.N/x2.N))*(Z')))] S ?_ ?_
     ·refine sc (fun _ _ S _ _=>sv rfl (zab rfl (S.at 10 rfl) (S.bx 4 rfl) Tryz.underlying25 rfl (vs:=[.bool b5,aS x7]) zav rfl)) ?_
      refine sc (fun _ _ S _ _=>sv rfl (zab rfl (S.at 15 rfl) (S.bx 0 rfl) Tryz.underlying25 rfl (vs:=[.bool b3,aS x5]) zav rfl)) ?_
      refine sc (fun _ _ S _ _=>sv rfl (zab rfl (S.at 10 rfl) (S.bx 4 rfl) Tryz.underlying25 rfl (vs:=[.bool b5,aS x7]) zav rfl)) ?_
      refine sc (fun _ _ S _ _=>sv rfl (zab rfl (S.at 14 rfl) (S.bx 1 rfl) Tryz.underlying25 rfl (vs:=[.bool b4,aS x6]) zav rfl)) ?_
      refine sc (fun _ _ S _ hd=>sy rfl (zbH rfl (hd.v 2 rfl rfl) (hd.v 3 rfl rfl) (show ZT 128 (zOf (b3 != b4) (x1.N/x2.N)) ((aZ b5 x7)) _ from⟨b5,x7,rfl,hz5,hk7,(S.num 0 rfl)⟩).any (show ZT 128 (Z') ((aZ b4 x6)) _ from⟨b4,x6,rfl,hz4,hk6,(S.num 1 rfl)⟩).any)) ?_
      refine sc (fun _ _ _ _ hd=>sl rfl (rc1 Tryz.func90 rfl) (zeR ((hd.r 4 rfl rfl)).row (by decide))) ?_
      refine sc (fun _ _ S _ hd=>sl rfl (rc2 Tryz.func94 (hd.v 1 rfl rfl) rfl) (zkF (show ZT 128 (Z) ((aZ b3 x5)) _ from⟨b3,x5,rfl,hz3,hk5,(S.num 2 rfl)⟩).any ((hd.r 5 rfl rfl)).any (by decide) (by decide))) ?_
      exact sn
     ·intro a4 V19 S hB hf
      have S:=S.add (hf.v 0 rfl rfl)
      obtain⟨b8,x10,hv5,hz8,hk10,ok10⟩:=hf.r 6 rfl rfl
      have S:=S.add hv5
      have S:=S.know ok10
      clear hf S0
      show wpList _ _ _ [_,_,_] _ _
      refine zal S (i:=2) (vs:=[.bool b5,aS x7]) rfl (fun ht=>zah rfl (S.at 15 rfl) (S.at 1 rfl) zav rfl (zuz rfl) ht) (zuz rfl) rfl rfl rfl (lb':=[⟨g1,25,[.bool b3,aS x5]⟩,⟨g2,25,[.bool b4,aS x6]⟩,⟨g3,25,[.bool b5,aS x7]⟩,⟨g4,25,[.bool false,.slice none 0 0]⟩,⟨g5,25,[.bool b5,aS x7]⟩]) rfl (fun V20 S=>?_)
      refine zal S (i:=3) (vs:=[.bool b8,aS x10]) rfl (fun ht=>zah rfl (S.at 14 rfl) (S.at 0 rfl) zav rfl (zuz rfl) ht) (zuz rfl) rfl rfl rfl (lb':=[⟨g1,25,[.bool b3,aS x5]⟩,⟨g2,25,[.bool b4,aS x6]⟩,⟨g3,25,[.bool b5,aS x7]⟩,⟨g4,25,[.bool b8,aS x10]⟩,⟨g5,25,[.bool b5,aS x7]⟩]) rfl (fun V21 S=>?_)
      refine tv S (zau rfl) fun a S=>?_
      refine hK11 _ _ ?_
      refine wp_ret ?_
      exact zdP rfl S (S.at 16 rfl) (i:=2) rfl (S.at 15 rfl) (j:=3) rfl Tryz.underlying25 rfl zav zav (S.at 0 rfl) ⟨_,rfl,⟨_,_,congrArg (fun z=>Value.tuple #[(aZ b5 x7),(aZ b8 x10),.int .i64 z]) (show(0:Int)=zfX Z' by unfold zfX;rw[if_neg hZ0]),(show ZT 128 (zOf (b3 != b4) (x1.N/x2.N)) ((aZ b5 x7)) _ from⟨b5,x7,rfl,hz5,hk7,(S.num 1 rfl)⟩).to hQ (by decide),(show ZT 257 (Z - ((zOf (b3 != b4) (x1.N/x2.N))*(Z'))) ((aZ b8 x10)) _ from⟨b8,x10,rfl,hz8,hk10,(S.num 0 rfl)⟩).to (zhg hQ hZ0 rfl) (by decide)⟩,S.below⟩
   ·skip
    have S:=S.keep [10,8,5,4,3,2] (ls':=[(10,pT g5 0),(8,aS x4),(5,pT g4 0),(4,pT g3 0),(3,pT g2 0),(2,pT g1 0)]) rfl
    refine zaa ?_
    refine tv S (zaf rfl (S.at 5 rfl) (za9 _)) fun a S=>?_
    refine tv S (zar rfl (S.at 0 rfl) (S.bx 0 rfl) (Tryz.isAgg4 _) rfl) fun a S=>?_
    refine tv S (zaf rfl (S.at 6 rfl) (za9 _)) fun a S=>?_
    refine tv S (zar rfl (S.at 0 rfl) (S.bx 1 rfl) (Tryz.isAgg4 _) rfl) fun a S=>?_
    refine tv S (zbc (zfI rfl (S.at 2 rfl) (S.at 0 rfl)) (show(b3 != b4)=false from hs6)) fun a S=>?_
    refine tv S (zad rfl (S.at 0 rfl)) fun a S=>?_
    refine tk S (S.at 0 rfl) fun a S=>?_
    refine tk S (S.at 1 rfl) fun a S=>?_
    refine tk S (S.at 2 rfl) fun a S=>?_
    refine tv S (zaM false rfl (S.at 3 rfl) rfl) fun a S=>?_
    refine hK9 _ _ ?_
    refine wp_cond_false (S.at 0 rfl) ?_
    refine wp_skip ?_
    refine hK8 _ _ ?_
    refine wp_seq_k fun K12 hK12=>?_
    have hQ:=zin hz1 hz2 hM hz3.1 hz4.1 (fun h=>by rw[hs6]at h;exact absurd h.1 (by decide)) hn2
    obtain⟨W5,hW5⟩:∃W,W=V13:=⟨_,rfl⟩
    rw[←hW5]at S ⊢
    have S0:=S
    refine fr 7 [50,51,52,53,54,55,56] [IsV ((aZ b5 x7)),IsV ((aZ b3 x5)),IsV ((aZ b5 x7)),IsV ((aZ b4 x6)),ZL 128 4 ([zOf (b3 != b4) (x1.N/x2.N),Z']),ZT 256 ((zOf (b3 != b4) (x1.N/x2.N))*(Z')),ZT 257 (Z - ((zOf (b3 != b4) (x1.N/x2.N))*(Z')))] S ?_ ?_
    ·refine sc (fun _ _ S _ _=>sv rfl (zab rfl (S.at 10 rfl) (S.bx 4 rfl) Tryz.underlying25 rfl (vs:=[.bool b5,aS x7]) zav rfl)) ?_
     refine sc (fun _ _ S _ _=>sv rfl (zab rfl (S.at 15 rfl) (S.bx 0 rfl) Tryz.underlying25 rfl (vs:=[.bool b3,aS x5]) zav rfl)) ?_
     refine sc (fun _ _ S _ _=>sv rfl (zab rfl (S.at 10 rfl) (S.bx 4 rfl) Tryz.underlying25 rfl (vs:=[.bool b5,aS x7]) zav rfl)) ?_
     refine sc (fun _ _ S _ _=>sv rfl (zab rfl (S.at 14 rfl) (S.bx 1 rfl) Tryz.underlying25 rfl (vs:=[.bool b4,aS x6]) zav rfl)) ?_
     refine sc (fun _ _ S _ hd=>sy rfl (zbH rfl (hd.v 2 rfl rfl) (hd.v 3 rfl rfl) (show ZT 128 (zOf (b3 != b4) (x1.N/x2.N)) ((aZ b5 x7)) _ from⟨b5,x7,rfl,hz5,hk7,(S.num 0 rfl)⟩).any (show ZT 128 (Z') ((aZ b4 x6)) _ from⟨b4,x6,rfl,hz4,hk6,(S.num 1 rfl)⟩).any)) ?_
     refine sc (fun _ _ _ _ hd=>sl rfl (rc1 Tryz.func90 rfl) (zeR ((hd.r 4 rfl rfl)).row (by decide))) ?_
     refine sc (fun _ _ S _ hd=>sl rfl (rc2 Tryz.func94 (hd.v 1 rfl rfl) rfl) (zkF (show ZT 128 (Z) ((aZ b3 x5)) _ from⟨b3,x5,rfl,hz3,hk5,(S.num 2 rfl)⟩).any ((hd.r 5 rfl rfl)).any (by decide) (by decide))) ?_
     exact sn
    ·intro a5 V22 S hB hf
     have S:=S.add (hf.v 0 rfl rfl)
     obtain⟨b9,x11,hv6,hz9,hk11,ok11⟩:=hf.r 6 rfl rfl
     have S:=S.add hv6
     have S:=S.know ok11
     clear hf S0
     show wpList _ _ _ [_,_,_] _ _
     refine zal S (i:=2) (vs:=[.bool b5,aS x7]) rfl (fun ht=>zah rfl (S.at 15 rfl) (S.at 1 rfl) zav rfl (zuz rfl) ht) (zuz rfl) rfl rfl rfl (lb':=[⟨g1,25,[.bool b3,aS x5]⟩,⟨g2,25,[.bool b4,aS x6]⟩,⟨g3,25,[.bool b5,aS x7]⟩,⟨g4,25,[.bool false,.slice none 0 0]⟩,⟨g5,25,[.bool b5,aS x7]⟩]) rfl (fun V23 S=>?_)
     refine zal S (i:=3) (vs:=[.bool b9,aS x11]) rfl (fun ht=>zah rfl (S.at 14 rfl) (S.at 0 rfl) zav rfl (zuz rfl) ht) (zuz rfl) rfl rfl rfl (lb':=[⟨g1,25,[.bool b3,aS x5]⟩,⟨g2,25,[.bool b4,aS x6]⟩,⟨g3,25,[.bool b5,aS x7]⟩,⟨g4,25,[.bool b9,aS x11]⟩,⟨g5,25,[.bool b5,aS x7]⟩]) rfl (fun V24 S=>?_)
     refine tv S (zau rfl) fun a S=>?_
     refine hK12 _ _ ?_
     refine wp_ret ?_
     exact zdP rfl S (S.at 16 rfl) (i:=2) rfl (S.at 15 rfl) (j:=3) rfl Tryz.underlying25 rfl zav zav (S.at 0 rfl) ⟨_,rfl,⟨_,_,congrArg (fun z=>Value.tuple #[(aZ b5 x7),(aZ b9 x11),.int .i64 z]) (show(0:Int)=zfX Z' by unfold zfX;rw[if_neg hZ0]),(show ZT 128 (zOf (b3 != b4) (x1.N/x2.N)) ((aZ b5 x7)) _ from⟨b5,x7,rfl,hz5,hk7,(S.num 1 rfl)⟩).to hQ (by decide),(show ZT 257 (Z - ((zOf (b3 != b4) (x1.N/x2.N))*(Z'))) ((aZ b9 x11)) _ from⟨b9,x11,rfl,hz9,hk11,(S.num 0 rfl)⟩).to (zhg hQ hZ0 rfl) (by decide)⟩,S.below⟩
theorem zsl (h:Z1 K Z v V)(h':Z1 K' Z' v' V)(b:K≤128)(b':K'≤128):Calls Tryz.prog 108 #[v,v'] V (zao V (ZDiv K K' Z Z')):=by
 have l1:=h.lt
 have l2:=h'.lt
 obtain⟨bb,x,rfl,hz,hk,ho⟩:=h
 obtain⟨bb',y,rfl,hz',hk',ho'⟩:=h'
 have ha:=zhf Z Z'
 have p1:=zan K
 have e1:(Z.fdiv Z').natAbs<Bw^(K+1):=by
  have:Bw^(K+1)=Bw^K*4294967296:=by rw[Nat.pow_succ];rw[zaX]
  omega
 have e2:(rmz Z Z').natAbs<Bw^(max K K'+1):=by
  have a1:=zuD l1 (zc5 (show K≤max K K' by omega))
  have a2:=zuD l2 (zc5 (show K'≤max K K' by omega))
  have:=zeJ a1 a2
  omega
 exact zbn (zt4 (Z1.to ⟨bb,x,rfl,hz,hk,ho⟩ rfl b) (Z1.to ⟨bb',y,rfl,hz',hk',ho'⟩ rfl b')) (fun _ _ ⟨u,u',g1,g2,g3⟩=>⟨u,u',g1,g2.lim e1,g3.lim e2⟩)
theorem zly (q1 q2:Rat):q1+ -q2=q1 - q2:=(Rat.sub_eq_add_neg q1 q2).symm
theorem zrq (q1 q2:Rat):Int.sign (q1.num*(q2.den:Int) - q2.num*(q1.den:Int))=zaK q1 q2:=(zit q1 q2).symm
theorem zio (q:Rat)(s:Nat){b:Bool}(hb:b=decide (q.num<0)):zOf b (q.num.natAbs*2^s)=q.num*((2^s:Nat):Int):=by
 have h:=zcn q.num
 rw[←hb]at h
 conv=>rhs;rw[←h]
 cases b
 ·rw[zbg,zbg,Int.natCast_mul]
 ·rw[zbh,zbh,Int.natCast_mul,Int.neg_mul]
theorem zpC (q:Rat)(s:Nat){b:Bool}(hb:b=decide (q.num<0)):Int.fdiv (zOf b (q.num.natAbs*2^s)) (q.den:Int)+1=(q*2^s).floor+1:=by
 rw[zio q s hb,zqc]
theorem zpD (x y:Int):zbS x y<0↔x<y:=by
 unfold zbS
 split
 ·rename_i h;simp[h]
 ·rename_i h
  split
  ·simp;omega
  ·simp;omega
theorem zrr (lo hi:Rat)(s:Nat){b:Bool}(hb:b=decide (hi.num<0)):decide (zbS ((Rat.floor (lo*2^s)+1)*(hi.den:Int)) (zOf b (hi.num.natAbs*2^s))<0)=zb4 lo hi s:=by
 rw[zio hi s hb]
 unfold zb4
 rw[decide_eq_decide]
 unfold room
 rw[←zqd]
 exact zpD _ _
theorem zt5 {q1 q2:Rat}{v1 v2:Value}{V:World}(h1:Q1 128 (q1) v1 V)(h2:Q1 128 (q2) v2 V):
  Calls Tryz.prog 19 #[v1,v2] V (zao V (fun v _=>v= .int .i64 (zaK q1 q2))):=by
 obtain⟨b1,x1,y1,rfl,hq1,hk1,hk2,ok1,ok2⟩:=h1
 obtain⟨b2,x2,y2,rfl,hq2,hk3,hk4,ok3,ok4⟩:=h2
 refine zaD (e:=[x2,y2,x1,y1]) Tryz.func19 rfl Tryz.ntmps19 (zuz rfl) [(0,(aG b1 x1 y1)),(1,(aG b2 x2 y2))] rfl (zak ok3 (zak ok4 (zak ok1 (zak ok2 zaW)))) (fun a S=>?_)
 refine wp_seq_k fun K1 hK1=>?_
 refine zaa ?_
 refine ti S (cs:=(aL b1 x1 y1)) (zaH rfl (S.at 0 rfl) rfl) (fun g1=>[⟨g1,27,(aL b1 x1 y1)⟩]) fun g1 a V1 hgg1 S=>?_
 refine ti S (cs:=(aL b2 x2 y2)) (zaH rfl (S.at 2 rfl) rfl) (fun g2=>[⟨g1,27,(aL b1 x1 y1)⟩,⟨g2,27,(aL b2 x2 y2)⟩]) fun g2 a V2 hgg2 S=>?_
 refine tv S (zau rfl) fun a S=>?_
 refine hK1 _ _ ?_
 refine wp_seq_k fun K2 hK2=>?_
 obtain⟨W1,hW1⟩:∃W,W=V2:=⟨_,rfl⟩
 rw[←hW1]at S ⊢
 have S0:=S
 refine fr 4 [5,6,7,8] [IsV ((aG b1 x1 y1)),QT 128 (q1),IsV ((aG b2 x2 y2)),QT 128 (q2)] S ?_ ?_
 ·refine sc (fun _ _ S _ _=>sv rfl (zab rfl (S.at 2 rfl) (S.bx 0 rfl) Tryz.underlying27 rfl (vs:=(aL b1 x1 y1)) zae rfl)) ?_
  refine sc (fun _ _ S _ hd=>sl rfl (rc1 Tryz.func25 (hd.v 0 rfl rfl)) (zdl (show Q1 128 (q1) ((aG b1 x1 y1)) _ from⟨b1,x1,y1,rfl,hq1,hk1,hk2,(S.num 2 rfl),(S.num 3 rfl)⟩) (by decide))) ?_
  refine sc (fun _ _ S _ _=>sv rfl (zab rfl (S.at 1 rfl) (S.bx 1 rfl) Tryz.underlying27 rfl (vs:=(aL b2 x2 y2)) zae rfl)) ?_
  refine sc (fun _ _ S _ hd=>sl rfl (rc1 Tryz.func25 (hd.v 2 rfl rfl)) (zdl (show Q1 128 (q2) ((aG b2 x2 y2)) _ from⟨b2,x2,y2,rfl,hq2,hk3,hk4,(S.num 0 rfl),(S.num 1 rfl)⟩) (by decide))) ?_
  exact sn
 ·intro a1 V3 S hB hf
  obtain⟨b3,x3,y3,hv1,hq3,hk5,hk6,ok5,ok6⟩:=hf.r 1 rfl rfl
  have S:=S.add hv1
  have S:=S.know ok5
  have S:=S.know ok6
  obtain⟨b4,x4,y4,hv2,hq4,hk7,hk8,ok7,ok8⟩:=hf.r 3 rfl rfl
  have S:=S.add hv2
  have S:=S.know ok7
  have S:=S.know ok8
  clear hf S0
  show wpList _ _ _ [_,_] _ _
  refine zal S (i:=0) (vs:=(aL b3 x3 y3)) rfl (fun ht=>zah rfl (S.at 4 rfl) (S.at 1 rfl) zae rfl (zuz rfl) ht) (zuz rfl) rfl rfl rfl (lb':=[⟨g1,27,(aL b3 x3 y3)⟩,⟨g2,27,(aL b2 x2 y2)⟩]) rfl (fun V4 S=>?_)
  refine zal S (i:=1) (vs:=(aL b4 x4 y4)) rfl (fun ht=>zah rfl (S.at 3 rfl) (S.at 0 rfl) zae rfl (zuz rfl) ht) (zuz rfl) rfl rfl rfl (lb':=[⟨g1,27,(aL b3 x3 y3)⟩,⟨g2,27,(aL b4 x4 y4)⟩]) rfl (fun V5 S=>?_)
  refine hK2 _ _ ?_
  refine wp_seq_k fun K3 hK3=>?_
  have S:=S.keep [4,3,2] (ls':=[(4,.int .i64 0),(3,pT g2 0),(2,pT g1 0)]) rfl
  obtain⟨W2,hW2⟩:∃W,W=V5:=⟨_,rfl⟩
  rw[←hW2]at S ⊢
  have S0:=S
  refine fr 16 [9,10,11,12,13,14,15,16,17,18,19,20,21,22,23,24] [IsV (pT g1 0),IsV ((aZ b3 x3)),IsV (pT g2 2),IsV (aS y4),ZT 128 (((q2).den:Int)),ZL 128 4 ([(q1).num,((q2).den:Int)]),ZT 256 (((q1).num)*((q2).den:Int)),IsV (pT g2 0),IsV ((aZ b4 x4)),IsV (pT g1 2),IsV (aS y3),ZT 128 (((q1).den:Int)),ZL 128 4 ([(q2).num,((q1).den:Int)]),ZT 256 (((q2).num)*((q1).den:Int)),ZT 257 ((((q1).num)*((q2).den:Int)) - (((q2).num)*((q1).den:Int))),IsV (.int .i64 (Int.sign ((((q1).num)*((q2).den:Int)) - (((q2).num)*((q1).den:Int)))))] S ?_ ?_
  ·refine sc (fun _ _ S _ _=>sv rfl (zaf rfl (S.at 2 rfl) (za6 _))) ?_
   refine sc (fun _ _ S _ hd=>sv rfl (zab rfl (hd.v 0 rfl rfl) (S.bx 0 rfl) Tryz.underlying25 rfl (vs:=[.bool b3,aS x3]) zav rfl)) ?_
   refine sc (fun _ _ S _ _=>sv rfl (zaf rfl (S.at 1 rfl) (za0 _))) ?_
   refine sc (fun _ _ S _ hd=>sv rfl (zar rfl (hd.v 2 rfl rfl) (S.bx 1 rfl) (Tryz.isAgg23 _) rfl)) ?_
   refine sc (fun _ _ S _ hd=>sl rfl (rc1 Tryz.func95 (hd.v 3 rfl rfl)) (ze8 (show NT 128 ((q2).den) (aS y4) _ from⟨y4,rfl,hq4.2.2.2.1,(by rw[←hq4.2.2.2.1];exact hq4.2.2.2.2),hk8,(S.num 0 rfl)⟩))) ?_
   refine sc (fun _ _ S _ hd=>sy rfl (zbH rfl (hd.v 1 rfl rfl) rfl (show ZT 128 ((q1).num) ((aZ b3 x3)) _ from⟨b3,x3,rfl,(show b3=decide ((q1).num<0)∧x3.N=(q1).num.natAbs∧x3.n=lenL (q1).num.natAbs from⟨hq3.1,hq3.2.1,by rw[←hq3.2.1];exact hq3.2.2.1⟩),hk5,(S.num 3 rfl)⟩).any ((hd.r 4 rfl rfl)).any)) ?_
   refine sc (fun _ _ _ _ hd=>sl rfl (rc1 Tryz.func90 rfl) (zeR ((hd.r 5 rfl rfl)).row (by decide))) ?_
   refine sc (fun _ _ S _ _=>sv rfl (zaf rfl (S.at 1 rfl) (za6 _))) ?_
   refine sc (fun _ _ S _ hd=>sv rfl (zab rfl (hd.v 7 rfl rfl) (S.bx 1 rfl) Tryz.underlying25 rfl (vs:=[.bool b4,aS x4]) zav rfl)) ?_
   refine sc (fun _ _ S _ _=>sv rfl (zaf rfl (S.at 2 rfl) (za0 _))) ?_
   refine sc (fun _ _ S _ hd=>sv rfl (zar rfl (hd.v 9 rfl rfl) (S.bx 0 rfl) (Tryz.isAgg23 _) rfl)) ?_
   refine sc (fun _ _ S _ hd=>sl rfl (rc1 Tryz.func95 (hd.v 10 rfl rfl)) (ze8 (show NT 128 ((q1).den) (aS y3) _ from⟨y3,rfl,hq3.2.2.2.1,(by rw[←hq3.2.2.2.1];exact hq3.2.2.2.2),hk6,(S.num 2 rfl)⟩))) ?_
   refine sc (fun _ _ S _ hd=>sy rfl (zbH rfl (hd.v 8 rfl rfl) rfl (show ZT 128 ((q2).num) ((aZ b4 x4)) _ from⟨b4,x4,rfl,(show b4=decide ((q2).num<0)∧x4.N=(q2).num.natAbs∧x4.n=lenL (q2).num.natAbs from⟨hq4.1,hq4.2.1,by rw[←hq4.2.1];exact hq4.2.2.1⟩),hk7,(S.num 1 rfl)⟩).any ((hd.r 11 rfl rfl)).any)) ?_
   refine sc (fun _ _ _ _ hd=>sl rfl (rc1 Tryz.func90 rfl) (zeR ((hd.r 12 rfl rfl)).row (by decide))) ?_
   refine sc (fun _ _ _ _ hd=>sl rfl (rc2 Tryz.func94 rfl rfl) (zkF ((hd.r 6 rfl rfl)).any ((hd.r 13 rfl rfl)).any (by decide) (by decide))) ?_
   refine sc (fun _ _ _ _ hd=>sl rfl (rc1 Tryz.func92 rfl) (ztr ((hd.r 14 rfl rfl)).any)) ?_
   exact sn
  ·intro a2 V6 S hB hf
   have S:=S.add (hf.v 15 rfl rfl)
   clear hf S0
   show wpList _ _ _ [_] _ _
   refine zbk S (v:= .int .i64 (Int.sign ((((q1).num)*((q2).den:Int)) - (((q2).num)*((q1).den:Int))))) (zam rfl (S.at 0 rfl)) rfl rfl (by decide) (ls':=[(24,.int .i64 (Int.sign ((((q1).num)*((q2).den:Int)) - (((q2).num)*((q1).den:Int))))),(3,pT g2 0),(2,pT g1 0)]) rfl (fun a S=>?_)
   refine hK3 _ _ ?_
   refine wp_ret ?_
   exact za5 rfl S (S.at 0 rfl) ⟨_,rfl,(congrArg (Value.int .i64) (show Int.sign ((((q1).num)*((q2).den:Int)) - (((q2).num)*((q1).den:Int)))=zaK q1 q2 from zrq q1 q2)),S.below⟩
theorem zds (h1:Q1 K q1 v1 V)(h2:Q1 K' q2 v2 V)(b:K≤128)(b':K'≤128):Calls Tryz.prog 19 #[v1,v2] V (zao V fun v _=>v= .int .i64 (zaK q1 q2)):=zt5 (h1.to rfl b) (h2.to rfl b')
theorem zs9 {q1 q2:Rat}{v1 v2:Value}{V:World}(h1:Q1 128 (q1) v1 V)(h2:Q1 128 (q2) v2 V):
  Calls Tryz.prog 21 #[v1,v2] V (zao V (fun v _=>v= .bool (decide (zaK q1 q2=0)))):=by
 obtain⟨b1,x1,y1,rfl,hq1,hk1,hk2,ok1,ok2⟩:=h1
 obtain⟨b2,x2,y2,rfl,hq2,hk3,hk4,ok3,ok4⟩:=h2
 refine zaD (e:=[x2,y2,x1,y1]) Tryz.func21 rfl Tryz.ntmps21 (zuz rfl) [(0,(aG b1 x1 y1)),(1,(aG b2 x2 y2))] rfl (zak ok3 (zak ok4 (zak ok1 (zak ok2 zaW)))) (fun a S=>?_)
 refine wp_seq_k fun K1 hK1=>?_
 refine zaa ?_
 refine ti S (cs:=(aL b1 x1 y1)) (zaH rfl (S.at 0 rfl) rfl) (fun g1=>[⟨g1,27,(aL b1 x1 y1)⟩]) fun g1 a V1 hgg1 S=>?_
 refine ti S (cs:=(aL b2 x2 y2)) (zaH rfl (S.at 2 rfl) rfl) (fun g2=>[⟨g1,27,(aL b1 x1 y1)⟩,⟨g2,27,(aL b2 x2 y2)⟩]) fun g2 a V2 hgg2 S=>?_
 refine tv S (zau rfl) fun a S=>?_
 refine hK1 _ _ ?_
 refine wp_seq_k fun K2 hK2=>?_
 refine zaa ?_
 refine tv S (zab rfl (S.at 2 rfl) (S.bx 0 rfl) Tryz.underlying27 rfl (vs:=(aL b1 x1 y1)) zae rfl) fun a S=>?_
 refine tv S (zab rfl (S.at 2 rfl) (S.bx 1 rfl) Tryz.underlying27 rfl (vs:=(aL b2 x2 y2)) zae rfl) fun a S=>?_
 refine tc S (F:=(fun v _=>v= .int .i64 (zaK q1 q2))) (rc2 Tryz.func19 (S.at 1 rfl) (S.at 0 rfl)) (zds (show Q1 128 (q1) ((aG b1 x1 y1)) _ from⟨b1,x1,y1,rfl,hq1,hk1,hk2,(S.num 2 rfl),(S.num 3 rfl)⟩) (show Q1 128 (q2) ((aG b2 x2 y2)) _ from⟨b2,x2,y2,rfl,hq2,hk3,hk4,(S.num 0 rfl),(S.num 1 rfl)⟩) (by decide) (by decide)) fun v a V3 hF hb S=>?_
 subst hF
 refine tv S (zct _ (by decide) rfl (S.at 0 rfl) rfl) fun a S=>?_
 refine zbk S (v:= .bool (decide (zaK q1 q2=0))) (zam rfl (S.at 0 rfl)) rfl rfl (by decide) (ls':=[(8,.bool (decide (zaK q1 q2=0))),(7,.int .i64 (zaK q1 q2)),(6,(aG b2 x2 y2)),(5,(aG b1 x1 y1)),(3,pT g2 0),(2,pT g1 0),(0,(aG b1 x1 y1)),(1,(aG b2 x2 y2))]) rfl (fun a S=>?_)
 refine hK2 _ _ ?_
 refine wp_ret ?_
 exact za5 rfl S (S.at 0 rfl) ⟨_,rfl,rfl,S.below⟩
theorem zta (h1:Q1 K q1 v1 V)(h2:Q1 K' q2 v2 V)(b:K≤128)(b':K'≤128):Calls Tryz.prog 21 #[v1,v2] V (zao V fun v _=>v= .bool (decide (zaK q1 q2=0))):=zs9 (h1.to rfl b) (h2.to rfl b')
theorem zt6 {q1 q2:Rat}{v1 v2:Value}{V:World}(h1:Q1 128 (q1) v1 V)(h2:Q1 128 (q2) v2 V):
  Calls Tryz.prog 14 #[v1,v2] V (zao V (QE 256 (q1/q2) (erq q2))):=by
 obtain⟨b1,x1,y1,rfl,hq1,hk1,hk2,ok1,ok2⟩:=h1
 obtain⟨b2,x2,y2,rfl,hq2,hk3,hk4,ok3,ok4⟩:=h2
 refine zaD (e:=[x2,y2,x1,y1]) Tryz.func14 rfl Tryz.ntmps14 (zuz rfl) [(0,(aG b1 x1 y1)),(1,(aG b2 x2 y2))] rfl (zak ok3 (zak ok4 (zak ok1 (zak ok2 zaW)))) (fun a S=>?_)
 refine wp_seq_k fun K1 hK1=>?_
 refine zaa ?_
 refine ti S (cs:=(aL b1 x1 y1)) (zaH rfl (S.at 0 rfl) rfl) (fun g1=>[⟨g1,27,(aL b1 x1 y1)⟩]) fun g1 a V1 hgg1 S=>?_
 refine ti S (cs:=(aL b2 x2 y2)) (zaH rfl (S.at 2 rfl) rfl) (fun g2=>[⟨g1,27,(aL b1 x1 y1)⟩,⟨g2,27,(aL b2 x2 y2)⟩]) fun g2 a V2 hgg2 S=>?_
 refine ti S (cs:=[.bool false,.slice none 0 0,.slice none 0 0]) (zap rfl (Tryz.zeroValue27 _) rfl) (fun g3=>[⟨g1,27,(aL b1 x1 y1)⟩,⟨g2,27,(aL b2 x2 y2)⟩,⟨g3,27,[.bool false,.slice none 0 0,.slice none 0 0]⟩]) fun g3 a V3 hgg3 S=>?_
 refine tv S (zau rfl) fun a S=>?_
 refine hK1 _ _ ?_
 refine wp_seq_k fun K2 hK2=>?_
 obtain⟨W1,hW1⟩:∃W,W=V3:=⟨_,rfl⟩
 rw[←hW1]at S ⊢
 have S0:=S
 refine fr 4 [6,7,8,9] [IsV ((aG b1 x1 y1)),QT 128 (q1),IsV ((aG b2 x2 y2)),QT 128 (q2)] S ?_ ?_
 ·refine sc (fun _ _ S _ _=>sv rfl (zab rfl (S.at 3 rfl) (S.bx 0 rfl) Tryz.underlying27 rfl (vs:=(aL b1 x1 y1)) zae rfl)) ?_
  refine sc (fun _ _ S _ hd=>sl rfl (rc1 Tryz.func25 (hd.v 0 rfl rfl)) (zdl (show Q1 128 (q1) ((aG b1 x1 y1)) _ from⟨b1,x1,y1,rfl,hq1,hk1,hk2,(S.num 2 rfl),(S.num 3 rfl)⟩) (by decide))) ?_
  refine sc (fun _ _ S _ _=>sv rfl (zab rfl (S.at 2 rfl) (S.bx 1 rfl) Tryz.underlying27 rfl (vs:=(aL b2 x2 y2)) zae rfl)) ?_
  refine sc (fun _ _ S _ hd=>sl rfl (rc1 Tryz.func25 (hd.v 2 rfl rfl)) (zdl (show Q1 128 (q2) ((aG b2 x2 y2)) _ from⟨b2,x2,y2,rfl,hq2,hk3,hk4,(S.num 0 rfl),(S.num 1 rfl)⟩) (by decide))) ?_
  exact sn
 ·intro a1 V4 S hB hf
  obtain⟨b3,x3,y3,hv1,hq3,hk5,hk6,ok5,ok6⟩:=hf.r 1 rfl rfl
  have S:=S.add hv1
  have S:=S.know ok5
  have S:=S.know ok6
  obtain⟨b4,x4,y4,hv2,hq4,hk7,hk8,ok7,ok8⟩:=hf.r 3 rfl rfl
  have S:=S.add hv2
  have S:=S.know ok7
  have S:=S.know ok8
  clear hf S0
  show wpList _ _ _ [_,_] _ _
  refine zal S (i:=0) (vs:=(aL b3 x3 y3)) rfl (fun ht=>zah rfl (S.at 5 rfl) (S.at 1 rfl) zae rfl (zuz rfl) ht) (zuz rfl) rfl rfl rfl (lb':=[⟨g1,27,(aL b3 x3 y3)⟩,⟨g2,27,(aL b2 x2 y2)⟩,⟨g3,27,[.bool false,.slice none 0 0,.slice none 0 0]⟩]) rfl (fun V5 S=>?_)
  refine zal S (i:=1) (vs:=(aL b4 x4 y4)) rfl (fun ht=>zah rfl (S.at 4 rfl) (S.at 0 rfl) zae rfl (zuz rfl) ht) (zuz rfl) rfl rfl rfl (lb':=[⟨g1,27,(aL b3 x3 y3)⟩,⟨g2,27,(aL b4 x4 y4)⟩,⟨g3,27,[.bool false,.slice none 0 0,.slice none 0 0]⟩]) rfl (fun V6 S=>?_)
  refine hK2 _ _ ?_
  refine wp_seq_k fun K3 hK3=>?_
  have S:=S.keep [5,4,3,2] (ls':=[(5,.int .i64 0),(4,pT g3 0),(3,pT g2 0),(2,pT g1 0)]) rfl
  obtain⟨W2,hW2⟩:∃W,W=V6:=⟨_,rfl⟩
  rw[←hW2]at S ⊢
  have S0:=S
  refine fr 19 [10,11,12,13,14,15,16,17,18,19,20,21,22,23,24,25,26,27,28] [IsV (pT g1 0),IsV ((aZ b3 x3)),IsV (pT g2 0),IsV (pT g2 0),IsV (.bool b4),IsV (pT g2 2),IsV (aS y4),IsV ((aZ b4 y4)),ZL 128 4 ([(q1).num,zOf b4 ((q2).den)]),ZT 256 (((q1).num)*(zOf b4 ((q2).den))),IsV (pT g1 2),IsV (aS y3),IsV (pT g2 0),IsV (pT g2 1),IsV (aS x4),NT 256 (((q1).den)*((q2).num.natAbs)),QE 256 (mkRat (((q1).num)*(zOf b4 ((q2).den))) (((q1).den)*((q2).num.natAbs))) (erz (((q1).den)*((q2).num.natAbs))),QT 256 (mkRat (((q1).num)*(zOf b4 ((q2).den))) (((q1).den)*((q2).num.natAbs))),IsV (.int .i64 (erz (((q1).den)*((q2).num.natAbs))))] S ?_ ?_
  ·refine sc (fun _ _ S _ _=>sv rfl (zaf rfl (S.at 3 rfl) (za6 _))) ?_
   refine sc (fun _ _ S _ hd=>sv rfl (zab rfl (hd.v 0 rfl rfl) (S.bx 0 rfl) Tryz.underlying25 rfl (vs:=[.bool b3,aS x3]) zav rfl)) ?_
   refine sc (fun _ _ S _ _=>sv rfl (zaf rfl (S.at 2 rfl) (za6 _))) ?_
   refine sc (fun _ _ _ _ hd=>sv rfl (zaf rfl (hd.v 2 rfl rfl) (za9 _))) ?_
   refine sc (fun _ _ S _ hd=>sv rfl (zar rfl (hd.v 3 rfl rfl) (S.bx 1 rfl) (Tryz.isAgg4 _) rfl)) ?_
   refine sc (fun _ _ S _ _=>sv rfl (zaf rfl (S.at 2 rfl) (za0 _))) ?_
   refine sc (fun _ _ S _ hd=>sv rfl (zar rfl (hd.v 5 rfl rfl) (S.bx 1 rfl) (Tryz.isAgg23 _) rfl)) ?_
   refine sc (fun _ _ _ _ hd=>sv rfl (zaL rfl (hd.v 4 rfl rfl) (hd.v 6 rfl rfl) (zf1 _ _ _ _))) ?_
   refine sc (fun _ _ S _ hd=>sy rfl (zbH rfl (hd.v 1 rfl rfl) (hd.v 7 rfl rfl) (show ZT 128 ((q1).num) ((aZ b3 x3)) _ from⟨b3,x3,rfl,(show b3=decide ((q1).num<0)∧x3.N=(q1).num.natAbs∧x3.n=lenL (q1).num.natAbs from⟨hq3.1,hq3.2.1,by rw[←hq3.2.1];exact hq3.2.2.1⟩),hk5,(S.num 3 rfl)⟩).any (show Z1 128 (zOf b4 ((q2).den)) ((aZ b4 y4)) _ from⟨b4,y4,rfl,congrArg (zOf b4) hq4.2.2.2.1,hk8,(S.num 0 rfl)⟩))) ?_
   refine sc (fun _ _ _ _ hd=>sl rfl (rc1 Tryz.func90 rfl) (zeR ((hd.r 8 rfl rfl)).row (by decide))) ?_
   refine sc (fun _ _ S _ _=>sv rfl (zaf rfl (S.at 3 rfl) (za0 _))) ?_
   refine sc (fun _ _ S _ hd=>sv rfl (zar rfl (hd.v 10 rfl rfl) (S.bx 0 rfl) (Tryz.isAgg23 _) rfl)) ?_
   refine sc (fun _ _ S _ _=>sv rfl (zaf rfl (S.at 2 rfl) (za6 _))) ?_
   refine sc (fun _ _ _ _ hd=>sv rfl (zaf rfl (hd.v 12 rfl rfl) (zbu _))) ?_
   refine sc (fun _ _ S _ hd=>sv rfl (zar rfl (hd.v 13 rfl rfl) (S.bx 1 rfl) (Tryz.isAgg23 _) rfl)) ?_
   refine sc (fun _ _ S _ hd=>sl rfl (rc2 Tryz.func91 (hd.v 11 rfl rfl) (hd.v 14 rfl rfl)) (zqm (show NT 128 ((q1).den) (aS y3) _ from⟨y3,rfl,hq3.2.2.2.1,(by rw[←hq3.2.2.2.1];exact hq3.2.2.2.2),hk6,(S.num 2 rfl)⟩).any (show NT 128 ((q2).num.natAbs) (aS x4) _ from⟨x4,rfl,hq4.2.1,(by rw[←hq4.2.1];exact hq4.2.2.1),hk7,(S.num 1 rfl)⟩).any (by decide) (by decide))) ?_
   refine sc (fun _ _ _ _ hd=>sl rfl (rc2 Tryz.func12 rfl rfl) (zhp ((hd.r 9 rfl rfl)).any ((hd.r 15 rfl rfl)).any (by decide) (by decide))) ?_
   refine sc (fun _ _ _ _ hd=>by
    obtain⟨b,x,y,hv,hq,k1,k2,o1,o2⟩:=(hd.r 16 rfl rfl)
    exact sv rfl (zaq rfl hv rfl) ⟨b,x,y,rfl,hq,k1,k2,o1,o2⟩) ?_
   refine sc (fun _ _ _ _ hd=>by
    obtain⟨b,x,y,hv,hq,k1,k2,o1,o2⟩:=(hd.r 16 rfl rfl)
    exact sv rfl (zaq rfl hv rfl)) ?_
   exact sn
  ·intro a2 V7 S hB hf
   obtain⟨b5,x5,y5,hv3,hq5,hk9,hk10,ok9,ok10⟩:=hf.r 17 rfl rfl
   have S:=S.add hv3
   have S:=S.know ok9
   have S:=S.know ok10
   have S:=S.add (hf.v 18 rfl rfl)
   clear hf S0
   show wpList _ _ _ [_,_] _ _
   refine zal S (i:=2) (vs:=(aL b5 x5 y5)) rfl (fun ht=>zah rfl (S.at 3 rfl) (S.at 1 rfl) zae rfl (zuz rfl) ht) (zuz rfl) rfl rfl rfl (lb':=[⟨g1,27,(aL b3 x3 y3)⟩,⟨g2,27,(aL b4 x4 y4)⟩,⟨g3,27,(aL b5 x5 y5)⟩]) rfl (fun V8 S=>?_)
   refine zbk S (v:= .int .i64 (erz (((q1).den)*((q2).num.natAbs)))) (zam rfl (S.at 0 rfl)) rfl rfl (by decide) (ls':=[(28,.int .i64 (erz (((q1).den)*((q2).num.natAbs)))),(27,(aG b5 x5 y5)),(4,pT g3 0),(3,pT g2 0),(2,pT g1 0)]) rfl (fun a S=>?_)
   refine hK3 _ _ ?_
   refine wp_ret ?_
   exact zbD rfl S (S.at 3 rfl) (i:=2) rfl Tryz.underlying27 rfl zae (S.at 0 rfl) ⟨_,rfl,⟨b5,x5,y5,congrArg (fun z=>Value.tuple #[(aG b5 x5 y5),.int .i64 z]) (show erz (((q1).den)*((q2).num.natAbs))=erq q2 from zrQ q1 q2),(ztk q1 q2 hq4.1)▸hq5,hk9,hk10,(S.num 1 rfl),(S.num 0 rfl)⟩,S.below⟩
theorem Sm.quo (h:Sm K q1)(h':Sm K' q2):Sm (K+K') (q1/q2):=by
 rw[Rat.div_def]
 refine h.mul ⟨?_,?_⟩
 ·rw[Rat.num_inv]
  have:=h'.2
  rw[Int.natAbs_mul,Int.natAbs_natCast]
  rcases Int.lt_trichotomy q2.num 0 with hz|hz|hz
  ·rw[Int.sign_eq_neg_one_of_neg hz];simpa using this
  ·rw[hz];simpa using zan K'
  ·rw[Int.sign_eq_one_of_pos hz];simpa using this
 ·rw[Rat.den_inv]
  have:=h'.1
  have h2:=h'.2
  have h3:0<q2.den:=q2.den_pos
  split
  ·omega
  ·exact this
theorem QE.sml {er er':Int}(h:QE K q er v V)(hs:Sm K' q)(he:er=er'):QE K' q er' v V:=by
 obtain⟨b,x,y,h1,h2,h3,h4,h5⟩:=h
 subst he
 exact⟨b,x,y,h1,h2,(zcU h2 hs).1,(zcU h2 hs).2,h5⟩
theorem zsm (h1:Q1 K q1 v1 V)(h2:Q1 K' q2 v2 V)(b:K≤128)(b':K'≤128):Calls Tryz.prog 14 #[v1,v2] V (zao V (QE (max K 1+max K' 1) (q1/q2) (erq q2))):=
 zbn (zt6 (h1.to rfl b) (h2.to rfl b')) (fun _ _ h=>h.sml (h1.sm.quo h2.sm) rfl)
theorem zt7 {q1 q2:Rat}{v1 v2:Value}{V:World}(h1:Q1 60 (q1) v1 V)(h2:Q1 60 (q2) v2 V):
  Calls Tryz.prog 35 #[v1,v2] V (zao V (QT 121 (q1 - q2))):=by
 obtain⟨b1,x1,y1,rfl,hq1,hk1,hk2,ok1,ok2⟩:=h1
 obtain⟨b2,x2,y2,rfl,hq2,hk3,hk4,ok3,ok4⟩:=h2
 refine zaD (e:=[x2,y2,x1,y1]) Tryz.func35 rfl Tryz.ntmps35 (zuz rfl) [(0,(aG b1 x1 y1)),(1,(aG b2 x2 y2))] rfl (zak ok3 (zak ok4 (zak ok1 (zak ok2 zaW)))) (fun a S=>?_)
 refine wp_seq_k fun K1 hK1=>?_
 refine zaa ?_
 refine ti S (cs:=(aL b1 x1 y1)) (zaH rfl (S.at 0 rfl) rfl) (fun g1=>[⟨g1,27,(aL b1 x1 y1)⟩]) fun g1 a V1 hgg1 S=>?_
 refine ti S (cs:=(aL b2 x2 y2)) (zaH rfl (S.at 2 rfl) rfl) (fun g2=>[⟨g1,27,(aL b1 x1 y1)⟩,⟨g2,27,(aL b2 x2 y2)⟩]) fun g2 a V2 hgg2 S=>?_
 refine ti S (cs:=[.bool false,.slice none 0 0,.slice none 0 0]) (zap rfl (Tryz.zeroValue27 _) rfl) (fun g3=>[⟨g1,27,(aL b1 x1 y1)⟩,⟨g2,27,(aL b2 x2 y2)⟩,⟨g3,27,[.bool false,.slice none 0 0,.slice none 0 0]⟩]) fun g3 a V3 hgg3 S=>?_
 refine hK1 _ _ ?_
 refine wp_seq_k fun K2 hK2=>?_
 obtain⟨W1,hW1⟩:∃W,W=V3:=⟨_,rfl⟩
 rw[←hW1]at S ⊢
 have S0:=S
 refine fr 5 [5,6,7,8,9] [IsV ((aG b1 x1 y1)),IsV ((aG b2 x2 y2)),QT 60 (-q2),QL 60 6 ([q1,-q2]),QT 121 (q1+(-q2))] S ?_ ?_
 ·refine sc (fun _ _ S _ _=>sv rfl (zab rfl (S.at 2 rfl) (S.bx 0 rfl) Tryz.underlying27 rfl (vs:=(aL b1 x1 y1)) zae rfl)) ?_
  refine sc (fun _ _ S _ _=>sv rfl (zab rfl (S.at 1 rfl) (S.bx 1 rfl) Tryz.underlying27 rfl (vs:=(aL b2 x2 y2)) zae rfl)) ?_
  refine sc (fun _ _ S _ hd=>sl rfl (rc1 Tryz.func27 (hd.v 1 rfl rfl)) (zqg (show Q1 60 (q2) ((aG b2 x2 y2)) _ from⟨b2,x2,y2,rfl,hq2,hk3,hk4,(S.num 0 rfl),(S.num 1 rfl)⟩) (by decide))) ?_
  refine sc (fun _ _ S _ hd=>sy rfl (zbI rfl (hd.v 0 rfl rfl) rfl (show Q1 60 (q1) ((aG b1 x1 y1)) _ from⟨b1,x1,y1,rfl,hq1,hk1,hk2,(S.num 2 rfl),(S.num 3 rfl)⟩) ((hd.r 2 rfl rfl)).any)) ?_
  refine sc (fun _ _ _ _ hd=>sl rfl (rc1 Tryz.func29 rfl) (zfa ((hd.r 3 rfl rfl)).row (by decide))) ?_
  exact sn
 ·intro a1 V4 S hB hf
  obtain⟨b3,x3,y3,hv1,hq3,hk5,hk6,ok5,ok6⟩:=hf.r 4 rfl rfl
  have S:=S.add hv1
  have S:=S.know ok5
  have S:=S.know ok6
  clear hf S0
  show wpList _ _ _ [_] _ _
  refine zal S (i:=2) (vs:=(aL b3 x3 y3)) rfl (fun ht=>zah rfl (S.at 1 rfl) (S.at 0 rfl) zae rfl (zuz rfl) ht) (zuz rfl) rfl rfl rfl (lb':=[⟨g1,27,(aL b1 x1 y1)⟩,⟨g2,27,(aL b2 x2 y2)⟩,⟨g3,27,(aL b3 x3 y3)⟩]) rfl (fun V5 S=>?_)
  refine hK2 _ _ ?_
  refine wp_ret ?_
  exact za1 rfl S (S.at 1 rfl) (i:=2) rfl Tryz.underlying27 rfl zae ⟨_,rfl,((show QT 121 (q1+(-q2)) ((aG b3 x3 y3)) _ from⟨b3,x3,y3,rfl,hq3,hk5,hk6,(S.num 1 rfl),(S.num 0 rfl)⟩)).to (zly q1 q2) (by decide),S.below⟩
theorem zsn (h1:Q1 K q1 v1 V)(h2:Q1 K' q2 v2 V)(b:K≤60)(b':K'≤60):Calls Tryz.prog 35 #[v1,v2] V (zao V (QT (max K 1+max K' 1+1) (q1 - q2))):=
 zbn (zt7 (h1.to rfl b) (h2.to rfl b')) (fun _ _ h=>h.sml (zly q1 q2▸h1.sm.add h2.sm.neg))
theorem zt8 {q1 q2:Rat}{v1 v2:Value}{V:World}(h1:Q1 60 (q1) v1 V)(h2:Q1 60 (q2) v2 V):
  Calls Tryz.prog 37 #[v1,v2] V (zao V (QT 123 ((q1+q2)/2))):=by
 obtain⟨b1,x1,y1,rfl,hq1,hk1,hk2,ok1,ok2⟩:=h1
 obtain⟨b2,x2,y2,rfl,hq2,hk3,hk4,ok3,ok4⟩:=h2
 refine zaD (e:=[x2,y2,x1,y1]) Tryz.func37 rfl Tryz.ntmps37 (zuz rfl) [(0,(aG b1 x1 y1)),(1,(aG b2 x2 y2))] rfl (zak ok3 (zak ok4 (zak ok1 (zak ok2 zaW)))) (fun a S=>?_)
 refine wp_seq_k fun K1 hK1=>?_
 refine zaa ?_
 refine ti S (cs:=(aL b1 x1 y1)) (zaH rfl (S.at 0 rfl) rfl) (fun g1=>[⟨g1,27,(aL b1 x1 y1)⟩]) fun g1 a V1 hgg1 S=>?_
 refine ti S (cs:=(aL b2 x2 y2)) (zaH rfl (S.at 2 rfl) rfl) (fun g2=>[⟨g1,27,(aL b1 x1 y1)⟩,⟨g2,27,(aL b2 x2 y2)⟩]) fun g2 a V2 hgg2 S=>?_
 refine ti S (cs:=[.bool false,.slice none 0 0,.slice none 0 0]) (zap rfl (Tryz.zeroValue27 _) rfl) (fun g3=>[⟨g1,27,(aL b1 x1 y1)⟩,⟨g2,27,(aL b2 x2 y2)⟩,⟨g3,27,[.bool false,.slice none 0 0,.slice none 0 0]⟩]) fun g3 a V3 hgg3 S=>?_
 refine hK1 _ _ ?_
 refine wp_seq_k fun K2 hK2=>?_
 refine zaa ?_
 refine tv S (zab rfl (S.at 2 rfl) (S.bx 0 rfl) Tryz.underlying27 rfl (vs:=(aL b1 x1 y1)) zae rfl) fun a S=>?_
 refine tv S (zab rfl (S.at 2 rfl) (S.bx 1 rfl) Tryz.underlying27 rfl (vs:=(aL b2 x2 y2)) zae rfl) fun a S=>?_
 refine ty S (F:=QL 60 6 ([q1,q2])) (zbI rfl (S.at 1 rfl) (S.at 0 rfl) (show Q1 60 (q1) ((aG b1 x1 y1)) _ from⟨b1,x1,y1,rfl,hq1,hk1,hk2,(S.num 2 rfl),(S.num 3 rfl)⟩) (show Q1 60 (q2) ((aG b2 x2 y2)) _ from⟨b2,x2,y2,rfl,hq2,hk3,hk4,(S.num 0 rfl),(S.num 1 rfl)⟩)) fun v a V4 hF hb S=>?_
 obtain⟨ov1,hov1⟩:∃z,z=v:=⟨_,rfl⟩
 rw[←hov1]at hF S
 have rov1:=hF
 refine tc S (F:=QT 121 (q1+q2)) (rc1 Tryz.func29 (S.at 0 rfl)) (zfa (rov1).row (by decide)) fun v a V5 hF hb S=>?_
 replace rov1:=rov1.keep hb
 obtain⟨b3,x3,y3,rfl,hq3,hk5,hk6,ok5,ok6⟩:=hF
 have S:=S.know ok5
 have S:=S.know ok6
 refine tc S (F:=QT 2 ((2:Int))) (rcc Tryz.func23) (zhR (n:=2) (by decide)) fun v a V6 hF hb S=>?_
 replace rov1:=rov1.keep hb
 obtain⟨b4,x4,y4,rfl,hq4,hk7,hk8,ok7,ok8⟩:=hF
 have S:=S.know ok7
 have S:=S.know ok8
 refine tc S (F:=QE 123 ((q1+q2)/(2:Int)) (erq (2:Int))) (rc2 Tryz.func14 (S.at 1 rfl) (S.at 0 rfl)) (zsm (show QT 121 (q1+q2) ((aG b3 x3 y3)) _ from⟨b3,x3,y3,rfl,hq3,hk5,hk6,(S.num 3 rfl),(S.num 2 rfl)⟩).any (show QT 2 ((2:Int)) ((aG b4 x4 y4)) _ from⟨b4,x4,y4,rfl,hq4,hk7,hk8,(S.num 1 rfl),(S.num 0 rfl)⟩).any (by decide) (by decide)) fun v a V7 hF hb S=>?_
 replace rov1:=rov1.keep hb
 obtain⟨b5,x5,y5,rfl,hq5,hk9,hk10,ok9,ok10⟩:=hF
 have S:=S.know ok9
 have S:=S.know ok10
 refine tv S (zad rfl (S.at 0 rfl)) fun a S=>?_
 refine tv S (zaq rfl (S.at 0 rfl) rfl) fun a S=>?_
 refine tv S (zaq rfl (S.at 1 rfl) rfl) fun a S=>?_
 refine ti S (cs:=[.bool false,.slice none 0 0,.slice none 0 0]) (zap rfl (Tryz.zeroValue27 _) rfl) (fun g4=>[⟨g1,27,(aL b1 x1 y1)⟩,⟨g2,27,(aL b2 x2 y2)⟩,⟨g3,27,[.bool false,.slice none 0 0,.slice none 0 0]⟩,⟨g4,27,[.bool false,.slice none 0 0,.slice none 0 0]⟩]) fun g4 a V8 hgg4 S=>?_
 refine zal S (i:=3) (vs:=(aL b5 x5 y5)) rfl (fun ht=>zah rfl (S.at 0 rfl) (S.at 2 rfl) zae rfl (zuz rfl) ht) (zuz rfl) rfl rfl rfl (lb':=[⟨g1,27,(aL b1 x1 y1)⟩,⟨g2,27,(aL b2 x2 y2)⟩,⟨g3,27,[.bool false,.slice none 0 0,.slice none 0 0]⟩,⟨g4,27,(aL b5 x5 y5)⟩]) rfl (fun V9 S=>?_)
 refine tv S (zam rfl (S.at 1 rfl)) fun a S=>?_
 refine hK2 _ _ ?_
 refine wp_seq_k fun K3 hK3=>?_
 have S:=S.keep [5,4] (ls':=[(5,pT g4 0),(4,pT g3 0)]) rfl
 refine zaa ?_
 refine tv S (zab rfl (S.at 0 rfl) (S.bx 3 rfl) Tryz.underlying27 rfl (vs:=(aL b5 x5 y5)) zae rfl) fun a S=>?_
 refine zal S (i:=2) (vs:=(aL b5 x5 y5)) rfl (fun ht=>zah rfl (S.at 2 rfl) (S.at 0 rfl) zae rfl (zuz rfl) ht) (zuz rfl) rfl rfl rfl (lb':=[⟨g1,27,(aL b1 x1 y1)⟩,⟨g2,27,(aL b2 x2 y2)⟩,⟨g3,27,(aL b5 x5 y5)⟩,⟨g4,27,(aL b5 x5 y5)⟩]) rfl (fun V10 S=>?_)
 refine hK3 _ _ ?_
 refine wp_ret ?_
 exact za1 rfl S (S.at 2 rfl) (i:=2) rfl Tryz.underlying27 rfl zae ⟨_,rfl,((show QT 123 ((q1+q2)/(2:Int)) ((aG b5 x5 y5)) _ from⟨b5,x5,y5,rfl,hq5,hk9,hk10,(S.num 1 rfl),(S.num 0 rfl)⟩)).to rfl (by decide),S.below⟩
theorem zt9 (h1:Q1 K q1 v1 V)(h2:Q1 K' q2 v2 V)(b:K≤60)(b':K'≤60):Calls Tryz.prog 37 #[v1,v2] V (zao V (QT (max K 1+max K' 1+1+1) ((q1+q2)/2))):=
 zbn (zt8 (h1.to rfl b) (h2.to rfl b')) (fun _ _ h=>h.sml ((h1.sm.add h2.sm).quo (⟨by show(2:Nat)<_;rw[zaX];decide,by show(1:Nat)<_;rw[zaX];decide⟩:Sm 1 2)))
theorem zrs {q:Rat}{v1:Value}{V:World}(h1:Q1 128 (q) v1 V):
  Calls Tryz.prog 40 #[v1] V (zao V (ZT 129 q.floor)):=by
 obtain⟨b1,x1,y1,rfl,hq1,hk1,hk2,ok1,ok2⟩:=h1
 refine zaD (e:=[x1,y1]) Tryz.func40 rfl Tryz.ntmps40 (zuz rfl) [(0,(aG b1 x1 y1))] rfl (zak ok1 (zak ok2 zaW)) (fun a S=>?_)
 refine wp_seq_k fun K1 hK1=>?_
 refine zaa ?_
 refine ti S (cs:=(aL b1 x1 y1)) (zaH rfl (S.at 0 rfl) rfl) (fun g1=>[⟨g1,27,(aL b1 x1 y1)⟩]) fun g1 a V1 hgg1 S=>?_
 refine ti S (cs:=[.bool false,.slice none 0 0]) (zap rfl (Tryz.zeroValue25 _) rfl) (fun g2=>[⟨g1,27,(aL b1 x1 y1)⟩,⟨g2,25,[.bool false,.slice none 0 0]⟩]) fun g2 a V2 hgg2 S=>?_
 refine hK1 _ _ ?_
 refine wp_seq_k fun K2 hK2=>?_
 refine zaa ?_
 refine tv S (zab rfl (S.at 1 rfl) (S.bx 0 rfl) Tryz.underlying27 rfl (vs:=(aL b1 x1 y1)) zae rfl) fun a S=>?_
 refine tc S (F:=QT 128 (q)) (rc1 Tryz.func25 (S.at 0 rfl)) (zdl (show Q1 128 (q) ((aG b1 x1 y1)) _ from⟨b1,x1,y1,rfl,hq1,hk1,hk2,(S.num 0 rfl),(S.num 1 rfl)⟩) (by decide)) fun v a V3 hF hb S=>?_
 obtain⟨b2,x2,y2,rfl,hq2,hk3,hk4,ok3,ok4⟩:=hF
 have S:=S.know ok3
 have S:=S.know ok4
 refine zal S (i:=0) (vs:=(aL b2 x2 y2)) rfl (fun ht=>zah rfl (S.at 3 rfl) (S.at 0 rfl) zae rfl (zuz rfl) ht) (zuz rfl) rfl rfl rfl (lb':=[⟨g1,27,(aL b2 x2 y2)⟩,⟨g2,25,[.bool false,.slice none 0 0]⟩]) rfl (fun V4 S=>?_)
 refine hK2 _ _ ?_
 refine wp_seq_k fun K3 hK3=>?_
 obtain⟨W1,hW1⟩:∃W,W=V4:=⟨_,rfl⟩
 rw[←hW1]at S ⊢
 have S0:=S
 refine frs [(25,2)] [some 9,some 10,some 11,some 12,some 13,some 14,some 8,some 15,some 16,some 17,some 3,some 4,none,none,some 5] [IsV (pT g1 0),IsV ((aZ b2 x2)),IsV (pT g1 2),IsV (aS y2),ZT 128 (((q).den:Int)),ZDiv 128 128 ((q).num) (((q).den:Int)),ZDiv 128 128 ((q).num) (((q).den:Int)),ZT 129 (Int.fdiv ((q).num) ((q).den:Int)),ZT 129 (rmz ((q).num) ((q).den:Int)),IsV (.int .i64 (zfX ((q).den:Int))),zcQ,zcQ,zcQ,zcQ,IsV (.int .i64 (zfX ((q).den:Int)))] [⟨10,3,25,[.bool false,.slice none 0 0]⟩,⟨11,4,25,[.bool false,.slice none 0 0]⟩] [⟨12,3,25,ZT 129 (Int.fdiv ((q).num) ((q).den:Int))⟩,⟨13,4,25,ZT 129 (rmz ((q).num) ((q).den:Int))⟩] [] (lb:=[⟨g1,27,(aL b2 x2 y2)⟩,⟨g2,25,[.bool false,.slice none 0 0]⟩]) S (all_cons (zc4 0 rfl rfl) (all_cons (zc4 1 rfl rfl) zat)) ?_ (all_cons ⟨rfl,_,rfl,rfl,rfl,fun _ _ _=>(zap rfl (Tryz.zeroValue25 _) rfl)⟩ (all_cons ⟨rfl,_,rfl,rfl,rfl,fun _ _ _=>(zap rfl (Tryz.zeroValue25 _) rfl)⟩ zat)) (all_cons ⟨_,2,rfl,rfl,rfl,List.mem_of_getElem? (i:=0) rfl,(all_cons (fun h=>⟨rfl,rfl⟩) (all_cons (fun h=>by cases h) zat)),zat,fun _ _ _ _ hg hd=>zcN (hd.r 7 rfl rfl) (hd.r 7 rfl rfl).parts rfl hg rfl zav⟩ (all_cons ⟨_,2,rfl,rfl,rfl,List.mem_of_getElem? (i:=0) rfl,(all_cons (fun h=>by cases h) (all_cons (fun h=>⟨rfl,rfl⟩) zat)),zat,fun _ _ _ _ hg hd=>zcN (hd.r 8 rfl rfl) (hd.r 8 rfl rfl).parts rfl hg rfl zav⟩ zat)) zat ?_
 ·refine va (fun _ _ S _ _ _=>sv rfl (zaf rfl (S.at 3 rfl) (za6 _))) ?_
  refine va (fun _ _ S _ hd _=>sv rfl (zab rfl (hd.v 0 rfl rfl) (S.bx 0 rfl) Tryz.underlying25 rfl (vs:=[.bool b2,aS x2]) zav rfl)) ?_
  refine va (fun _ _ S _ _ _=>sv rfl (zaf rfl (S.at 3 rfl) (za0 _))) ?_
  refine va (fun _ _ S _ hd _=>sv rfl (zar rfl (hd.v 2 rfl rfl) (S.bx 0 rfl) (Tryz.isAgg23 _) rfl)) ?_
  refine va (fun _ _ S _ hd _=>sl rfl (rc1 Tryz.func95 (hd.v 3 rfl rfl)) (ze8 (show NT 128 ((q).den) (aS y2) _ from⟨y2,rfl,hq2.2.2.2.1,(by rw[←hq2.2.2.2.1];exact hq2.2.2.2.2),hk4,(S.num 0 rfl)⟩))) ?_
  refine va (fun _ _ S _ hd _=>sl rfl (rc2 Tryz.func108 (hd.v 1 rfl rfl) rfl) (zsl (show ZT 128 ((q).num) ((aZ b2 x2)) _ from⟨b2,x2,rfl,(show b2=decide ((q).num<0)∧x2.N=(q).num.natAbs∧x2.n=lenL (q).num.natAbs from⟨hq2.1,hq2.2.1,by rw[←hq2.2.1];exact hq2.2.2.1⟩),hk3,(S.num 1 rfl)⟩).any ((hd.r 4 rfl rfl)).any (by decide) (by decide))) ?_
  refine va (fun _ _ _ _ hd _=>sv rfl (zad rfl rfl) (hd.r 5 rfl rfl)) ?_
  refine va (fun _ _ _ _ hd _=>by
   obtain⟨v0,v1,hv,f0,f1⟩:=(hd.r 6 rfl rfl)
   exact sv rfl (zaq rfl hv rfl) f0) ?_
  refine va (fun _ _ _ _ hd _=>by
   obtain⟨v0,v1,hv,f0,f1⟩:=(hd.r 6 rfl rfl)
   exact sv rfl (zaq rfl hv rfl) f1) ?_
  refine va (fun _ _ _ _ hd _=>by
   obtain⟨v0,v1,hv,f0,f1⟩:=(hd.r 6 rfl rfl)
   exact sv rfl (zaq rfl hv rfl)) ?_
  refine vb ?_
  refine vb ?_
  refine vs ?_
  refine vs ?_
  refine va (fun _ _ _ _ hd _=>sv rfl (zam rfl (hd.v 9 rfl rfl))) ?_
  exact vn
 ·intro a1 V5 S hB hf hl hdis hs hp
  obtain⟨g3,csg3,hvg3,hgg3,hbg3,hlg3,hng3,hkg3⟩:=hl _ (List.mem_of_getElem? (i:=0) rfl)
  obtain⟨g4,csg4,hvg4,hgg4,hbg4,hlg4,hng4,hkg4⟩:=hl _ (List.mem_of_getElem? (i:=1) rfl)
  have hne_g3_g4:g3≠g4:=fun h=>hdis _ (List.mem_of_getElem? (i:=0) rfl) _ (List.mem_of_getElem? (i:=1) rfl) (by decide) (hvg3.trans (h▸hvg4.symm))
  obtain⟨gs1,vsgs1,hvgs1,-,hbgs1,hngs1,hPgs1⟩:=hs _ (List.mem_of_getElem? (i:=0) rfl)
  have hegs1:=zch ((hvg3).symm.trans hvgs1)
  subst hegs1
  obtain⟨b3,x3,hv1,hz1,hk5,ok5⟩:=(show ZT 129 (Int.fdiv ((q).num) ((q).den:Int)) (.agg vsgs1.toArray) V5 from hPgs1)
  have hvsgs1:=zci (ws:=[.bool b3,aS x3]) hv1
  subst hvsgs1
  have S:=S.know ok5
  obtain⟨gs2,vsgs2,hvgs2,-,hbgs2,hngs2,hPgs2⟩:=hs _ (List.mem_of_getElem? (i:=1) rfl)
  have hegs2:=zch ((hvg4).symm.trans hvgs2)
  subst hegs2
  obtain⟨b4,x4,hv2,hz2,hk6,ok6⟩:=(show ZT 129 (rmz ((q).num) ((q).den:Int)) (.agg vsgs2.toArray) V5 from hPgs2)
  have hvsgs2:=zci (ws:=[.bool b4,aS x4]) hv2
  subst hvsgs2
  have S:=S.know ok6
  have S:=Frm.readd (S.add hvg3) (zuC S0.below.size hgg3) hbgs1 rfl (zaR (zax (S0.lt 0 rfl) hgg3) (zaR (zax (S0.lt 1 rfl) hgg3) zcM))
  have S:=Frm.readd (S.add hvg4) (zuC S0.below.size hgg4) hbgs2 rfl (zaR (zax (S0.lt 0 rfl) hgg4) (zaR (zax (S0.lt 1 rfl) hgg4) (zaR hne_g3_g4 zcM)))
  have S:Frm 19 [(4,pT g4 0),(3,pT g3 0),(7,(aG b2 x2 y2)),(6,(aG b1 x1 y1)),(2,pT g2 0),(1,pT g1 0),(0,(aG b1 x1 y1))] [⟨g1,27,(aL b2 x2 y2)⟩,⟨g2,25,[.bool false,.slice none 0 0]⟩,⟨g3,25,[.bool b3,aS x3]⟩,⟨g4,25,[.bool b4,aS x4]⟩] V _ _ _:=S
  clear hf hl hdis hs hp S0
  refine hK3 _ _ ?_
  refine wp_seq_k fun K4 hK4=>?_
  refine zaa ?_
  refine tv S (zab rfl (S.at 1 rfl) (S.bx 2 rfl) Tryz.underlying25 rfl (vs:=[.bool b3,aS x3]) zav rfl) fun a S=>?_
  refine zal S (i:=1) (vs:=[.bool b3,aS x3]) rfl (fun ht=>zah rfl (S.at 5 rfl) (S.at 0 rfl) zav rfl (zuz rfl) ht) (zuz rfl) rfl rfl rfl (lb':=[⟨g1,27,(aL b2 x2 y2)⟩,⟨g2,25,[.bool b3,aS x3]⟩,⟨g3,25,[.bool b3,aS x3]⟩,⟨g4,25,[.bool b4,aS x4]⟩]) rfl (fun V6 S=>?_)
  refine hK4 _ _ ?_
  refine wp_ret ?_
  exact za1 rfl S (S.at 5 rfl) (i:=1) rfl Tryz.underlying25 rfl zav ⟨_,rfl,((show ZT 129 (Int.fdiv ((q).num) ((q).den:Int)) ((aZ b3 x3)) _ from⟨b3,x3,rfl,hz1,hk5,(S.num 1 rfl)⟩)).to (zhq q).symm (by decide),S.below⟩
theorem zpE (hs:Sm K q):q.floor.natAbs<Bw^(K+1):=by
 rw[zhq]
 have h1:=(zhf q.num (q.den:Int)).1
 have h2:=zan K
 have:Bw^(K+1)=Bw^K*4294967296:=by rw[Nat.pow_succ];rw[zaX]
 have:=hs.1
 omega
theorem zfA (h:Q1 K q v V)(b:K≤128):Calls Tryz.prog 40 #[v] V (zao V (ZT (max K 1+1) q.floor)):=
 zbn (zrs (h.to rfl b)) (fun _ _ h2=>h2.lim (zpE h.sm))
theorem zrt {q:Rat}{k:Nat}{v1:Value}{V:World}(h1:QT 44 (q) v1 V)(hk0:k≤2600):
  Calls Tryz.prog 105 #[v1,.int .i64 (((k:Nat):Int))] V (zao V (ZT 128 (Rat.floor (q*2^k)+1))):=by
 obtain⟨b1,x1,y1,rfl,hq1,hk1,hk2,ok1,ok2⟩:=h1
 refine zaD (e:=[x1,y1]) Tryz.func105 rfl Tryz.ntmps105 (zuz rfl) [(0,(aG b1 x1 y1)),(1,.int .i64 (((k:Nat):Int)))] rfl (zak ok1 (zak ok2 zaW)) (fun a S=>?_)
 refine wp_seq_k fun K1 hK1=>?_
 refine zaa ?_
 refine ti S (cs:=(aL b1 x1 y1)) (zaH rfl (S.at 0 rfl) rfl) (fun g1=>[⟨g1,27,(aL b1 x1 y1)⟩]) fun g1 a V1 hgg1 S=>?_
 refine ti S (cs:=[.bool false,.slice none 0 0]) (zap rfl (Tryz.zeroValue25 _) rfl) (fun g2=>[⟨g1,27,(aL b1 x1 y1)⟩,⟨g2,25,[.bool false,.slice none 0 0]⟩]) fun g2 a V2 hgg2 S=>?_
 refine hK1 _ _ ?_
 refine wp_seq_k fun K2 hK2=>?_
 obtain⟨W1,hW1⟩:∃W,W=V2:=⟨_,rfl⟩
 rw[←hW1]at S ⊢
 have S0:=S
 refine frs [(25,2)] [some 9,some 10,some 11,some 12,some 13,some 14,some 15,some 16,some 17,some 18,some 19,some 20,some 21,some 8,some 22,some 23,some 24,some 5,some 6,none,none,some 7] [IsV (pT g1 0),IsV (pT g1 0),IsV (.bool b1),IsV (pT g1 0),IsV (pT g1 1),IsV (aS x1),IsV (.int .i64 (((k:Nat):Int))),NT 126 (((q).num.natAbs)*2^k),Z1 126 (zOf b1 (((q).num.natAbs)*2^k)),IsV (pT g1 2),IsV (aS y1),ZT 44 (((q).den:Int)),ZDiv 126 44 (zOf b1 (((q).num.natAbs)*2^k)) (((q).den:Int)),ZDiv 126 44 (zOf b1 (((q).num.natAbs)*2^k)) (((q).den:Int)),ZT 127 (Int.fdiv (zOf b1 (((q).num.natAbs)*2^k)) ((q).den:Int)),ZT 127 (rmz (zOf b1 (((q).num.natAbs)*2^k)) ((q).den:Int)),IsV (.int .i64 (zfX ((q).den:Int))),zcQ,zcQ,zcQ,zcQ,IsV (.int .i64 (zfX ((q).den:Int)))] [⟨17,5,25,[.bool false,.slice none 0 0]⟩,⟨18,6,25,[.bool false,.slice none 0 0]⟩] [⟨19,5,25,ZT 127 (Int.fdiv (zOf b1 (((q).num.natAbs)*2^k)) ((q).den:Int))⟩,⟨20,6,25,ZT 127 (rmz (zOf b1 (((q).num.natAbs)*2^k)) ((q).den:Int))⟩] [] (lb:=[⟨g1,27,(aL b1 x1 y1)⟩,⟨g2,25,[.bool false,.slice none 0 0]⟩]) S (all_cons (zc4 0 rfl rfl) (all_cons (zc4 1 rfl rfl) zat)) ?_ (all_cons ⟨rfl,_,rfl,rfl,rfl,fun _ _ _=>(zap rfl (Tryz.zeroValue25 _) rfl)⟩ (all_cons ⟨rfl,_,rfl,rfl,rfl,fun _ _ _=>(zap rfl (Tryz.zeroValue25 _) rfl)⟩ zat)) (all_cons ⟨_,2,rfl,rfl,rfl,List.mem_of_getElem? (i:=0) rfl,(all_cons (fun h=>⟨rfl,rfl⟩) (all_cons (fun h=>by cases h) zat)),zat,fun _ _ _ _ hg hd=>zcN (hd.r 14 rfl rfl) (hd.r 14 rfl rfl).parts rfl hg rfl zav⟩ (all_cons ⟨_,2,rfl,rfl,rfl,List.mem_of_getElem? (i:=0) rfl,(all_cons (fun h=>by cases h) (all_cons (fun h=>⟨rfl,rfl⟩) zat)),zat,fun _ _ _ _ hg hd=>zcN (hd.r 15 rfl rfl) (hd.r 15 rfl rfl).parts rfl hg rfl zav⟩ zat)) zat ?_
 ·refine va (fun _ _ S _ _ _=>sv rfl (zaf rfl (S.at 1 rfl) (za6 _))) ?_
  refine va (fun _ _ _ _ hd _=>sv rfl (zaf rfl (hd.v 0 rfl rfl) (za9 _))) ?_
  refine va (fun _ _ S _ hd _=>sv rfl (zar rfl (hd.v 1 rfl rfl) (S.bx 0 rfl) (Tryz.isAgg4 _) rfl)) ?_
  refine va (fun _ _ S _ _ _=>sv rfl (zaf rfl (S.at 1 rfl) (za6 _))) ?_
  refine va (fun _ _ _ _ hd _=>sv rfl (zaf rfl (hd.v 3 rfl rfl) (zbu _))) ?_
  refine va (fun _ _ S _ hd _=>sv rfl (zar rfl (hd.v 4 rfl rfl) (S.bx 0 rfl) (Tryz.isAgg23 _) rfl)) ?_
  refine va (fun _ _ S _ _ _=>sv rfl (zad rfl (S.at 3 rfl))) ?_
  refine va (fun _ _ S _ hd _=>sl rfl (rc2 Tryz.func43 (hd.v 5 rfl rfl) (hd.v 6 rfl rfl)) (zbn (zhS (k:=k) (show NT 44 ((q).num.natAbs) (aS x1) _ from⟨x1,rfl,hq1.2.1,(by rw[←hq1.2.1];exact hq1.2.2.1),hk1,(S.num 0 rfl)⟩).any (by decide) (by omega)) (fun v V2 h=>h.to rfl (by omega)))) ?_
  refine va (fun _ _ _ _ hd _=>by
   obtain⟨v,hv,hq⟩:=zmC (b:=b1) ((hd.r 7 rfl rfl)).any
   exact sv rfl (zaL rfl (hd.v 2 rfl rfl) rfl hv) hq) ?_
  refine va (fun _ _ S _ _ _=>sv rfl (zaf rfl (S.at 1 rfl) (za0 _))) ?_
  refine va (fun _ _ S _ hd _=>sv rfl (zar rfl (hd.v 9 rfl rfl) (S.bx 0 rfl) (Tryz.isAgg23 _) rfl)) ?_
  refine va (fun _ _ S _ hd _=>sl rfl (rc1 Tryz.func95 (hd.v 10 rfl rfl)) (ze8 (show NT 44 ((q).den) (aS y1) _ from⟨y1,rfl,hq1.2.2.2.1,(by rw[←hq1.2.2.2.1];exact hq1.2.2.2.2),hk2,(S.num 1 rfl)⟩))) ?_
  refine va (fun _ _ _ _ hd _=>sl rfl (rc2 Tryz.func108 rfl rfl) (zsl (hd.r 8 rfl rfl) ((hd.r 11 rfl rfl)).any (by decide) (by decide))) ?_
  refine va (fun _ _ _ _ hd _=>sv rfl (zad rfl rfl) (hd.r 12 rfl rfl)) ?_
  refine va (fun _ _ _ _ hd _=>by
   obtain⟨v0,v1,hv,f0,f1⟩:=(hd.r 13 rfl rfl)
   exact sv rfl (zaq rfl hv rfl) f0) ?_
  refine va (fun _ _ _ _ hd _=>by
   obtain⟨v0,v1,hv,f0,f1⟩:=(hd.r 13 rfl rfl)
   exact sv rfl (zaq rfl hv rfl) f1) ?_
  refine va (fun _ _ _ _ hd _=>by
   obtain⟨v0,v1,hv,f0,f1⟩:=(hd.r 13 rfl rfl)
   exact sv rfl (zaq rfl hv rfl)) ?_
  refine vb ?_
  refine vb ?_
  refine vs ?_
  refine vs ?_
  refine va (fun _ _ _ _ hd _=>sv rfl (zam rfl (hd.v 16 rfl rfl))) ?_
  exact vn
 ·intro a1 V3 S hB hf hl hdis hs hp
  obtain⟨g3,csg3,hvg3,hgg3,hbg3,hlg3,hng3,hkg3⟩:=hl _ (List.mem_of_getElem? (i:=0) rfl)
  obtain⟨g4,csg4,hvg4,hgg4,hbg4,hlg4,hng4,hkg4⟩:=hl _ (List.mem_of_getElem? (i:=1) rfl)
  have hne_g3_g4:g3≠g4:=fun h=>hdis _ (List.mem_of_getElem? (i:=0) rfl) _ (List.mem_of_getElem? (i:=1) rfl) (by decide) (hvg3.trans (h▸hvg4.symm))
  obtain⟨gs1,vsgs1,hvgs1,-,hbgs1,hngs1,hPgs1⟩:=hs _ (List.mem_of_getElem? (i:=0) rfl)
  have hegs1:=zch ((hvg3).symm.trans hvgs1)
  subst hegs1
  obtain⟨b2,x2,hv1,hz1,hk3,ok3⟩:=(show ZT 127 (Int.fdiv (zOf b1 (((q).num.natAbs)*2^k)) ((q).den:Int)) (.agg vsgs1.toArray) V3 from hPgs1)
  have hvsgs1:=zci (ws:=[.bool b2,aS x2]) hv1
  subst hvsgs1
  have S:=S.know ok3
  obtain⟨gs2,vsgs2,hvgs2,-,hbgs2,hngs2,hPgs2⟩:=hs _ (List.mem_of_getElem? (i:=1) rfl)
  have hegs2:=zch ((hvg4).symm.trans hvgs2)
  subst hegs2
  obtain⟨b3,x3,hv2,hz2,hk4,ok4⟩:=(show ZT 127 (rmz (zOf b1 (((q).num.natAbs)*2^k)) ((q).den:Int)) (.agg vsgs2.toArray) V3 from hPgs2)
  have hvsgs2:=zci (ws:=[.bool b3,aS x3]) hv2
  subst hvsgs2
  have S:=S.know ok4
  have S:=Frm.readd (S.add hvg3) (zuC S0.below.size hgg3) hbgs1 rfl (zaR (zax (S0.lt 0 rfl) hgg3) (zaR (zax (S0.lt 1 rfl) hgg3) zcM))
  have S:=Frm.readd (S.add hvg4) (zuC S0.below.size hgg4) hbgs2 rfl (zaR (zax (S0.lt 0 rfl) hgg4) (zaR (zax (S0.lt 1 rfl) hgg4) (zaR hne_g3_g4 zcM)))
  have S:Frm 29 [(6,pT g4 0),(5,pT g3 0),(4,pT g2 0),(2,pT g1 0),(0,(aG b1 x1 y1)),(1,.int .i64 (((k:Nat):Int)))] [⟨g1,27,(aL b1 x1 y1)⟩,⟨g2,25,[.bool false,.slice none 0 0]⟩,⟨g3,25,[.bool b2,aS x2]⟩,⟨g4,25,[.bool b3,aS x3]⟩] V _ _ _:=S
  clear hf hl hdis hs hp S0
  refine hK2 _ _ ?_
  refine wp_seq_k fun K3 hK3=>?_
  obtain⟨W2,hW2⟩:∃W,W=V3:=⟨_,rfl⟩
  rw[←hW2]at S ⊢
  have S0:=S
  refine fr 4 [25,26,27,28] [IsV ((aZ b2 x2)),ZT 2 (1),ZL 127 4 ([Int.fdiv (zOf b1 (((q).num.natAbs)*2^k)) ((q).den:Int),1]),ZT 128 ((Int.fdiv (zOf b1 (((q).num.natAbs)*2^k)) ((q).den:Int))+1)] S ?_ ?_
  ·refine sc (fun _ _ S _ _=>sv rfl (zab rfl (S.at 1 rfl) (S.bx 2 rfl) Tryz.underlying25 rfl (vs:=[.bool b2,aS x2]) zav rfl)) ?_
   refine sc (fun _ _ _ _ _=>sl rfl (rcc Tryz.func44) (zjg (n:=1) (by decide))) ?_
   refine sc (fun _ _ S _ hd=>sy rfl (zbH rfl (hd.v 0 rfl rfl) rfl (show ZT 127 (Int.fdiv (zOf b1 (((q).num.natAbs)*2^k)) ((q).den:Int)) ((aZ b2 x2)) _ from⟨b2,x2,rfl,hz1,hk3,(S.num 1 rfl)⟩).any ((((hd.r 1 rfl rfl)).any).to rfl (by omega)))) ?_
   refine sc (fun _ _ _ _ hd=>sl rfl (rc1 Tryz.func130 rfl) (zsy ((hd.r 2 rfl rfl)).row (by decide))) ?_
   exact sn
  ·intro a2 V4 S hB hf
   obtain⟨b4,x4,hv3,hz3,hk5,ok5⟩:=hf.r 3 rfl rfl
   have S:=S.add hv3
   have S:=S.know ok5
   clear hf S0
   show wpList _ _ _ [_] _ _
   refine zal S (i:=1) (vs:=[.bool b4,aS x4]) rfl (fun ht=>zah rfl (S.at 3 rfl) (S.at 0 rfl) zav rfl (zuz rfl) ht) (zuz rfl) rfl rfl rfl (lb':=[⟨g1,27,(aL b1 x1 y1)⟩,⟨g2,25,[.bool b4,aS x4]⟩,⟨g3,25,[.bool b2,aS x2]⟩,⟨g4,25,[.bool b3,aS x3]⟩]) rfl (fun V5 S=>?_)
   refine hK3 _ _ ?_
   refine wp_ret ?_
   exact za1 rfl S (S.at 3 rfl) (i:=1) rfl Tryz.underlying25 rfl zav ⟨_,rfl,((show ZT 128 ((Int.fdiv (zOf b1 (((q).num.natAbs)*2^k)) ((q).den:Int))+1) ((aZ b4 x4)) _ from⟨b4,x4,rfl,hz3,hk5,(S.num 0 rfl)⟩)).to (zpC q k hq1.1) (by decide),S.below⟩
theorem zi5 {s:Nat}(h:QT K q v V)(b:K≤44)(hs:s≤2600):Calls Tryz.prog 105 #[v,.int .i64 (s:Nat)] V (zao V (ZT 128 (Rat.floor (q*2^s)+1))):=zrt (h.to rfl b) hs
theorem ztb {lo hi:Rat}{k:Nat}{v1 v2:Value}{V:World}(h1:QT 44 (lo) v1 V)(h2:QT 44 (hi) v2 V)(hk0:k≤2600):
  Calls Tryz.prog 104 #[v1,v2,.int .i64 (((k:Nat):Int))] V (zao V (fun v _=>v= .bool (zb4 lo hi k))):=by
 obtain⟨b1,x1,y1,rfl,hq1,hk1,hk2,ok1,ok2⟩:=h1
 obtain⟨b2,x2,y2,rfl,hq2,hk3,hk4,ok3,ok4⟩:=h2
 refine zaD (e:=[x2,y2,x1,y1]) Tryz.func104 rfl Tryz.ntmps104 (zuz rfl) [(0,(aG b1 x1 y1)),(1,(aG b2 x2 y2)),(2,.int .i64 (((k:Nat):Int)))] rfl (zak ok3 (zak ok4 (zak ok1 (zak ok2 zaW)))) (fun a S=>?_)
 refine wp_seq_k fun K1 hK1=>?_
 refine zaa ?_
 refine ti S (cs:=(aL b1 x1 y1)) (zaH rfl (S.at 0 rfl) rfl) (fun g1=>[⟨g1,27,(aL b1 x1 y1)⟩]) fun g1 a V1 hgg1 S=>?_
 refine ti S (cs:=(aL b2 x2 y2)) (zaH rfl (S.at 2 rfl) rfl) (fun g2=>[⟨g1,27,(aL b1 x1 y1)⟩,⟨g2,27,(aL b2 x2 y2)⟩]) fun g2 a V2 hgg2 S=>?_
 refine tv S (zau rfl) fun a S=>?_
 refine hK1 _ _ ?_
 refine wp_seq_k fun K2 hK2=>?_
 refine zaa ?_
 refine tv S (zab rfl (S.at 2 rfl) (S.bx 0 rfl) Tryz.underlying27 rfl (vs:=(aL b1 x1 y1)) zae rfl) fun a S=>?_
 refine tv S (zad rfl (S.at 6 rfl)) fun a S=>?_
 refine tc S (F:=ZT 128 (Rat.floor (lo*2^k)+1)) (rc2 Tryz.func105 (S.at 1 rfl) (S.at 0 rfl)) (zi5 (show QT 44 (lo) ((aG b1 x1 y1)) _ from⟨b1,x1,y1,rfl,hq1,hk1,hk2,(S.num 2 rfl),(S.num 3 rfl)⟩) (by decide) (show k≤2600 by omega)) fun v a V3 hF hb S=>?_
 obtain⟨b3,x3,rfl,hz1,hk5,ok5⟩:=hF
 have S:=S.know ok5
 refine ti S (cs:=[.bool false,.slice none 0 0]) (zap rfl (Tryz.zeroValue25 _) rfl) (fun g3=>[⟨g1,27,(aL b1 x1 y1)⟩,⟨g2,27,(aL b2 x2 y2)⟩,⟨g3,25,[.bool false,.slice none 0 0]⟩]) fun g3 a V4 hgg3 S=>?_
 refine zal S (i:=2) (vs:=[.bool b3,aS x3]) rfl (fun ht=>zah rfl (S.at 0 rfl) (S.at 1 rfl) zav rfl (zuz rfl) ht) (zuz rfl) rfl rfl rfl (lb':=[⟨g1,27,(aL b1 x1 y1)⟩,⟨g2,27,(aL b2 x2 y2)⟩,⟨g3,25,[.bool b3,aS x3]⟩]) rfl (fun V5 S=>?_)
 refine hK2 _ _ ?_
 refine wp_seq_k fun K3 hK3=>?_
 have S:=S.keep [7,6,4,2] (ls':=[(7,pT g3 0),(6,.bool false),(4,pT g2 0),(2,.int .i64 (((k:Nat):Int)))]) rfl
 obtain⟨W1,hW1⟩:∃W,W=V5:=⟨_,rfl⟩
 rw[←hW1]at S ⊢
 have S0:=S
 refine fr 17 [11,12,13,14,15,16,17,18,19,20,21,22,23,24,25,26,27] [IsV ((aZ b3 x3)),IsV (pT g2 2),IsV (aS y2),ZT 44 (((hi).den:Int)),ZL 128 4 ([Rat.floor (lo*2^k)+1,((hi).den:Int)]),ZT 256 ((Rat.floor (lo*2^k)+1)*((hi).den:Int)),IsV (pT g2 0),IsV (pT g2 0),IsV (.bool b2),IsV (pT g2 0),IsV (pT g2 1),IsV (aS x2),IsV (.int .i64 (((k:Nat):Int))),NT 126 (((hi).num.natAbs)*2^k),Z1 126 (zOf b2 (((hi).num.natAbs)*2^k)),IsV (.int .i64 (zbS ((Rat.floor (lo*2^k)+1)*((hi).den:Int)) (zOf b2 (((hi).num.natAbs)*2^k)))),IsV (.bool (decide (zbS ((Rat.floor (lo*2^k)+1)*((hi).den:Int)) (zOf b2 (((hi).num.natAbs)*2^k))<0)))] S ?_ ?_
 ·refine sc (fun _ _ S _ _=>sv rfl (zab rfl (S.at 0 rfl) (S.bx 2 rfl) Tryz.underlying25 rfl (vs:=[.bool b3,aS x3]) zav rfl)) ?_
  refine sc (fun _ _ S _ _=>sv rfl (zaf rfl (S.at 2 rfl) (za0 _))) ?_
  refine sc (fun _ _ S _ hd=>sv rfl (zar rfl (hd.v 1 rfl rfl) (S.bx 1 rfl) (Tryz.isAgg23 _) rfl)) ?_
  refine sc (fun _ _ S _ hd=>sl rfl (rc1 Tryz.func95 (hd.v 2 rfl rfl)) (ze8 (show NT 44 ((hi).den) (aS y2) _ from⟨y2,rfl,hq2.2.2.2.1,(by rw[←hq2.2.2.2.1];exact hq2.2.2.2.2),hk4,(S.num 2 rfl)⟩))) ?_
  refine sc (fun _ _ S _ hd=>sy rfl (zbH rfl (hd.v 0 rfl rfl) rfl (show ZT 128 (Rat.floor (lo*2^k)+1) ((aZ b3 x3)) _ from⟨b3,x3,rfl,hz1,hk5,(S.num 0 rfl)⟩).any ((((hd.r 3 rfl rfl)).any).to rfl (by omega)))) ?_
  refine sc (fun _ _ _ _ hd=>sl rfl (rc1 Tryz.func90 rfl) (zeR ((hd.r 4 rfl rfl)).row (by decide))) ?_
  refine sc (fun _ _ S _ _=>sv rfl (zaf rfl (S.at 2 rfl) (za6 _))) ?_
  refine sc (fun _ _ _ _ hd=>sv rfl (zaf rfl (hd.v 6 rfl rfl) (za9 _))) ?_
  refine sc (fun _ _ S _ hd=>sv rfl (zar rfl (hd.v 7 rfl rfl) (S.bx 1 rfl) (Tryz.isAgg4 _) rfl)) ?_
  refine sc (fun _ _ S _ _=>sv rfl (zaf rfl (S.at 2 rfl) (za6 _))) ?_
  refine sc (fun _ _ _ _ hd=>sv rfl (zaf rfl (hd.v 9 rfl rfl) (zbu _))) ?_
  refine sc (fun _ _ S _ hd=>sv rfl (zar rfl (hd.v 10 rfl rfl) (S.bx 1 rfl) (Tryz.isAgg23 _) rfl)) ?_
  refine sc (fun _ _ S _ _=>sv rfl (zad rfl (S.at 3 rfl))) ?_
  refine sc (fun _ _ S _ hd=>sl rfl (rc2 Tryz.func43 (hd.v 11 rfl rfl) (hd.v 12 rfl rfl)) (zbn (zhS (k:=k) (show NT 44 ((hi).num.natAbs) (aS x2) _ from⟨x2,rfl,hq2.2.1,(by rw[←hq2.2.1];exact hq2.2.2.1),hk3,(S.num 1 rfl)⟩).any (by decide) (by omega)) (fun v V2 h=>h.to rfl (by omega)))) ?_
  refine sc (fun _ _ _ _ hd=>by
   obtain⟨v,hv,hq⟩:=zmC (b:=b2) ((hd.r 13 rfl rfl)).any
   exact sv rfl (zaL rfl (hd.v 8 rfl rfl) rfl hv) hq) ?_
  refine sc (fun _ _ _ _ hd=>sl rfl (rc2 Tryz.func141 rfl rfl) (zun ((hd.r 5 rfl rfl)).any (hd.r 14 rfl rfl) (by decide) (by decide))) ?_
  refine sc (fun _ _ _ _ hd=>sv rfl (zdj rfl (hd.v 15 rfl rfl) rfl)) ?_
  exact sn
 ·intro a1 V6 S hB hf
  have S:=S.add (hf.v 16 rfl rfl)
  clear hf S0
  show wpList _ _ _ [_] _ _
  refine zbk S (v:= .bool (decide (zbS ((Rat.floor (lo*2^k)+1)*((hi).den:Int)) (zOf b2 (((hi).num.natAbs)*2^k))<0))) (zam rfl (S.at 0 rfl)) rfl rfl (by decide) (ls':=[(27,.bool (decide (zbS ((Rat.floor (lo*2^k)+1)*((hi).den:Int)) (zOf b2 (((hi).num.natAbs)*2^k))<0))),(7,pT g3 0),(4,pT g2 0),(2,.int .i64 (((k:Nat):Int)))]) rfl (fun a S=>?_)
  refine hK3 _ _ ?_
  refine wp_ret ?_
  exact za5 rfl S (S.at 0 rfl) ⟨_,rfl,(congrArg Value.bool (show decide (zbS ((Rat.floor (lo*2^k)+1)*((hi).den:Int)) (zOf b2 (((hi).num.natAbs)*2^k))<0)=zb4 lo hi k from zrr lo hi k hq2.1)),S.below⟩
theorem zpF {s:Nat}(h1:QT K q1 v1 V)(h2:QT K' q2 v2 V)(b:K≤44)(b':K'≤44)(hs:s≤2600):Calls Tryz.prog 104 #[v1,v2,.int .i64 (s:Nat)] V (zao V fun v _=>v= .bool (zb4 q1 q2 s)):=ztb (h1.to rfl b) (h2.to rfl b') hs
end Go.Proofs.YtafokgknenienaaGreatDoor
