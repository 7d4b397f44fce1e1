/- A part. -/
import Derived.Test.YtipckjmgdghkiaaGreatDoorGRatG
set_option maxHeartbeats 4000000
set_option maxRecDepth 100000
namespace Go.Proofs.YtipckjmgdghkiaaGreatDoor
open Go Go.RowKit
section
variable {v v' v1 v2:Value}{V:World}{K K' N M:Nat}{q q' q1 q2:Rat}{Z Z':Int}
def rmz (Z Z':Int):Int:=if Z'=0 then 0 else Z.fmod Z'
def zvJ (Z':Int):Int:=if Z'=0 then 30 else 0
def ZDiv (K K':Nat)(Z Z':Int)(v:Value)(V:World):Prop:=∃v0 v1,v= .tuple #[v0,v1,.int .i64 (zvJ Z')]/\ZT (K+1) (Z.fdiv Z') v0 V/\ZT (max K K'+1) (rmz Z Z') v1 V
theorem ZDiv.keep {V':World}(h:ZDiv K K' Z Z' v V)(hb:Below V.heap.size V V'):ZDiv K K' Z Z' v V':=by
 obtain⟨v0,v1,h1,h2,h3⟩:=h;exact⟨v0,v1,h1,h2.keep hb,h3.keep hb⟩
theorem ZDiv.keepS {V':World}{shs:List (TypeId×Nat)}{g:Nat}{vs:List Value}(h:ZDiv K K' Z Z' v V)(hb:Sto shs g vs V V'):ZDiv K K' Z Z' v V':=by
 obtain⟨v0,v1,h1,h2,h3⟩:=h;exact⟨v0,v1,h1,h2.keepS hb,h3.keepS hb⟩
def N2 (K K' N M:Nat)(v:Value)(V:World):Prop:=∃v1 v2,v= .tuple #[v1,v2]/\NT K N v1 V/\NT K' M v2 V
def NE (K N:Nat)(er:Int)(v:Value)(V:World):Prop:=∃v1,v= .tuple #[v1,.int .i64 er]/\NT K N v1 V
def N2E (K K' N M:Nat)(er:Int)(v:Value)(V:World):Prop:=∃v1 v2,v= .tuple #[v1,v2,.int .i64 er]/\NT K N v1 V/\NT K' M v2 V
theorem N2.keep {V':World}(h:N2 K K' N M v V)(hb:Below V.heap.size V V'):N2 K K' N M v V':=by obtain⟨a,b,h1,h2,h3⟩:=h;exact⟨a,b,h1,h2.keep hb,h3.keep hb⟩
theorem NE.keep {V':World}{er:Int}(h:NE K N er v V)(hb:Below V.heap.size V V'):NE K N er v V':=by obtain⟨a,h1,h2⟩:=h;exact⟨a,h1,h2.keep hb⟩
theorem N2E.keep {V':World}{er:Int}(h:N2E K K' N M er v V)(hb:Below V.heap.size V V'):N2E K K' N M er v V':=by obtain⟨a,b,h1,h2,h3⟩:=h;exact⟨a,b,h1,h2.keep hb,h3.keep hb⟩
section
variable {V':World}{shs:List (TypeId × Nat)}{g:Nat}{vs:List Value}
theorem N2.keepS (h:N2 K K' N M v V)(hb:Sto shs g vs V V'):N2 K K' N M v V':=by obtain⟨a,b,h1,h2,h3⟩:=h;exact⟨a,b,h1,h2.keepS hb,h3.keepS hb⟩
theorem NE.keepS {er:Int}(h:NE K N er v V)(hb:Sto shs g vs V V'):NE K N er v V':=by obtain⟨a,h1,h2⟩:=h;exact⟨a,h1,h2.keepS hb⟩
theorem N2E.keepS {er:Int}(h:N2E K K' N M er v V)(hb:Sto shs g vs V V'):N2E K K' N M er v V':=by obtain⟨a,b,h1,h2,h3⟩:=h;exact⟨a,b,h1,h2.keepS hb,h3.keepS hb⟩
end
instance {K K' N M:Nat}:Keeps (N2 K K' N M):=⟨fun h hb=>N2.keep h hb⟩
instance {K K' N M:Nat} {shs:List (TypeId×Nat)}:KeepsS shs (N2 K K' N M):=⟨fun h hb=>N2.keepS h hb⟩
instance {K N:Nat} {er:Int}:Keeps (NE K N er):=⟨fun h hb=>NE.keep h hb⟩
instance {K N:Nat} {er:Int} {shs:List (TypeId×Nat)}:KeepsS shs (NE K N er):=⟨fun h hb=>NE.keepS h hb⟩
instance {K K' N M:Nat} {er:Int}:Keeps (N2E K K' N M er):=⟨fun h hb=>N2E.keep h hb⟩
instance {K K' N M:Nat} {er:Int} {shs:List (TypeId×Nat)}:KeepsS shs (N2E K K' N M er):=⟨fun h hb=>N2E.keepS h hb⟩
instance {K K':Nat} {Z Z':Int}:Keeps (ZDiv K K' Z Z'):=⟨fun h hb=>ZDiv.keep h hb⟩
instance {K K':Nat} {Z Z':Int} {shs:List (TypeId×Nat)}:KeepsS shs (ZDiv K K' Z Z'):=⟨fun h hb=>ZDiv.keepS h hb⟩
section
variable {n:Nat}{ls:List (Tmp × Value)}{lb:List Bx}{w:World}{e:List Num}{a:Act}{i j:Nat}{o:Oper}
end
theorem div_pos {M:Nat}(hM:(!decide (zfQ M=0))=false):M≠0:=by
 rintro rfl;rw[zfq]at hM;cases hM
theorem zjA (q1 q2:Rat):q1+ -q2=q1 - q2:=(Rat.sub_eq_add_neg q1 q2).symm
theorem zse (q1 q2:Rat):Int.sign (q1.num*(q2.den:Int) - q2.num*(q1.den:Int))=zan q1 q2:=(zgn q1 q2).symm
theorem QE.sml {er er':Int}(h:QE K q er v V)(hs:Sm K' q)(he:er=er'):QE K' q er' v V:=by
 obtain⟨b,x,y,h1,h2,h3,h4,h5⟩:=h
 subst he
 exact⟨b,x,y,h1,h2,(zb0 h2 hs).1,(zb0 h2 hs).2,h5⟩
end
section
variable {v v' v1 v2:Value}{V:World}{K K' M:Nat}{q q' q1 q2:Rat}{Z Z':Int}
theorem zkT (h:ZRow K [Z,Z'] v V)(b:K<=700:=by omega):Calls Tryz.prog 71 #[v] V (zaf V (ZT (K+K) (Z*Z'))):=by
 obtain⟨A,c,p,p',rfl,hR,rfl,rfl,k1,k2,l1,l2⟩:=zqX h
 have h1:=zq5 (m:=K) b A c [p,p'] (Env.start (w:=V) (l:=[]) (by simp)) hR (by simp;omega) (by simp) (by simp;omega)
 rw[show zeN [p,p']=zP p*zP p' by simp[zeN]]at h1
 refine gz h1 ?_
 rw[Int.natAbs_mul,Nat.pow_add]
 exact Nat.mul_lt_mul'' l1 l2
theorem zu6 {q1 q2:Rat}{v1 v2:Value}{V:World}(h1:QT 349 (q1) v1 V)(h2:QT 349 (q2) v2 V):
  Calls Tryz.prog 90 #[v1,v2] V (zaf V (QT 699 (q1+q2))):=by
 obtain⟨b1,x1,y1,rfl,hq1,hk1,hk2,ok1,ok2⟩:=h1
 obtain⟨b2,x2,y2,rfl,hq2,hk3,hk4,ok3,ok4⟩:=h2
 refine fb Tryz.func90 Tryz.ntmps90 (zaa ok3 (zaa ok4 (zaa ok1 (zaa ok2 zau)))) (fun a S=>?_)
 refine wsp fun K1 hK1=>?_
 refine tb S 0 (aL b1 x1 y1) fun g1 a V1 hgg1 S=>?_
 refine tb S 2 (aL b2 x2 y2) fun g2 a V2 hgg2 S=>?_
 refine ti S (cs:=lZ) (zam rfl (Tryz.zeroValue27 _) rfl) (fun g3=>[⟨g1,27,(aL b1 x1 y1)⟩,⟨g2,27,(aL b2 x2 y2)⟩,⟨g3,27,lZ⟩]) fun g3 a V3 hgg3 S=>?_
 refine hK1 _ _ ?_
 refine wp_seq_k fun K2 hK2=>?_
 obtain⟨W1,hW1⟩:∃W,W=V3:=⟨_,rfl⟩
 rw[<-hW1]at S ⊢
 have S0:=S
 have hNoZL4:NoSh [(27,3)] 25 4:=⟨zvi rfl⟩
 refine frs [(27,3)] [some 8,some 9,some 10,some 11,some 12,some 13,some 14,some 15,some 16,some 17,some 18,some 19,some 20,some 21,some 22,some 23,some 24,some 25,some 26,some 27,some 28,some 29,some 7,some 30,some 31,some 5,none,some 6] [IsV (pT g1 0),IsV ((aZ b1 x1)),IsV (pT g2 2),IsV (aS y2),ZT 349 (((q2).den:Int)),ZL 349 4 ([(q1).num,((q2).den:Int)]),ZT 698 (((q1).num)*((q2).den:Int)),IsV (pT g2 0),IsV ((aZ b2 x2)),IsV (pT g1 2),IsV (aS y1),ZT 349 (((q1).den:Int)),ZL 349 4 ([(q2).num,((q1).den:Int)]),ZT 698 (((q2).num)*((q1).den:Int)),ZL 698 4 ([((q1).num)*((q2).den:Int),((q2).num)*((q1).den:Int)]),ZT 699 ((((q1).num)*((q2).den:Int))+(((q2).num)*((q1).den:Int))),IsV (pT g1 2),IsV (aS y1),IsV (pT g2 2),IsV (aS y2),NT 698 (((q1).den)*((q2).den)),QE 699 (mkRat ((((q1).num)*((q2).den:Int))+(((q2).num)*((q1).den:Int))) (((q1).den)*((q2).den))) (erz (((q1).den)*((q2).den))),QE 699 (mkRat ((((q1).num)*((q2).den:Int))+(((q2).num)*((q1).den:Int))) (((q1).den)*((q2).den))) (erz (((q1).den)*((q2).den))),QT 699 (mkRat ((((q1).num)*((q2).den:Int))+(((q2).num)*((q1).den:Int))) (((q1).den)*((q2).den))),iI ((erz (((q1).den)*((q2).den)))),zfx,zfx,iI ((erz (((q1).den)*((q2).den))))] [⟨25,5,27,lZ⟩] [⟨26,5,27,QT 699 (mkRat ((((q1).num)*((q2).den:Int))+(((q2).num)*((q1).den:Int))) (((q1).den)*((q2).den)))⟩] [] (lb:=[⟨g1,27,(aL b1 x1 y1)⟩,⟨g2,27,(aL b2 x2 y2)⟩,⟨g3,27,lZ⟩]) S (all_cons (zgt 0 rfl rfl) zaO) ?_ (all_cons ⟨rfl,_,rfl,rfl,rfl,fun _ _ _=>(zam rfl (Tryz.zeroValue27 _) rfl)⟩ zaO) (all_cons ⟨_,3,rfl,rfl,rfl,List.mem_of_getElem? (i:=0) rfl,(all_cons (fun h=>⟨rfl,rfl⟩) zaO),zaO,fun _ _ _ _ hg hd=>zfw (hd.r 23 rfl rfl) (hd.r 23 rfl rfl).parts rfl hg rfl zah⟩ zaO) zaO ?_
 ·refine va (fun _ _ S _ _ _=>sv rfl (zab rfl (S.at 2 rfl) (zbD _))) ?_
  refine va (fun _ _ S _ hd _=>sv rfl (zad rfl (hd.v 0 rfl rfl) (S.bx 0 rfl) Tryz.underlying25 rfl (vs:=[.bool b1,aS x1]) zca rfl)) ?_
  refine va (fun _ _ S _ _ _=>sv rfl (zab rfl (S.at 1 rfl) (zbc _))) ?_
  refine va (fun _ _ S _ hd _=>sv rfl (zap rfl (hd.v 2 rfl rfl) (S.bx 1 rfl) (Tryz.isAgg23 _) rfl)) ?_
  refine va (fun _ _ S _ hd _=>sl rfl (rc1 Tryz.func72 (hd.v 3 rfl rfl)) (zjI (show NT 349 ((q2).den) (aS y2) _ from⟨y2,rfl,hq2.2.2.2.1,(by rw[<-hq2.2.2.2.1];exact hq2.2.2.2.2),hk4,(S.num 1 rfl)⟩))) ?_
  refine va (fun _ _ S _ hd _=>sy rfl (zcQ rfl (hd.v 1 rfl rfl) rfl (show ZT 349 ((q1).num) ((aZ b1 x1)) _ from⟨b1,x1,rfl,(show b1=decide ((q1).num<0)/\x1.N=(q1).num.natAbs/\x1.n=lenL (q1).num.natAbs from⟨hq1.1,hq1.2.1,by rw[<-hq1.2.1];exact hq1.2.2.1⟩),hk1,(S.num 2 rfl)⟩).any ((hd.r 4 rfl rfl)).any)) ?_
  refine va (fun _ _ _ _ hd _=>sl rfl (rc1 Tryz.func71 rfl) (zkT ((hd.r 5 rfl rfl)).row)) ?_
  refine va (fun _ _ S _ _ _=>sv rfl (zab rfl (S.at 1 rfl) (zbD _))) ?_
  refine va (fun _ _ S _ hd _=>sv rfl (zad rfl (hd.v 7 rfl rfl) (S.bx 1 rfl) Tryz.underlying25 rfl (vs:=[.bool b2,aS x2]) zca rfl)) ?_
  refine va (fun _ _ S _ _ _=>sv rfl (zab rfl (S.at 2 rfl) (zbc _))) ?_
  refine va (fun _ _ S _ hd _=>sv rfl (zap rfl (hd.v 9 rfl rfl) (S.bx 0 rfl) (Tryz.isAgg23 _) rfl)) ?_
  refine va (fun _ _ S _ hd _=>sl rfl (rc1 Tryz.func72 (hd.v 10 rfl rfl)) (zjI (show NT 349 ((q1).den) (aS y1) _ from⟨y1,rfl,hq1.2.2.2.1,(by rw[<-hq1.2.2.2.1];exact hq1.2.2.2.2),hk2,(S.num 3 rfl)⟩))) ?_
  refine va (fun _ _ S _ hd _=>sy rfl (zcQ rfl (hd.v 8 rfl rfl) rfl (show ZT 349 ((q2).num) ((aZ b2 x2)) _ from⟨b2,x2,rfl,(show b2=decide ((q2).num<0)/\x2.N=(q2).num.natAbs/\x2.n=lenL (q2).num.natAbs from⟨hq2.1,hq2.2.1,by rw[<-hq2.2.1];exact hq2.2.2.1⟩),hk3,(S.num 0 rfl)⟩).any ((hd.r 11 rfl rfl)).any)) ?_
  refine va (fun _ _ _ _ hd _=>sl rfl (rc1 Tryz.func71 rfl) (zkT ((hd.r 12 rfl rfl)).row)) ?_
  refine va (fun _ _ _ _ hd _=>sy rfl (zcQ rfl rfl rfl ((hd.r 6 rfl rfl)).any ((hd.r 13 rfl rfl)).any)) ?_
  refine va (fun _ _ _ _ hd _=>sl rfl (rc1 Tryz.func109 rfl) (zvo ((hd.r 14 rfl rfl)).row (by decide))) ?_
  refine va (fun _ _ S _ _ _=>sv rfl (zab rfl (S.at 2 rfl) (zbc _))) ?_
  refine va (fun _ _ S _ hd _=>sv rfl (zap rfl (hd.v 16 rfl rfl) (S.bx 0 rfl) (Tryz.isAgg23 _) rfl)) ?_
  refine va (fun _ _ S _ _ _=>sv rfl (zab rfl (S.at 1 rfl) (zbc _))) ?_
  refine va (fun _ _ S _ hd _=>sv rfl (zap rfl (hd.v 18 rfl rfl) (S.bx 1 rfl) (Tryz.isAgg23 _) rfl)) ?_
  refine va (fun _ _ S _ hd _=>sl rfl (rc2 Tryz.func88 (hd.v 17 rfl rfl) (hd.v 19 rfl rfl)) (zto (show NT 349 ((q1).den) (aS y1) _ from⟨y1,rfl,hq1.2.2.2.1,(by rw[<-hq1.2.2.2.1];exact hq1.2.2.2.2),hk2,(S.num 3 rfl)⟩).any (show NT 349 ((q2).den) (aS y2) _ from⟨y2,rfl,hq2.2.2.2.1,(by rw[<-hq2.2.2.2.1];exact hq2.2.2.2.2),hk4,(S.num 1 rfl)⟩).any (by decide) (by decide))) ?_
  refine va (fun _ _ _ _ hd _=>sl rfl (rc2 Tryz.func87 rfl rfl) (ztn ((hd.r 15 rfl rfl)).any ((hd.r 20 rfl rfl)).any (by decide) (by decide))) ?_
  refine va (fun _ _ _ _ hd _=>sv rfl (zao rfl rfl) (hd.r 21 rfl rfl)) ?_
  refine va (fun _ _ _ _ hd _=>by
   obtain⟨b,x,y,hv,hq,k1,k2,o1,o2⟩:=(hd.r 22 rfl rfl)
   exact sv rfl (zaT rfl hv rfl) ⟨b,x,y,rfl,hq,k1,k2,o1,o2⟩) ?_
  refine va (fun _ _ _ _ hd _=>by
   obtain⟨b,x,y,hv,hq,k1,k2,o1,o2⟩:=(hd.r 22 rfl rfl)
   exact sv rfl (zaT rfl hv rfl)) ?_
  refine vb ?_
  refine vs ?_
  refine va (fun _ _ _ _ hd _=>sv rfl (zak rfl (hd.v 24 rfl rfl))) ?_
  exact vn
 ·intro a1 V4 S hB hf hl hdis hs hp
  obtain⟨g4,csg4,hvg4,hgg4,hbg4,hlg4,hng4,hkg4⟩:=hl _ (List.mem_of_getElem? (i:=0) rfl)
  obtain⟨gs1,vsgs1,hvgs1,-,hbgs1,hngs1,hPgs1⟩:=hs _ (List.mem_of_getElem? (i:=0) rfl)
  have hegs1:=zei ((hvg4).symm.trans hvgs1)
  subst hegs1
  obtain⟨b3,x3,y3,hv1,hq3,hk5,hk6,ok5,ok6⟩:=(show QT 699 (mkRat ((((q1).num)*((q2).den:Int))+(((q2).num)*((q1).den:Int))) (((q1).den)*((q2).den))) (.agg vsgs1.toArray) V4 from hPgs1)
  have hvsgs1:=zej (ws:=(aL b3 x3 y3)) hv1
  subst hvsgs1
  have S:=S.know ok5
  have S:=S.know ok6
  have S:=Frm.readd (S.add hvg4) (zv2 S0.below.size hgg4) hbgs1 rfl (za1 (zaB (S0.lt 0 rfl) hgg4) (za1 (zaB (S0.lt 1 rfl) hgg4) (za1 (zaB (S0.lt 2 rfl) hgg4) zfv)))
  have S:Frm 33 [(5,pT g4 0),(4,pT g3 0),(3,pT g2 0),(2,pT g1 0),(0,(aG b1 x1 y1)),(1,(aG b2 x2 y2))] [⟨g1,27,(aL b1 x1 y1)⟩,⟨g2,27,(aL b2 x2 y2)⟩,⟨g3,27,lZ⟩,⟨g4,27,(aL b3 x3 y3)⟩] V _ _ _:=S
  clear hf hl hdis hs hp S0
  refine hK2 _ _ ?_
  refine wsp fun K3 hK3=>?_
  refine tv S (zad rfl (S.at 0 rfl) (S.bx 3 rfl) Tryz.underlying27 rfl (vs:=(aL b3 x3 y3)) zah rfl) fun a S=>?_
  refine sto S 2 (fun ht=>zaj rfl (S.at 2 rfl) (S.at 0 rfl) zah rfl (zvZ rfl) ht) fun V5 S=>?_
  refine hK3 _ _ ?_
  refine wp_ret ?_
  exact zar rfl S (S.at 2 rfl) (i:=2) rfl Tryz.underlying27 rfl zah ⟨_,rfl,((show QT 699 (mkRat ((((q1).num)*((q2).den:Int))+(((q2).num)*((q1).den:Int))) (((q1).den)*((q2).den))) ((aG b3 x3 y3)) _ from⟨b3,x3,y3,rfl,hq3,hk5,hk6,(S.num 1 rfl),(S.num 0 rfl)⟩)).to (zt9 q1 q2) (by decide),S.below⟩
theorem zu7 (h1:QT K q1 v1 V)(h2:QT K' q2 v2 V)(b:K<=349)(b':K'<=349):Calls Tryz.prog 90 #[v1,v2] V (zaf V (QT (K+K'+1) (q1+q2))):=
 zdd (zu6 (h1.to rfl b) (h2.to rfl b')) (fun _ _ h=>h.sml (h1.sm.add h2.sm))
theorem zu8 {l:List Rat}{v1:Value}{V:World}(h1:QRow 349 (l) v1 V)(hSm:∀k,k<=l.length->Sm 349 (zdw (l.take k))):
  Calls Tryz.prog 43 #[v1] V (zaf V (QT 349 (zdw l))):=by
 obtain⟨A,c,ps,rfl,hRow,rfl,hK,hcap,hmax,h60⟩:=h1
 refine fb Tryz.func43 Tryz.ntmps43 zau (fun a S=>?_)
 refine wsp fun K1 hK1=>?_
 refine ti S (cs:=lZ) (zam rfl (Tryz.zeroValue27 _) rfl) (fun g1=>[⟨g1,27,lZ⟩]) fun g1 a V1 hgg1 S=>?_
 refine hK1 _ _ ?_
 refine wsp fun K2 hK2=>?_
 refine tc S (F:=QT 2 ((0:Int))) (rcc Tryz.func28) (zmn (n:=0) (by decide)) fun v a V2 hF hb S=>?_
 obtain⟨b1,x1,y1,rfl,hq1,hk1,hk2,ok1,ok2⟩:=hF
 have S:=S.know ok1
 have S:=S.know ok2
 refine ti S (cs:=lZ) (zam rfl (Tryz.zeroValue27 _) rfl) (fun g2=>[⟨g1,27,lZ⟩,⟨g2,27,lZ⟩]) fun g2 a V3 hgg2 S=>?_
 refine sto S 1 (fun ht=>zaj rfl (S.at 0 rfl) (S.at 1 rfl) zah rfl (zvZ rfl) ht) fun V4 S=>?_
 refine hK2 _ _ ?_
 refine wp_seq_k fun K3 hK3=>?_
 refine wsp fun K4 hK4=>?_
 refine ac S fun a S=>?_
 refine hK4 _ _ ?_
 refine wp_block ?_
 have S:=S.keep [4,3,2,0] (ls':=[(4,.int .i64 0),(3,pT g2 0),(2,pT g1 0),(0,.slice A ps.length c)]) rfl
 have hI0:=(show IsQ (zdw ((ps.map qP).take 0)) b1 x1 y1 from(show(((0:Int):Rat))=zdw ((ps.map qP).take 0)from rfl)▸hq1)
 have S:=S.sel [0,1,2,3] rfl
 have S:=S.seln [1,0,0,1] rfl
 have S:=S.reorder [0,1] rfl (by decide)
 refine wp_loop (fun aI VI=>∃(k:Nat) (b:Bool) (x:Num) (y:Num),(IsQ (zdw ((ps.map qP).take k)) b x y)/\(x.n<=349)/\(y.n<=349)/\(k<=ps.length)/\Frm 20 [(4,.int .i64 (((k:Nat):Int))),(3,pT g2 0),(2,pT g1 0),(0,.slice A ps.length c)] [⟨g1,27,lZ⟩,⟨g2,27,(aL b x y)⟩] V [x,y,y1,x1] aI VI) (fun aI _=>(ps.length) - (intOf (aI.tmps.getD 4 undef)).toNat) ⟨0,b1,x1,y1,hI0,(zb0 hI0 (hSm 0 (Nat.zero_le _))).1,(zb0 hI0 (hSm 0 (Nat.zero_le _))).2,Nat.zero_le _,S⟩ ?_
 rintro a1 V5 ⟨k,b,x,y,hI,hkx,hky,hkl,S⟩
 have hm0:a1.tmps.getD 4 undef= .int .i64 (((k:Nat):Int)):=S.at 0 rfl
 refine wp_seq_k fun K5 hK5=>?_
 refine wsp fun K6 hK6=>?_
 refine mv S 0 fun a S=>?_
 refine mv S 4 fun a S=>?_
 refine tv S (zbY (by decide) rfl (S.at 0 rfl)) fun a S=>?_
 refine tv S (zc9 rfl (S.at 2 rfl) (S.at 0 rfl)) fun a S=>?_
 refine hK6 _ _ ?_
 rcases zv9 (decide (((k:Nat):Int)<((ps.length:Nat):Int)))with hc9|hc9
 ·refine wp_cond_true ((S.at 0 rfl).trans (congrArg Value.bool hc9)) ?_
  have hlt:k<ps.length:=by have:=of_decide_eq_true hc9;omega
  obtain⟨be,xe,ye,hel⟩:∃b x y,ps[k]=(b,x,y):=⟨_,_,_,rfl⟩
  have hoe:=(hRow k hlt).2
  have hke:=hK _ (List.getElem_mem hlt)
  rw[hel]at hoe hke
  have hqe:qOf be xe.N ye.N=qP ps[k]:=by rw[hel];rfl
  have S:=(S.know (hoe.1.later S.below)).know (hoe.2.later S.below)
  refine wp_skip ?_
  refine hK5 _ _ ?_
  refine wp_seq_k fun K7 hK7=>?_
  refine wp_block ?_
  obtain⟨W1,hW1⟩:∃W,W=V5:=⟨_,rfl⟩
  rw[<-hW1]at S ⊢
  have S0:=S
  refine fr 7 [12,13,14,15,16,17,18] [IsV ((aG b x y)),IsV (.slice A ps.length c),iI ((((k:Nat):Int))),IsV (.pointer (some (zbr A (k*3)))),IsV ((aG be xe ye)),QT 349 (qP ps[k]),QT 699 ((zdw ((ps.map qP).take k))+(qP ps[k]))] S ?_ ?_
  ·refine sc (fun _ _ S _ _=>sv rfl (zad rfl (S.at 5 rfl) (S.bx 1 rfl) Tryz.underlying27 rfl (vs:=(aL b x y)) zah rfl)) ?_
   refine sc (fun _ _ S _ _=>sv rfl (zao rfl (S.at 7 rfl))) ?_
   refine sc (fun _ _ S _ _=>sv rfl (zao rfl (S.at 4 rfl))) ?_
   refine sc (fun _ _ _ _ hd=>sv rfl (zgq hRow hlt rfl (hd.v 1 rfl rfl) (hd.v 2 rfl rfl))) ?_
   refine sc (fun _ _ S _ hd=>sv rfl (zhN ((hRow.below S.below).more S.below.size) hlt hel rfl (hd.v 3 rfl rfl))) ?_
   refine sc (fun _ _ S _ hd=>sl rfl (rc1 Tryz.func69 (hd.v 4 rfl rfl)) (zgu (show Q1 349 (qP ps[k]) ((aG be xe ye)) _ from⟨be,xe,ye,rfl,hqe,hke.1,hke.2,(S.num 1 rfl),(S.num 0 rfl)⟩))) ?_
   refine sc (fun _ _ S _ hd=>sl rfl (rc2 Tryz.func90 (hd.v 0 rfl rfl) rfl) (zu7 (show QT 349 (zdw ((ps.map qP).take k)) ((aG b x y)) _ from⟨b,x,y,rfl,hI,hkx,hky,(S.num 2 rfl),(S.num 3 rfl)⟩) (hd.r 5 rfl rfl) (by decide) (by decide))) ?_
   exact sn
  ·intro a2 V6 S hB hf
   obtain⟨b2,x2,y2,hv1,hq2,hk3,hk4,ok3,ok4⟩:=hf.r 6 rfl rfl
   have S:=S.add hv1
   have S:=S.know ok3
   have S:=S.know ok4
   clear hf S0
   show wpList _ _ _ [_] _ _
   refine sto S 1 (fun ht=>zaj rfl (S.at 6 rfl) (S.at 0 rfl) zah rfl (zvZ rfl) ht) fun V7 S=>?_
   refine hK7 _ _ ?_
   refine zaD ?_
   refine mv S 5 fun a S=>?_
   refine tv S (ze5 (k:=k) (m:=1) rfl (S.at 0 rfl) rfl (by omega)) fun a S=>?_
   refine av S (zak rfl (S.at 0 rfl)) fun a S=>?_
   have hI1:IsQ (zdw ((ps.map qP).take (k+1))) b2 x2 y2:=zub hlt▸hq2
   have hl1:=zb0 hI1 (hSm (k+1) (by rw[List.length_map];exact hlt))
   have S:=S.sel [0,8,9,10] rfl
   have S:=S.seln [1,0,6,7] rfl
   have S:=S.reorder [0,1] rfl (by decide)
   refine⟨⟨k+1,b2,x2,y2,hI1,hl1.1,hl1.2,hlt,S⟩,?_⟩
   have hm1:=S.at 0 rfl
   rw[hm0,hm1]
   simp only[intOf];omega
 ·refine wp_cond_false ((S.at 0 rfl).trans (congrArg Value.bool hc9)) ?_
  have hge:ps.length<=k:=by have:=of_decide_eq_false hc9;omega
  refine wp_exit ?_
  refine hK3 _ _ ?_
  refine wsp fun K8 hK8=>?_
  refine tv S (zad rfl (S.at 5 rfl) (S.bx 1 rfl) Tryz.underlying27 rfl (vs:=(aL b x y)) zah rfl) fun a S=>?_
  refine sto S 0 (fun ht=>zaj rfl (S.at 7 rfl) (S.at 0 rfl) zah rfl (zvZ rfl) ht) fun V8 S=>?_
  refine hK8 _ _ ?_
  refine wp_ret ?_
  exact zar rfl S (S.at 7 rfl) (i:=0) rfl Tryz.underlying27 rfl zah ⟨_,rfl,⟨b,x,y,rfl,zsv hge▸hI,hkx,hky,(S.num 0 rfl),(S.num 1 rfl)⟩,S.below⟩
theorem zu9 {l:List Rat}{v1:Value}{V:World}(h1:QRow 349 (l) v1 V)(hSm:∀k,k<=l.length->Sm 349 (zbb (l.take k))):
  Calls Tryz.prog 44 #[v1] V (zaf V (QT 349 (zbb l))):=by
 obtain⟨A,c,ps,rfl,hRow,rfl,hK,hcap,hmax,h60⟩:=h1
 refine fb Tryz.func44 Tryz.ntmps44 zau (fun a S=>?_)
 refine wsp fun K1 hK1=>?_
 refine ti S (cs:=lZ) (zam rfl (Tryz.zeroValue27 _) rfl) (fun g1=>[⟨g1,27,lZ⟩]) fun g1 a V1 hgg1 S=>?_
 refine hK1 _ _ ?_
 refine wsp fun K2 hK2=>?_
 refine tc S (F:=QT 2 ((1:Int))) (rcc Tryz.func28) (zmn (n:=1) (by decide)) fun v a V2 hF hb S=>?_
 obtain⟨b1,x1,y1,rfl,hq1,hk1,hk2,ok1,ok2⟩:=hF
 have S:=S.know ok1
 have S:=S.know ok2
 refine ti S (cs:=lZ) (zam rfl (Tryz.zeroValue27 _) rfl) (fun g2=>[⟨g1,27,lZ⟩,⟨g2,27,lZ⟩]) fun g2 a V3 hgg2 S=>?_
 refine sto S 1 (fun ht=>zaj rfl (S.at 0 rfl) (S.at 1 rfl) zah rfl (zvZ rfl) ht) fun V4 S=>?_
 refine hK2 _ _ ?_
 refine wp_seq_k fun K3 hK3=>?_
 refine wsp fun K4 hK4=>?_
 refine ac S fun a S=>?_
 refine hK4 _ _ ?_
 refine wp_block ?_
 have S:=S.keep [4,3,2,0] (ls':=[(4,.int .i64 0),(3,pT g2 0),(2,pT g1 0),(0,.slice A ps.length c)]) rfl
 have hI0:=(show IsQ (zbb ((ps.map qP).take 0)) b1 x1 y1 from(show(((1:Int):Rat))=zbb ((ps.map qP).take 0)from rfl)▸hq1)
 have S:=S.sel [0,1,2,3] rfl
 have S:=S.seln [1,0,0,1] rfl
 have S:=S.reorder [0,1] rfl (by decide)
 refine wp_loop (fun aI VI=>∃(k:Nat) (b:Bool) (x:Num) (y:Num),(IsQ (zbb ((ps.map qP).take k)) b x y)/\(x.n<=349)/\(y.n<=349)/\(k<=ps.length)/\Frm 34 [(4,.int .i64 (((k:Nat):Int))),(3,pT g2 0),(2,pT g1 0),(0,.slice A ps.length c)] [⟨g1,27,lZ⟩,⟨g2,27,(aL b x y)⟩] V [x,y,y1,x1] aI VI) (fun aI _=>(ps.length) - (intOf (aI.tmps.getD 4 undef)).toNat) ⟨0,b1,x1,y1,hI0,(zb0 hI0 (hSm 0 (Nat.zero_le _))).1,(zb0 hI0 (hSm 0 (Nat.zero_le _))).2,Nat.zero_le _,S⟩ ?_
 rintro a1 V5 ⟨k,b,x,y,hI,hkx,hky,hkl,S⟩
 have hm0:a1.tmps.getD 4 undef= .int .i64 (((k:Nat):Int)):=S.at 0 rfl
 refine wp_seq_k fun K5 hK5=>?_
 refine wsp fun K6 hK6=>?_
 refine mv S 0 fun a S=>?_
 refine mv S 4 fun a S=>?_
 refine tv S (zbY (by decide) rfl (S.at 0 rfl)) fun a S=>?_
 refine tv S (zc9 rfl (S.at 2 rfl) (S.at 0 rfl)) fun a S=>?_
 refine hK6 _ _ ?_
 rcases zv9 (decide (((k:Nat):Int)<((ps.length:Nat):Int)))with hc10|hc10
 ·refine wp_cond_true ((S.at 0 rfl).trans (congrArg Value.bool hc10)) ?_
  have hlt:k<ps.length:=by have:=of_decide_eq_true hc10;omega
  obtain⟨be,xe,ye,hel⟩:∃b x y,ps[k]=(b,x,y):=⟨_,_,_,rfl⟩
  have hoe:=(hRow k hlt).2
  have hke:=hK _ (List.getElem_mem hlt)
  rw[hel]at hoe hke
  have hqe:qOf be xe.N ye.N=qP ps[k]:=by rw[hel];rfl
  have S:=(S.know (hoe.1.later S.below)).know (hoe.2.later S.below)
  refine wp_skip ?_
  refine hK5 _ _ ?_
  refine wp_seq_k fun K7 hK7=>?_
  refine wp_block ?_
  refine wsp fun K8 hK8=>?_
  refine mv S 7 fun a S=>?_
  refine mv S 5 fun a S=>?_
  refine tv S (zgq hRow hlt rfl (S.at 1 rfl) (S.at 0 rfl)) fun a S=>?_
  refine tv S (zhN ((hRow.below S.below).more S.below.size) hlt hel rfl (S.at 0 rfl)) fun a S=>?_
  refine tc S (F:=QT 349 (qP ps[k])) (rc1 Tryz.func69 (S.at 0 rfl)) (zgu (show Q1 349 (qP ps[k]) ((aG be xe ye)) _ from⟨be,xe,ye,rfl,hqe,hke.1,hke.2,(S.num 1 rfl),(S.num 0 rfl)⟩)) fun v a V6 hF hb S=>?_
  obtain⟨b2,x2,y2,rfl,hq2,hk3,hk4,ok3,ok4⟩:=hF
  have S:=S.know ok3
  have S:=S.know ok4
  refine ti S (cs:=lZ) (zam rfl (Tryz.zeroValue27 _) rfl) (fun g3=>[⟨g1,27,lZ⟩,⟨g2,27,(aL b x y)⟩,⟨g3,27,lZ⟩]) fun g3 a V7 hgg3 S=>?_
  refine sto S 2 (fun ht=>zaj rfl (S.at 0 rfl) (S.at 1 rfl) zah rfl (zvZ rfl) ht) fun V8 S=>?_
  refine hK8 _ _ ?_
  have S:=S.reorder [0,2,1] (lb':=[⟨g1,27,lZ⟩,⟨g3,27,(aL b2 x2 y2)⟩,⟨g2,27,(aL b x y)⟩]) rfl (by decide)
  obtain⟨W1,hW1⟩:∃W,W=V8:=⟨_,rfl⟩
  rw[<-hW1]at S ⊢
  have S0:=S
  have hNoZL4:NoSh [(27,3)] 25 4:=⟨zvi rfl⟩
  refine frs [(27,3)] [some 19,some 20,some 21,some 22,some 23,some 24,some 25,some 26,some 27,some 28,some 29,some 30,some 18,some 31,some 32,none] [IsV (pT g2 0),IsV ((aZ b x)),IsV (pT g3 0),IsV ((aZ b2 x2)),ZL 349 4 ([(zbb ((ps.map qP).take k)).num,(qP ps[k]).num]),ZT 698 (((zbb ((ps.map qP).take k)).num)*((qP ps[k]).num)),IsV (pT g2 2),IsV (aS y),IsV (pT g3 2),IsV (aS y2),NT 698 (((zbb ((ps.map qP).take k)).den)*((qP ps[k]).den)),QE 698 (mkRat (((zbb ((ps.map qP).take k)).num)*((qP ps[k]).num)) (((zbb ((ps.map qP).take k)).den)*((qP ps[k]).den))) (erz (((zbb ((ps.map qP).take k)).den)*((qP ps[k]).den))),QE 698 (mkRat (((zbb ((ps.map qP).take k)).num)*((qP ps[k]).num)) (((zbb ((ps.map qP).take k)).den)*((qP ps[k]).den))) (erz (((zbb ((ps.map qP).take k)).den)*((qP ps[k]).den))),QT 698 (mkRat (((zbb ((ps.map qP).take k)).num)*((qP ps[k]).num)) (((zbb ((ps.map qP).take k)).den)*((qP ps[k]).den))),iI ((erz (((zbb ((ps.map qP).take k)).den)*((qP ps[k]).den)))),zfx] [] [⟨15,3,27,QT 698 (mkRat (((zbb ((ps.map qP).take k)).num)*((qP ps[k]).num)) (((zbb ((ps.map qP).take k)).den)*((qP ps[k]).den)))⟩] [(15,⟨g2,27,(aL b x y)⟩)] (lb:=[⟨g1,27,lZ⟩,⟨g3,27,(aL b2 x2 y2)⟩]) S (all_cons (.inr ⟨_,List.mem_of_getElem? (i:=0) rfl,rfl,List.mem_of_getElem? (i:=11) rfl⟩) zaO) ?_ zaO (all_cons ⟨_,3,rfl,rfl,rfl,List.mem_of_getElem? (i:=0) rfl,zaO,(all_cons (fun h=>⟨rfl,rfl⟩) zaO),fun _ _ _ _ hg hd=>zfw (hd.r 13 rfl rfl) (hd.r 13 rfl rfl).parts rfl hg rfl zah⟩ zaO) (all_cons ⟨_,List.mem_of_getElem? (i:=0) rfl,rfl⟩ zaO) ?_
  ·refine va (fun _ _ S _ _ _=>sv rfl (zab rfl (S.at 11 rfl) (zbD _))) ?_
   refine va (fun _ _ _ _ hd hp=>sv rfl (zad rfl (hd.v 0 rfl rfl) (hp _ (List.mem_of_getElem? (i:=0) rfl) (by kernel_rfl)) Tryz.underlying25 rfl (vs:=[.bool b,aS x]) zca rfl)) ?_
   refine va (fun _ _ S _ _ _=>sv rfl (zab rfl (S.at 0 rfl) (zbD _))) ?_
   refine va (fun _ _ S _ hd _=>sv rfl (zad rfl (hd.v 2 rfl rfl) (S.bx 1 rfl) Tryz.underlying25 rfl (vs:=[.bool b2,aS x2]) zca rfl)) ?_
   refine va (fun _ _ S _ hd _=>sy rfl (zcQ rfl (hd.v 1 rfl rfl) (hd.v 3 rfl rfl) (show ZT 349 ((zbb ((ps.map qP).take k)).num) ((aZ b x)) _ from⟨b,x,rfl,(show b=decide ((zbb ((ps.map qP).take k)).num<0)/\x.N=(zbb ((ps.map qP).take k)).num.natAbs/\x.n=lenL (zbb ((ps.map qP).take k)).num.natAbs from⟨hI.1,hI.2.1,by rw[<-hI.2.1];exact hI.2.2.1⟩),hkx,(S.num 4 rfl)⟩).any (show ZT 349 ((qP ps[k]).num) ((aZ b2 x2)) _ from⟨b2,x2,rfl,(show b2=decide ((qP ps[k]).num<0)/\x2.N=(qP ps[k]).num.natAbs/\x2.n=lenL (qP ps[k]).num.natAbs from⟨hq2.1,hq2.2.1,by rw[<-hq2.2.1];exact hq2.2.2.1⟩),hk3,(S.num 1 rfl)⟩).any)) ?_
   refine va (fun _ _ _ _ hd _=>sl rfl (rc1 Tryz.func71 rfl) (zkT ((hd.r 4 rfl rfl)).row)) ?_
   refine va (fun _ _ S _ _ _=>sv rfl (zab rfl (S.at 11 rfl) (zbc _))) ?_
   refine va (fun _ _ _ _ hd hp=>sv rfl (zap rfl (hd.v 6 rfl rfl) (hp _ (List.mem_of_getElem? (i:=0) rfl) (by kernel_rfl)) (Tryz.isAgg23 _) rfl)) ?_
   refine va (fun _ _ S _ _ _=>sv rfl (zab rfl (S.at 0 rfl) (zbc _))) ?_
   refine va (fun _ _ S _ hd _=>sv rfl (zap rfl (hd.v 8 rfl rfl) (S.bx 1 rfl) (Tryz.isAgg23 _) rfl)) ?_
   refine va (fun _ _ S _ hd _=>sl rfl (rc2 Tryz.func88 (hd.v 7 rfl rfl) (hd.v 9 rfl rfl)) (zto (show NT 349 ((zbb ((ps.map qP).take k)).den) (aS y) _ from⟨y,rfl,hI.2.2.2.1,(by rw[<-hI.2.2.2.1];exact hI.2.2.2.2),hky,(S.num 5 rfl)⟩).any (show NT 349 ((qP ps[k]).den) (aS y2) _ from⟨y2,rfl,hq2.2.2.2.1,(by rw[<-hq2.2.2.2.1];exact hq2.2.2.2.2),hk4,(S.num 0 rfl)⟩).any (by decide) (by decide))) ?_
   refine va (fun _ _ _ _ hd _=>sl rfl (rc2 Tryz.func87 rfl rfl) (ztn ((hd.r 5 rfl rfl)).any ((hd.r 10 rfl rfl)).any (by decide) (by decide))) ?_
   refine va (fun _ _ _ _ hd _=>sv rfl (zao rfl rfl) (hd.r 11 rfl rfl)) ?_
   refine va (fun _ _ _ _ hd _=>by
    obtain⟨b,x,y,hv,hq,k1,k2,o1,o2⟩:=(hd.r 12 rfl rfl)
    exact sv rfl (zaT rfl hv rfl) ⟨b,x,y,rfl,hq,k1,k2,o1,o2⟩) ?_
   refine va (fun _ _ _ _ hd _=>by
    obtain⟨b,x,y,hv,hq,k1,k2,o1,o2⟩:=(hd.r 12 rfl rfl)
    exact sv rfl (zaT rfl hv rfl)) ?_
   refine vs ?_
   exact vn
  ·intro a2 V9 S hB hf hl hdis hs hp
   obtain⟨gs1,vsgs1,hvgs1,-,hbgs1,hngs1,hPgs1⟩:=hs _ (List.mem_of_getElem? (i:=0) rfl)
   have hegs1:=zei (((S.at 11 rfl)).symm.trans hvgs1)
   subst hegs1
   obtain⟨b3,x3,y3,hv1,hq3,hk5,hk6,ok5,ok6⟩:=(show QT 698 (mkRat (((zbb ((ps.map qP).take k)).num)*((qP ps[k]).num)) (((zbb ((ps.map qP).take k)).den)*((qP ps[k]).den))) (.agg vsgs1.toArray) V9 from hPgs1)
   have hvsgs1:=zej (ws:=(aL b3 x3 y3)) hv1
   subst hvsgs1
   have S:=S.know ok5
   have S:=S.know ok6
   have S:=Frm.readd S (S0.bxlo 2 rfl) hbgs1 rfl (za1 (S0.ne 0 2 rfl rfl (by decide)) (za1 (S0.ne 1 2 rfl rfl (by decide)) zfv))
   have S:Frm 34 [(5,pT g3 0),(17,(aG b2 x2 y2)),(16,(aG be xe ye)),(15,.pointer (some (zbr A (k*3)))),(14,.int .i64 (((k:Nat):Int))),(13,.slice A ps.length c),(10,.bool (decide (((k:Nat):Int)<((ps.length:Nat):Int)))),(9,.int .i64 (((ps.length:Nat):Int))),(8,.slice A ps.length c),(7,.int .i64 (((k:Nat):Int))),(4,.int .i64 (((k:Nat):Int))),(3,pT g2 0),(2,pT g1 0),(0,.slice A ps.length c)] [⟨g1,27,lZ⟩,⟨g3,27,(aL b2 x2 y2)⟩,⟨g2,27,(aL b3 x3 y3)⟩] V _ _ _:=S
   clear hf hl hdis hs hp S0
   refine hK7 _ _ ?_
   refine zaD ?_
   refine mv S 10 fun a S=>?_
   refine tv S (ze5 (k:=k) (m:=1) rfl (S.at 0 rfl) rfl (by omega)) fun a S=>?_
   refine av S (zak rfl (S.at 0 rfl)) fun a S=>?_
   have hI1:IsQ (zbb ((ps.map qP).take (k+1))) b3 x3 y3:=zsu hlt▸(zua _ _▸hq3)
   have hl1:=zb0 hI1 (hSm (k+1) (by rw[List.length_map];exact hlt))
   have S:=S.sel [0,13,14,15] rfl
   have S:=S.seln [1,0,8,9] rfl
   have S:=S.reorder [0,2] rfl (by decide)
   refine⟨⟨k+1,b3,x3,y3,hI1,hl1.1,hl1.2,hlt,S⟩,?_⟩
   have hm1:=S.at 0 rfl
   rw[hm0,hm1]
   simp only[intOf];omega
 ·refine wp_cond_false ((S.at 0 rfl).trans (congrArg Value.bool hc10)) ?_
  have hge:ps.length<=k:=by have:=of_decide_eq_false hc10;omega
  refine wp_exit ?_
  refine hK3 _ _ ?_
  refine wsp fun K9 hK9=>?_
  refine tv S (zad rfl (S.at 5 rfl) (S.bx 1 rfl) Tryz.underlying27 rfl (vs:=(aL b x y)) zah rfl) fun a S=>?_
  refine sto S 0 (fun ht=>zaj rfl (S.at 7 rfl) (S.at 0 rfl) zah rfl (zvZ rfl) ht) fun V10 S=>?_
  refine hK9 _ _ ?_
  refine wp_ret ?_
  exact zar rfl S (S.at 7 rfl) (i:=0) rfl Tryz.underlying27 rfl zah ⟨_,rfl,⟨b,x,y,rfl,zqU hge▸hI,hkx,hky,(S.num 0 rfl),(S.num 1 rfl)⟩,S.below⟩
theorem zgl (h:QRow K [q1,q2] v V)(b:K<=349)(hs:Sm 349 (q1+q2)):Calls Tryz.prog 43 #[v] V (zaf V (QT 349 (q1+q2))):=by
 obtain⟨s1,s2⟩:=h.el
 refine zdd (zu8 (h.to b) (fun k hk=>?_)) (fun _ _ h2=>?_)
 ·match k,hk with
  |0,_=>exact znc.mono (by omega)
  |1,_=>show Sm 349 (0+q1);rw[Rat.zero_add];exact s1.mono (by omega)
  |2,_=>show Sm 349 (0+q1+q2);rw[Rat.zero_add];exact hs
 ·rw[show zdw [q1,q2]=q1+q2 by show 0+q1+q2=_;rw[Rat.zero_add]]at h2
  exact h2
theorem zjB (h:QRow K [q1,q2] v V)(b:K<=349)(hs:Sm 349 (q1*q2)):Calls Tryz.prog 44 #[v] V (zaf V (QT 349 (q1*q2))):=by
 obtain⟨s1,s2⟩:=h.el
 refine zdd (zu9 (h.to b) (fun k hk=>?_)) (fun _ _ h2=>?_)
 ·match k,hk with
  |0,_=>exact zuc.mono (by omega)
  |1,_=>show Sm 349 (1*q1);rw[Rat.one_mul];exact s1.mono (by omega)
  |2,_=>show Sm 349 (1*q1*q2);rw[Rat.one_mul];exact hs
 ·rw[show zbb [q1,q2]=q1*q2 by show 1*q1*q2=_;rw[Rat.one_mul]]at h2
  exact h2
theorem zva {q1 q2:Rat}{v1 v2:Value}{V:World}(h1:Q1 349 (q1) v1 V)(h2:Q1 349 (q2) v2 V):
  Calls Tryz.prog 27 #[v1,v2] V (zaf V (fun v _=>v= .int .i64 (zan q1 q2))):=by
 obtain⟨b1,x1,y1,rfl,hq1,hk1,hk2,ok1,ok2⟩:=h1
 obtain⟨b2,x2,y2,rfl,hq2,hk3,hk4,ok3,ok4⟩:=h2
 refine fb Tryz.func27 Tryz.ntmps27 (zaa ok3 (zaa ok4 (zaa ok1 (zaa ok2 zau)))) (fun a S=>?_)
 refine wsp fun K1 hK1=>?_
 refine tb S 0 (aL b1 x1 y1) fun g1 a V1 hgg1 S=>?_
 refine tb S 2 (aL b2 x2 y2) fun g2 a V2 hgg2 S=>?_
 refine ac S fun a S=>?_
 refine hK1 _ _ ?_
 refine wp_seq_k fun K2 hK2=>?_
 obtain⟨W1,hW1⟩:∃W,W=V2:=⟨_,rfl⟩
 rw[<-hW1]at S ⊢
 have S0:=S
 refine fr 4 [5,6,7,8] [IsV ((aG b1 x1 y1)),QT 349 (q1),IsV ((aG b2 x2 y2)),QT 349 (q2)] S ?_ ?_
 ·refine sc (fun _ _ S _ _=>sv rfl (zad rfl (S.at 2 rfl) (S.bx 0 rfl) Tryz.underlying27 rfl (vs:=(aL b1 x1 y1)) zah rfl)) ?_
  refine sc (fun _ _ S _ hd=>sl rfl (rc1 Tryz.func69 (hd.v 0 rfl rfl)) (zgu (q2m S 2 hq1 hk1 hk2))) ?_
  refine sc (fun _ _ S _ _=>sv rfl (zad rfl (S.at 1 rfl) (S.bx 1 rfl) Tryz.underlying27 rfl (vs:=(aL b2 x2 y2)) zah rfl)) ?_
  refine sc (fun _ _ S _ hd=>sl rfl (rc1 Tryz.func69 (hd.v 2 rfl rfl)) (zgu (q2m S 0 hq2 hk3 hk4))) ?_
  exact sn
 ·intro a1 V3 S hB hf
  obtain⟨b3,x3,y3,hv1,hq3,hk5,hk6,ok5,ok6⟩:=hf.r 1 rfl rfl
  have S:=S.add hv1
  have S:=S.know ok5
  have S:=S.know ok6
  obtain⟨b4,x4,y4,hv2,hq4,hk7,hk8,ok7,ok8⟩:=hf.r 3 rfl rfl
  have S:=S.add hv2
  have S:=S.know ok7
  have S:=S.know ok8
  clear hf S0
  show wpList _ _ _ [_,_] _ _
  refine sto S 0 (fun ht=>zaj rfl (S.at 4 rfl) (S.at 1 rfl) zah rfl (zvZ rfl) ht) fun V4 S=>?_
  refine sto S 1 (fun ht=>zaj rfl (S.at 3 rfl) (S.at 0 rfl) zah rfl (zvZ rfl) ht) fun V5 S=>?_
  refine hK2 _ _ ?_
  refine wp_seq_k fun K3 hK3=>?_
  have S:=S.keep [4,3,2] (ls':=[(4,.int .i64 0),(3,pT g2 0),(2,pT g1 0)]) rfl
  obtain⟨W2,hW2⟩:∃W,W=V5:=⟨_,rfl⟩
  rw[<-hW2]at S ⊢
  have S0:=S
  refine fr 16 [9,10,11,12,13,14,15,16,17,18,19,20,21,22,23,24] [IsV (pT g1 0),IsV ((aZ b3 x3)),IsV (pT g2 2),IsV (aS y4),ZT 349 (((q2).den:Int)),ZL 349 4 ([(q1).num,((q2).den:Int)]),ZT 698 (((q1).num)*((q2).den:Int)),IsV (pT g2 0),IsV ((aZ b4 x4)),IsV (pT g1 2),IsV (aS y3),ZT 349 (((q1).den:Int)),ZL 349 4 ([(q2).num,((q1).den:Int)]),ZT 698 (((q2).num)*((q1).den:Int)),ZT 699 ((((q1).num)*((q2).den:Int)) - (((q2).num)*((q1).den:Int))),iI ((Int.sign ((((q1).num)*((q2).den:Int)) - (((q2).num)*((q1).den:Int)))))] S ?_ ?_
  ·refine sc (fun _ _ S _ _=>sv rfl (zab rfl (S.at 2 rfl) (zbD _))) ?_
   refine sc (fun _ _ S _ hd=>sv rfl (zad rfl (hd.v 0 rfl rfl) (S.bx 0 rfl) Tryz.underlying25 rfl (vs:=[.bool b3,aS x3]) zca rfl)) ?_
   refine sc (fun _ _ S _ _=>sv rfl (zab rfl (S.at 1 rfl) (zbc _))) ?_
   refine sc (fun _ _ S _ hd=>sv rfl (zap rfl (hd.v 2 rfl rfl) (S.bx 1 rfl) (Tryz.isAgg23 _) rfl)) ?_
   refine sc (fun _ _ S _ hd=>sl rfl (rc1 Tryz.func72 (hd.v 3 rfl rfl)) (zjI (show NT 349 ((q2).den) (aS y4) _ from⟨y4,rfl,hq4.2.2.2.1,(by rw[<-hq4.2.2.2.1];exact hq4.2.2.2.2),hk8,(S.num 0 rfl)⟩))) ?_
   refine sc (fun _ _ S _ hd=>sy rfl (zcQ rfl (hd.v 1 rfl rfl) rfl (show ZT 349 ((q1).num) ((aZ b3 x3)) _ from⟨b3,x3,rfl,(show b3=decide ((q1).num<0)/\x3.N=(q1).num.natAbs/\x3.n=lenL (q1).num.natAbs from⟨hq3.1,hq3.2.1,by rw[<-hq3.2.1];exact hq3.2.2.1⟩),hk5,(S.num 3 rfl)⟩).any ((hd.r 4 rfl rfl)).any)) ?_
   refine sc (fun _ _ _ _ hd=>sl rfl (rc1 Tryz.func71 rfl) (zkT ((hd.r 5 rfl rfl)).row)) ?_
   refine sc (fun _ _ S _ _=>sv rfl (zab rfl (S.at 1 rfl) (zbD _))) ?_
   refine sc (fun _ _ S _ hd=>sv rfl (zad rfl (hd.v 7 rfl rfl) (S.bx 1 rfl) Tryz.underlying25 rfl (vs:=[.bool b4,aS x4]) zca rfl)) ?_
   refine sc (fun _ _ S _ _=>sv rfl (zab rfl (S.at 2 rfl) (zbc _))) ?_
   refine sc (fun _ _ S _ hd=>sv rfl (zap rfl (hd.v 9 rfl rfl) (S.bx 0 rfl) (Tryz.isAgg23 _) rfl)) ?_
   refine sc (fun _ _ S _ hd=>sl rfl (rc1 Tryz.func72 (hd.v 10 rfl rfl)) (zjI (show NT 349 ((q1).den) (aS y3) _ from⟨y3,rfl,hq3.2.2.2.1,(by rw[<-hq3.2.2.2.1];exact hq3.2.2.2.2),hk6,(S.num 2 rfl)⟩))) ?_
   refine sc (fun _ _ S _ hd=>sy rfl (zcQ rfl (hd.v 8 rfl rfl) rfl (show ZT 349 ((q2).num) ((aZ b4 x4)) _ from⟨b4,x4,rfl,(show b4=decide ((q2).num<0)/\x4.N=(q2).num.natAbs/\x4.n=lenL (q2).num.natAbs from⟨hq4.1,hq4.2.1,by rw[<-hq4.2.1];exact hq4.2.2.1⟩),hk7,(S.num 1 rfl)⟩).any ((hd.r 11 rfl rfl)).any)) ?_
   refine sc (fun _ _ _ _ hd=>sl rfl (rc1 Tryz.func71 rfl) (zkT ((hd.r 12 rfl rfl)).row)) ?_
   refine sc (fun _ _ _ _ hd=>sl rfl (rc2 Tryz.func70 rfl rfl) (zvn ((hd.r 6 rfl rfl)).any ((hd.r 13 rfl rfl)).any (by decide) (by decide))) ?_
   refine sc (fun _ _ _ _ hd=>sl rfl (rc1 Tryz.func68 rfl) (zue ((hd.r 14 rfl rfl)).any)) ?_
   exact sn
  ·intro a2 V6 S hB hf
   have S:=S.add (hf.v 15 rfl rfl)
   clear hf S0
   show wpList _ _ _ [_] _ _
   refine av S (zak rfl (S.at 0 rfl)) fun a S=>?_
   refine hK3 _ _ ?_
   refine wp_ret ?_
   exact zay rfl S (S.at 0 rfl) ⟨_,rfl,(congrArg (Value.int .i64) (show Int.sign ((((q1).num)*((q2).den:Int)) - (((q2).num)*((q1).den:Int)))=zan q1 q2 from zse q1 q2)),S.below⟩
theorem zkU (h1:Q1 K q1 v1 V)(h2:Q1 K' q2 v2 V)(b:K<=349)(b':K'<=349):Calls Tryz.prog 27 #[v1,v2] V (zaf V fun v _=>v= .int .i64 (zan q1 q2)):=zva (h1.to rfl b) (h2.to rfl b')
theorem ztZ {q1 q2:Rat}{v1 v2:Value}{V:World}(h1:Q1 349 (q1) v1 V)(h2:Q1 349 (q2) v2 V):
  Calls Tryz.prog 75 #[v1,v2] V (zaf V (fun v _=>v= .bool (decide (zan q1 q2=0)))):=by
 obtain⟨b1,x1,y1,rfl,hq1,hk1,hk2,ok1,ok2⟩:=h1
 obtain⟨b2,x2,y2,rfl,hq2,hk3,hk4,ok3,ok4⟩:=h2
 refine fb Tryz.func75 Tryz.ntmps75 (zaa ok3 (zaa ok4 (zaa ok1 (zaa ok2 zau)))) (fun a S=>?_)
 refine wsp fun K1 hK1=>?_
 refine tb S 0 (aL b1 x1 y1) fun g1 a V1 hgg1 S=>?_
 refine tb S 2 (aL b2 x2 y2) fun g2 a V2 hgg2 S=>?_
 refine ac S fun a S=>?_
 refine hK1 _ _ ?_
 refine wsp fun K2 hK2=>?_
 refine tv S (zad rfl (S.at 2 rfl) (S.bx 0 rfl) Tryz.underlying27 rfl (vs:=(aL b1 x1 y1)) zah rfl) fun a S=>?_
 refine tv S (zad rfl (S.at 2 rfl) (S.bx 1 rfl) Tryz.underlying27 rfl (vs:=(aL b2 x2 y2)) zah rfl) fun a S=>?_
 refine tc S (rc2 Tryz.func27 (S.at 1 rfl) (S.at 0 rfl)) (zkU (q2m S 2 hq1 hk1 hk2) (q2m S 0 hq2 hk3 hk4) (by decide) (by decide)) fun v a V3 hF hb S=>?_
 subst hF
 refine tv S (zdx _ (by decide) rfl (S.at 0 rfl) rfl) fun a S=>?_
 refine av S (zak rfl (S.at 0 rfl)) fun a S=>?_
 refine hK2 _ _ ?_
 refine wp_ret ?_
 exact zay rfl S (S.at 0 rfl) ⟨_,rfl,rfl,S.below⟩
theorem zqr (h1:Q1 K q1 v1 V)(h2:Q1 K' q2 v2 V)(b:K<=349)(b':K'<=349):Calls Tryz.prog 75 #[v1,v2] V (zaf V fun v _=>v= .bool (decide (zan q1 q2=0))):=ztZ (h1.to rfl b) (h2.to rfl b')
theorem zvb {q1 q2:Rat}{v1 v2:Value}{V:World}(h1:Q1 349 (q1) v1 V)(h2:Q1 349 (q2) v2 V)(hs:Sm 349 (q1+(-q2))):
  Calls Tryz.prog 42 #[v1,v2] V (zaf V (QT 349 (q1 - q2))):=by
 obtain⟨b1,x1,y1,rfl,hq1,hk1,hk2,ok1,ok2⟩:=h1
 obtain⟨b2,x2,y2,rfl,hq2,hk3,hk4,ok3,ok4⟩:=h2
 refine fb Tryz.func42 Tryz.ntmps42 (zaa ok3 (zaa ok4 (zaa ok1 (zaa ok2 zau)))) (fun a S=>?_)
 refine wsp fun K1 hK1=>?_
 refine tb S 0 (aL b1 x1 y1) fun g1 a V1 hgg1 S=>?_
 refine tb S 2 (aL b2 x2 y2) fun g2 a V2 hgg2 S=>?_
 refine ti S (cs:=lZ) (zam rfl (Tryz.zeroValue27 _) rfl) (fun g3=>[⟨g1,27,(aL b1 x1 y1)⟩,⟨g2,27,(aL b2 x2 y2)⟩,⟨g3,27,lZ⟩]) fun g3 a V3 hgg3 S=>?_
 refine hK1 _ _ ?_
 refine wp_seq_k fun K2 hK2=>?_
 obtain⟨W1,hW1⟩:∃W,W=V3:=⟨_,rfl⟩
 rw[<-hW1]at S ⊢
 have S0:=S
 refine fr 5 [5,6,7,8,9] [IsV ((aG b1 x1 y1)),IsV ((aG b2 x2 y2)),QT 349 (-q2),QL 349 6 ([q1,-q2]),QT 349 (q1+(-q2))] S ?_ ?_
 ·refine sc (fun _ _ S _ _=>sv rfl (zad rfl (S.at 2 rfl) (S.bx 0 rfl) Tryz.underlying27 rfl (vs:=(aL b1 x1 y1)) zah rfl)) ?_
  refine sc (fun _ _ S _ _=>sv rfl (zad rfl (S.at 1 rfl) (S.bx 1 rfl) Tryz.underlying27 rfl (vs:=(aL b2 x2 y2)) zah rfl)) ?_
  refine sc (fun _ _ S _ hd=>sl rfl (rc1 Tryz.func89 (hd.v 1 rfl rfl)) (zvl (q2m S 0 hq2 hk3 hk4) (by decide))) ?_
  refine sc (fun _ _ S _ hd=>sy rfl (zbW rfl (hd.v 0 rfl rfl) rfl (q2m S 2 hq1 hk1 hk2) ((hd.r 2 rfl rfl)).any)) ?_
  refine sc (fun _ _ _ _ hd=>sl rfl (rc1 Tryz.func43 rfl) (zgl ((hd.r 3 rfl rfl)).row (by decide) (by assumption))) ?_
  exact sn
 ·intro a1 V4 S hB hf
  obtain⟨b3,x3,y3,hv1,hq3,hk5,hk6,ok5,ok6⟩:=hf.r 4 rfl rfl
  have S:=S.add hv1
  have S:=S.know ok5
  have S:=S.know ok6
  clear hf S0
  show wpList _ _ _ [_] _ _
  refine sto S 2 (fun ht=>zaj rfl (S.at 1 rfl) (S.at 0 rfl) zah rfl (zvZ rfl) ht) fun V5 S=>?_
  refine hK2 _ _ ?_
  refine wp_ret ?_
  exact zar rfl S (S.at 1 rfl) (i:=2) rfl Tryz.underlying27 rfl zah ⟨_,rfl,((show QT 349 (q1+(-q2)) ((aG b3 x3 y3)) _ from⟨b3,x3,y3,rfl,hq3,hk5,hk6,(S.num 1 rfl),(S.num 0 rfl)⟩)).to (zjA q1 q2) (by decide),S.below⟩
theorem zm6 (h1:Q1 K q1 v1 V)(h2:Q1 K' q2 v2 V)(b:K<=349)(b':K'<=349)(hs:Sm M (q1 - q2))(hM:M<=349:=by omega):Calls Tryz.prog 42 #[v1,v2] V (zaf V (QT M (q1 - q2))):=
 zdd (zvb (h1.to rfl b) (h2.to rfl b') (zjA q1 q2▸hs.mono hM)) (fun _ _ h=>h.sml hs)
end
end Go.Proofs.YtipckjmgdghkiaaGreatDoor
