/- A part. -/
import Derived.Test.YtdeelcoipmdoiaaGreatDoorGRatG
set_option maxHeartbeats 4000000
set_option maxRecDepth 100000
namespace Go.Proofs.YtdeelcoipmdoiaaGreatDoor
open Go Go.RowKit
section
variable {v v' v1 v2:Value}{V:World}{K K' N M:Nat}{q q' q1 q2:Rat}{Z Z':Int}
def rmz (Z Z':Int):Int:=if Z'=0 then 0 else Z.fmod Z'
def ztQ (Z':Int):Int:=if Z'=0 then 30 else 0
def ZDiv (K K':Nat)(Z Z':Int)(v:Value)(V:World):Prop:=∃v0 v1,v= .tuple #[v0,v1,.int .i64 (ztQ Z')]∧ZT (K+1) (Z.fdiv Z') v0 V∧ZT (max K K'+1) (rmz Z Z') v1 V
theorem ZDiv.keep {V':World}(h:ZDiv K K' Z Z' v V)(hb:Below V.heap.size V V'):ZDiv K K' Z Z' v V':=by
 obtain⟨v0,v1,h1,h2,h3⟩:=h;exact⟨v0,v1,h1,h2.keep hb,h3.keep hb⟩
theorem ZDiv.keepS {V':World}{shs:List (TypeId×Nat)}{g:Nat}{vs:List Value}(h:ZDiv K K' Z Z' v V)(hb:Sto shs g vs V V'):ZDiv K K' Z Z' v V':=by
 obtain⟨v0,v1,h1,h2,h3⟩:=h;exact⟨v0,v1,h1,h2.keepS hb,h3.keepS hb⟩
def N2 (K K' N M:Nat)(v:Value)(V:World):Prop:=∃v1 v2,v= .tuple #[v1,v2]∧NT K N v1 V∧NT K' M v2 V
def NE (K N:Nat)(er:Int)(v:Value)(V:World):Prop:=∃v1,v= .tuple #[v1,.int .i64 er]∧NT K N v1 V
def N2E (K K' N M:Nat)(er:Int)(v:Value)(V:World):Prop:=∃v1 v2,v= .tuple #[v1,v2,.int .i64 er]∧NT K N v1 V∧NT K' M v2 V
theorem N2.keep {V':World}(h:N2 K K' N M v V)(hb:Below V.heap.size V V'):N2 K K' N M v V':=by obtain⟨a,b,h1,h2,h3⟩:=h;exact⟨a,b,h1,h2.keep hb,h3.keep hb⟩
theorem NE.keep {V':World}{er:Int}(h:NE K N er v V)(hb:Below V.heap.size V V'):NE K N er v V':=by obtain⟨a,h1,h2⟩:=h;exact⟨a,h1,h2.keep hb⟩
theorem N2E.keep {V':World}{er:Int}(h:N2E K K' N M er v V)(hb:Below V.heap.size V V'):N2E K K' N M er v V':=by obtain⟨a,b,h1,h2,h3⟩:=h;exact⟨a,b,h1,h2.keep hb,h3.keep hb⟩
section
variable {V':World}{shs:List (TypeId × Nat)}{g:Nat}{vs:List Value}
theorem N2.keepS (h:N2 K K' N M v V)(hb:Sto shs g vs V V'):N2 K K' N M v V':=by obtain⟨a,b,h1,h2,h3⟩:=h;exact⟨a,b,h1,h2.keepS hb,h3.keepS hb⟩
theorem NE.keepS {er:Int}(h:NE K N er v V)(hb:Sto shs g vs V V'):NE K N er v V':=by obtain⟨a,h1,h2⟩:=h;exact⟨a,h1,h2.keepS hb⟩
theorem N2E.keepS {er:Int}(h:N2E K K' N M er v V)(hb:Sto shs g vs V V'):N2E K K' N M er v V':=by obtain⟨a,b,h1,h2,h3⟩:=h;exact⟨a,b,h1,h2.keepS hb,h3.keepS hb⟩
end
instance {K K' N M:Nat}:Keeps (N2 K K' N M):=⟨fun h hb=>N2.keep h hb⟩
instance {K K' N M:Nat} {shs:List (TypeId×Nat)}:KeepsS shs (N2 K K' N M):=⟨fun h hb=>N2.keepS h hb⟩
instance {K N:Nat} {er:Int}:Keeps (NE K N er):=⟨fun h hb=>NE.keep h hb⟩
instance {K N:Nat} {er:Int} {shs:List (TypeId×Nat)}:KeepsS shs (NE K N er):=⟨fun h hb=>NE.keepS h hb⟩
instance {K K' N M:Nat} {er:Int}:Keeps (N2E K K' N M er):=⟨fun h hb=>N2E.keep h hb⟩
instance {K K' N M:Nat} {er:Int} {shs:List (TypeId×Nat)}:KeepsS shs (N2E K K' N M er):=⟨fun h hb=>N2E.keepS h hb⟩
instance {K K':Nat} {Z Z':Int}:Keeps (ZDiv K K' Z Z'):=⟨fun h hb=>ZDiv.keep h hb⟩
instance {K K':Nat} {Z Z':Int} {shs:List (TypeId×Nat)}:KeepsS shs (ZDiv K K' Z Z'):=⟨fun h hb=>ZDiv.keepS h hb⟩
section
variable {n:Nat}{ls:List (Tmp × Value)}{lb:List Bx}{w:World}{e:List Num}{a:Act}{i j:Nat}{o:Oper}
end
theorem div_pos {M:Nat}(hM:(!decide (zfb M=0))=false):M≠0:=by
 rintro rfl;rw[zeU]at hM;cases hM
theorem ziu (q1 q2:Rat):q1+ -q2=q1 - q2:=(Rat.sub_eq_add_neg q1 q2).symm
theorem QE.sml {er er':Int}(h:QE K q er v V)(hs:Sm K' q)(he:er=er'):QE K' q er' v V:=by
 obtain⟨b,x,y,h1,h2,h3,h4,h5⟩:=h
 subst he
 exact⟨b,x,y,h1,h2,(zcj h2 hs).1,(zcj h2 hs).2,h5⟩
end
section
variable {v v' v1 v2:Value}{V:World}{K K' M:Nat}{q q' q1 q2:Rat}{Z Z':Int}
theorem zoO (h:ZRow K [Z,Z'] v V)(b:K≤700):Calls Tryz.prog 57 #[v] V (zal V (ZT (K+K) (Z*Z'))):=by
 obtain⟨A,c,p,p',rfl,hR,rfl,rfl,k1,k2,l1,l2⟩:=zpi h
 have h1:=zpq (m:=K) b A c [p,p'] (Env.start (w:=V) (l:=[]) (by simp)) hR (by simp;omega) (by simp) (by simp;omega)
 rw[show zej [p,p']=zP p*zP p' by simp[zej]]at h1
 refine gz h1 ?_
 rw[Int.natAbs_mul,Nat.pow_add]
 exact Nat.mul_lt_mul'' l1 l2
theorem zte {q1 q2:Rat}{v1 v2:Value}{V:World}(h1:QT 349 (q1) v1 V)(h2:QT 349 (q2) v2 V):
  Calls Tryz.prog 50 #[v1,v2] V (zal V (QT 699 (q1+q2))):=by
 obtain⟨b1,x1,y1,rfl,hq1,hk1,hk2,ok1,ok2⟩:=h1
 obtain⟨b2,x2,y2,rfl,hq2,hk3,hk4,ok3,ok4⟩:=h2
 refine zav (e:=[x2,y2,x1,y1]) Tryz.func50 rfl Tryz.ntmps50 (zt2 rfl) [(0,(aG b1 x1 y1)),(1,(aG b2 x2 y2))] rfl (zaa ok3 (zaa ok4 (zaa ok1 (zaa ok2 zaN)))) (fun a S=>?_)
 refine wp_seq_k fun K1 hK1=>?_
 refine zab ?_
 refine ti S (cs:=(aL b1 x1 y1)) (zaw rfl (S.at 0 rfl) rfl) (fun g1=>[⟨g1,27,(aL b1 x1 y1)⟩]) fun g1 a V1 hgg1 S=>?_
 refine ti S (cs:=(aL b2 x2 y2)) (zaw rfl (S.at 2 rfl) rfl) (fun g2=>[⟨g1,27,(aL b1 x1 y1)⟩,⟨g2,27,(aL b2 x2 y2)⟩]) fun g2 a V2 hgg2 S=>?_
 refine ti S (cs:=[.bool false,.slice none 0 0,.slice none 0 0]) (zaz rfl (Tryz.zeroValue27 _) rfl) (fun g3=>[⟨g1,27,(aL b1 x1 y1)⟩,⟨g2,27,(aL b2 x2 y2)⟩,⟨g3,27,[.bool false,.slice none 0 0,.slice none 0 0]⟩]) fun g3 a V3 hgg3 S=>?_
 refine hK1 _ _ ?_
 refine wp_seq_k fun K2 hK2=>?_
 obtain⟨W1,hW1⟩:∃W,W=V3:=⟨_,rfl⟩
 rw[←hW1]at S ⊢
 have S0:=S
 have hNoZL4:NoSh [(27,3)] 25 4:=⟨ztq rfl⟩
 refine frs [(27,3)] [some 8,some 9,some 10,some 11,some 12,some 13,some 14,some 15,some 16,some 17,some 18,some 19,some 20,some 21,some 22,some 23,some 24,some 25,some 26,some 27,some 28,some 29,some 7,some 30,some 31,some 5,none,some 6] [IsV (pT g1 0),IsV ((aZ b1 x1)),IsV (pT g2 2),IsV (aS y2),ZT 349 (((q2).den:Int)),ZL 349 4 ([(q1).num,((q2).den:Int)]),ZT 698 (((q1).num)*((q2).den:Int)),IsV (pT g2 0),IsV ((aZ b2 x2)),IsV (pT g1 2),IsV (aS y1),ZT 349 (((q1).den:Int)),ZL 349 4 ([(q2).num,((q1).den:Int)]),ZT 698 (((q2).num)*((q1).den:Int)),ZL 698 4 ([((q1).num)*((q2).den:Int),((q2).num)*((q1).den:Int)]),ZT 699 ((((q1).num)*((q2).den:Int))+(((q2).num)*((q1).den:Int))),IsV (pT g1 2),IsV (aS y1),IsV (pT g2 2),IsV (aS y2),NT 698 (((q1).den)*((q2).den)),QE 699 (mkRat ((((q1).num)*((q2).den:Int))+(((q2).num)*((q1).den:Int))) (((q1).den)*((q2).den))) (erz (((q1).den)*((q2).den))),QE 699 (mkRat ((((q1).num)*((q2).den:Int))+(((q2).num)*((q1).den:Int))) (((q1).den)*((q2).den))) (erz (((q1).den)*((q2).den))),QT 699 (mkRat ((((q1).num)*((q2).den:Int))+(((q2).num)*((q1).den:Int))) (((q1).den)*((q2).den))),IsV (.int .i64 (erz (((q1).den)*((q2).den)))),ziF,ziF,IsV (.int .i64 (erz (((q1).den)*((q2).den))))] [⟨25,5,27,[.bool false,.slice none 0 0,.slice none 0 0]⟩] [⟨26,5,27,QT 699 (mkRat ((((q1).num)*((q2).den:Int))+(((q2).num)*((q1).den:Int))) (((q1).den)*((q2).den)))⟩] [] (lb:=[⟨g1,27,(aL b1 x1 y1)⟩,⟨g2,27,(aL b2 x2 y2)⟩,⟨g3,27,[.bool false,.slice none 0 0,.slice none 0 0]⟩]) S (all_cons (zk6 0 rfl rfl) zba) ?_ (all_cons ⟨rfl,_,rfl,rfl,rfl,fun _ _ _=>(zaz rfl (Tryz.zeroValue27 _) rfl)⟩ zba) (all_cons ⟨_,3,rfl,rfl,rfl,List.mem_of_getElem? (i:=0) rfl,(all_cons (fun h=>⟨rfl,rfl⟩) zba),zba,fun _ _ _ _ hg hd=>zix (hd.r 23 rfl rfl) (hd.r 23 rfl rfl).parts rfl hg rfl zar⟩ zba) zba ?_
 ·refine va (fun _ _ S _ _ _=>sv rfl (zaf rfl (S.at 2 rfl) (zcE _))) ?_
  refine va (fun _ _ S _ hd _=>sv rfl (zaj rfl (hd.v 0 rfl rfl) (S.bx 0 rfl) Tryz.underlying25 rfl (vs:=[.bool b1,aS x1]) zb9 rfl)) ?_
  refine va (fun _ _ S _ _ _=>sv rfl (zaf rfl (S.at 1 rfl) (zbR _))) ?_
  refine va (fun _ _ S _ hd _=>sv rfl (zap rfl (hd.v 2 rfl rfl) (S.bx 1 rfl) (Tryz.isAgg23 _) rfl)) ?_
  refine va (fun _ _ S _ hd _=>sl rfl (rc1 Tryz.func58 (hd.v 3 rfl rfl)) (zpf (show NT 349 ((q2).den) (aS y2) _ from⟨y2,rfl,hq2.2.2.2.1,(by rw[←hq2.2.2.2.1];exact hq2.2.2.2.2),hk4,(S.num 1 rfl)⟩))) ?_
  refine va (fun _ _ S _ hd _=>sy rfl (zde rfl (hd.v 1 rfl rfl) rfl (show ZT 349 ((q1).num) ((aZ b1 x1)) _ from⟨b1,x1,rfl,(show b1=decide ((q1).num<0)∧x1.N=(q1).num.natAbs∧x1.n=lenL (q1).num.natAbs from⟨hq1.1,hq1.2.1,by rw[←hq1.2.1];exact hq1.2.2.1⟩),hk1,(S.num 2 rfl)⟩).any ((hd.r 4 rfl rfl)).any)) ?_
  refine va (fun _ _ _ _ hd _=>sl rfl (rc1 Tryz.func57 rfl) (zoO ((hd.r 5 rfl rfl)).row (by decide))) ?_
  refine va (fun _ _ S _ _ _=>sv rfl (zaf rfl (S.at 1 rfl) (zcE _))) ?_
  refine va (fun _ _ S _ hd _=>sv rfl (zaj rfl (hd.v 7 rfl rfl) (S.bx 1 rfl) Tryz.underlying25 rfl (vs:=[.bool b2,aS x2]) zb9 rfl)) ?_
  refine va (fun _ _ S _ _ _=>sv rfl (zaf rfl (S.at 2 rfl) (zbR _))) ?_
  refine va (fun _ _ S _ hd _=>sv rfl (zap rfl (hd.v 9 rfl rfl) (S.bx 0 rfl) (Tryz.isAgg23 _) rfl)) ?_
  refine va (fun _ _ S _ hd _=>sl rfl (rc1 Tryz.func58 (hd.v 10 rfl rfl)) (zpf (show NT 349 ((q1).den) (aS y1) _ from⟨y1,rfl,hq1.2.2.2.1,(by rw[←hq1.2.2.2.1];exact hq1.2.2.2.2),hk2,(S.num 3 rfl)⟩))) ?_
  refine va (fun _ _ S _ hd _=>sy rfl (zde rfl (hd.v 8 rfl rfl) rfl (show ZT 349 ((q2).num) ((aZ b2 x2)) _ from⟨b2,x2,rfl,(show b2=decide ((q2).num<0)∧x2.N=(q2).num.natAbs∧x2.n=lenL (q2).num.natAbs from⟨hq2.1,hq2.2.1,by rw[←hq2.2.1];exact hq2.2.2.1⟩),hk3,(S.num 0 rfl)⟩).any ((hd.r 11 rfl rfl)).any)) ?_
  refine va (fun _ _ _ _ hd _=>sl rfl (rc1 Tryz.func57 rfl) (zoO ((hd.r 12 rfl rfl)).row (by decide))) ?_
  refine va (fun _ _ _ _ hd _=>sy rfl (zde rfl rfl rfl ((hd.r 6 rfl rfl)).any ((hd.r 13 rfl rfl)).any)) ?_
  refine va (fun _ _ _ _ hd _=>sl rfl (rc1 Tryz.func75 rfl) (ztv ((hd.r 14 rfl rfl)).row (by decide))) ?_
  refine va (fun _ _ S _ _ _=>sv rfl (zaf rfl (S.at 2 rfl) (zbR _))) ?_
  refine va (fun _ _ S _ hd _=>sv rfl (zap rfl (hd.v 16 rfl rfl) (S.bx 0 rfl) (Tryz.isAgg23 _) rfl)) ?_
  refine va (fun _ _ S _ _ _=>sv rfl (zaf rfl (S.at 1 rfl) (zbR _))) ?_
  refine va (fun _ _ S _ hd _=>sv rfl (zap rfl (hd.v 18 rfl rfl) (S.bx 1 rfl) (Tryz.isAgg23 _) rfl)) ?_
  refine va (fun _ _ S _ hd _=>sl rfl (rc2 Tryz.func76 (hd.v 17 rfl rfl) (hd.v 19 rfl rfl)) (zrI (show NT 349 ((q1).den) (aS y1) _ from⟨y1,rfl,hq1.2.2.2.1,(by rw[←hq1.2.2.2.1];exact hq1.2.2.2.2),hk2,(S.num 3 rfl)⟩).any (show NT 349 ((q2).den) (aS y2) _ from⟨y2,rfl,hq2.2.2.2.1,(by rw[←hq2.2.2.2.1];exact hq2.2.2.2.2),hk4,(S.num 1 rfl)⟩).any (by decide) (by decide))) ?_
  refine va (fun _ _ _ _ hd _=>sl rfl (rc2 Tryz.func74 rfl rfl) (zrH ((hd.r 15 rfl rfl)).any ((hd.r 20 rfl rfl)).any (by decide) (by decide))) ?_
  refine va (fun _ _ _ _ hd _=>sv rfl (zac rfl rfl) (hd.r 21 rfl rfl)) ?_
  refine va (fun _ _ _ _ hd _=>by
   obtain⟨b,x,y,hv,hq,k1,k2,o1,o2⟩:=(hd.r 22 rfl rfl)
   exact sv rfl (zbd rfl hv rfl) ⟨b,x,y,rfl,hq,k1,k2,o1,o2⟩) ?_
  refine va (fun _ _ _ _ hd _=>by
   obtain⟨b,x,y,hv,hq,k1,k2,o1,o2⟩:=(hd.r 22 rfl rfl)
   exact sv rfl (zbd rfl hv rfl)) ?_
  refine vb ?_
  refine vs ?_
  refine va (fun _ _ _ _ hd _=>sv rfl (zag rfl (hd.v 24 rfl rfl))) ?_
  exact vn
 ·intro a1 V4 S hB hf hl hdis hs hp
  obtain⟨g4,csg4,hvg4,hgg4,hbg4,hlg4,hng4,hkg4⟩:=hl _ (List.mem_of_getElem? (i:=0) rfl)
  obtain⟨gs1,vsgs1,hvgs1,-,hbgs1,hngs1,hPgs1⟩:=hs _ (List.mem_of_getElem? (i:=0) rfl)
  have hegs1:=zgd ((hvg4).symm.trans hvgs1)
  subst hegs1
  obtain⟨b3,x3,y3,hv1,hq3,hk5,hk6,ok5,ok6⟩:=(show QT 699 (mkRat ((((q1).num)*((q2).den:Int))+(((q2).num)*((q1).den:Int))) (((q1).den)*((q2).den))) (.agg vsgs1.toArray) V4 from hPgs1)
  have hvsgs1:=zge (ws:=(aL b3 x3 y3)) hv1
  subst hvsgs1
  have S:=S.know ok5
  have S:=S.know ok6
  have S:=Frm.readd (S.add hvg4) (zt5 S0.below.size hgg4) hbgs1 rfl (zdm (zcQ (S0.lt 0 rfl) hgg4) (zdm (zcQ (S0.lt 1 rfl) hgg4) (zdm (zcQ (S0.lt 2 rfl) hgg4) ziw)))
  have S:Frm 33 [(5,pT g4 0),(4,pT g3 0),(3,pT g2 0),(2,pT g1 0),(0,(aG b1 x1 y1)),(1,(aG b2 x2 y2))] [⟨g1,27,(aL b1 x1 y1)⟩,⟨g2,27,(aL b2 x2 y2)⟩,⟨g3,27,[.bool false,.slice none 0 0,.slice none 0 0]⟩,⟨g4,27,(aL b3 x3 y3)⟩] V _ _ _:=S
  clear hf hl hdis hs hp S0
  refine hK2 _ _ ?_
  refine wp_seq_k fun K3 hK3=>?_
  refine zab ?_
  refine tv S (zaj rfl (S.at 0 rfl) (S.bx 3 rfl) Tryz.underlying27 rfl (vs:=(aL b3 x3 y3)) zar rfl) fun a S=>?_
  refine zaD S (i:=2) (vs:=(aL b3 x3 y3)) rfl (fun ht=>zay rfl (S.at 2 rfl) (S.at 0 rfl) zar rfl (zt2 rfl) ht) (zt2 rfl) rfl rfl rfl (lb':=[⟨g1,27,(aL b1 x1 y1)⟩,⟨g2,27,(aL b2 x2 y2)⟩,⟨g3,27,(aL b3 x3 y3)⟩,⟨g4,27,(aL b3 x3 y3)⟩]) rfl (fun V5 S=>?_)
  refine hK3 _ _ ?_
  refine wp_ret ?_
  exact zaR rfl S (S.at 2 rfl) (i:=2) rfl Tryz.underlying27 rfl zar ⟨_,rfl,((show QT 699 (mkRat ((((q1).num)*((q2).den:Int))+(((q2).num)*((q1).den:Int))) (((q1).den)*((q2).den))) ((aG b3 x3 y3)) _ from⟨b3,x3,y3,rfl,hq3,hk5,hk6,(S.num 1 rfl),(S.num 0 rfl)⟩)).to (zsn q1 q2) (by decide),S.below⟩
theorem ztf (h1:QT K q1 v1 V)(h2:QT K' q2 v2 V)(b:K≤349)(b':K'≤349):Calls Tryz.prog 50 #[v1,v2] V (zal V (QT (K+K'+1) (q1+q2))):=
 zcV (zte (h1.to rfl b) (h2.to rfl b')) (fun _ _ h=>h.sml (h1.sm.add h2.sm))
theorem ztg {l:List Rat}{v1:Value}{V:World}(h1:QRow 349 (l) v1 V)(hSm:∀k,k≤l.length→Sm 349 (zdY (l.take k))):
  Calls Tryz.prog 27 #[v1] V (zal V (QT 349 (zdY l))):=by
 obtain⟨A,c,ps,rfl,hRow,rfl,hK,hcap,hmax,h60⟩:=h1
 refine zav (e:=[]) Tryz.func27 rfl Tryz.ntmps27 (zt2 rfl) [(0,.slice A ps.length c)] rfl zaN (fun a S=>?_)
 refine wp_seq_k fun K1 hK1=>?_
 refine zab ?_
 refine ti S (cs:=[.bool false,.slice none 0 0,.slice none 0 0]) (zaz rfl (Tryz.zeroValue27 _) rfl) (fun g1=>[⟨g1,27,[.bool false,.slice none 0 0,.slice none 0 0]⟩]) fun g1 a V1 hgg1 S=>?_
 refine hK1 _ _ ?_
 refine wp_seq_k fun K2 hK2=>?_
 refine zab ?_
 refine tc S (F:=QT 2 ((0:Int))) (rcc Tryz.func32) (zqO (n:=0) (by decide)) fun v a V2 hF hb S=>?_
 obtain⟨b1,x1,y1,rfl,hq1,hk1,hk2,ok1,ok2⟩:=hF
 have S:=S.know ok1
 have S:=S.know ok2
 refine ti S (cs:=[.bool false,.slice none 0 0,.slice none 0 0]) (zaz rfl (Tryz.zeroValue27 _) rfl) (fun g2=>[⟨g1,27,[.bool false,.slice none 0 0,.slice none 0 0]⟩,⟨g2,27,[.bool false,.slice none 0 0,.slice none 0 0]⟩]) fun g2 a V3 hgg2 S=>?_
 refine zaD S (i:=1) (vs:=(aL b1 x1 y1)) rfl (fun ht=>zay rfl (S.at 0 rfl) (S.at 1 rfl) zar rfl (zt2 rfl) ht) (zt2 rfl) rfl rfl rfl (lb':=[⟨g1,27,[.bool false,.slice none 0 0,.slice none 0 0]⟩,⟨g2,27,(aL b1 x1 y1)⟩]) rfl (fun V4 S=>?_)
 refine hK2 _ _ ?_
 refine wp_seq_k fun K3 hK3=>?_
 refine wp_seq_k fun K4 hK4=>?_
 refine zab ?_
 refine tv S (zaq rfl) fun a S=>?_
 refine hK4 _ _ ?_
 refine wp_block ?_
 have S:=S.keep [4,3,2,0] (ls':=[(4,.int .i64 0),(3,pT g2 0),(2,pT g1 0),(0,.slice A ps.length c)]) rfl
 have hI0:=(show IsQ (zdY ((ps.map qP).take 0)) b1 x1 y1 from(show(((0:Int):Rat))=zdY ((ps.map qP).take 0)from rfl)▸hq1)
 have S:=S.sel [0,1,2,3] rfl
 have S:=S.seln [1,0,0,1] rfl
 have S:=S.reorder [0,1] rfl (by decide)
 refine wp_loop (fun aI VI=>∃(k:Nat) (b:Bool) (x:Num) (y:Num),(IsQ (zdY ((ps.map qP).take k)) b x y)∧(x.n≤349)∧(y.n≤349)∧(k≤ps.length)∧Frm 20 [(4,.int .i64 (((k:Nat):Int))),(3,pT g2 0),(2,pT g1 0),(0,.slice A ps.length c)] [⟨g1,27,[.bool false,.slice none 0 0,.slice none 0 0]⟩,⟨g2,27,(aL b x y)⟩] V [x,y,y1,x1] aI VI) (fun aI _=>(ps.length) - (intOf (aI.tmps.getD 4 undef)).toNat) ⟨0,b1,x1,y1,hI0,(zcj hI0 (hSm 0 (Nat.zero_le _))).1,(zcj hI0 (hSm 0 (Nat.zero_le _))).2,Nat.zero_le _,S⟩ ?_
 rintro a1 V5 ⟨k,b,x,y,hI,hkx,hky,hkl,S⟩
 have hm0:a1.tmps.getD 4 undef= .int .i64 (((k:Nat):Int)):=S.at 0 rfl
 refine wp_seq_k fun K5 hK5=>?_
 refine wp_seq_k fun K6 hK6=>?_
 refine zab ?_
 refine tv S (zac rfl (S.at 0 rfl)) fun a S=>?_
 refine tv S (zac rfl (S.at 4 rfl)) fun a S=>?_
 refine tv S (zca (by decide) rfl (S.at 0 rfl)) fun a S=>?_
 refine tv S (zcG rfl (S.at 2 rfl) (S.at 0 rfl)) fun a S=>?_
 refine hK6 _ _ ?_
 rcases zuc (decide (((k:Nat):Int)<((ps.length:Nat):Int)))with hc9|hc9
 ·refine wp_cond_true ((S.at 0 rfl).trans (congrArg Value.bool hc9)) ?_
  have hlt:k<ps.length:=by have:=of_decide_eq_true hc9;omega
  obtain⟨be,xe,ye,hel⟩:∃b x y,ps[k]=(b,x,y):=⟨_,_,_,rfl⟩
  have hoe:=(hRow k hlt).2
  have hke:=hK _ (List.getElem_mem hlt)
  rw[hel]at hoe hke
  have hqe:qOf be xe.N ye.N=qP ps[k]:=by rw[hel];rfl
  have S:=(S.know (hoe.1.later S.below)).know (hoe.2.later S.below)
  refine wp_skip ?_
  refine hK5 _ _ ?_
  refine wp_seq_k fun K7 hK7=>?_
  refine wp_block ?_
  obtain⟨W1,hW1⟩:∃W,W=V5:=⟨_,rfl⟩
  rw[←hW1]at S ⊢
  have S0:=S
  refine fr 7 [12,13,14,15,16,17,18] [IsV ((aG b x y)),IsV (.slice A ps.length c),IsV (.int .i64 (((k:Nat):Int))),IsV (.pointer (some (zbh A (k*3)))),IsV ((aG be xe ye)),QT 349 (qP ps[k]),QT 699 ((zdY ((ps.map qP).take k))+(qP ps[k]))] S ?_ ?_
  ·refine sc (fun _ _ S _ _=>sv rfl (zaj rfl (S.at 5 rfl) (S.bx 1 rfl) Tryz.underlying27 rfl (vs:=(aL b x y)) zar rfl)) ?_
   refine sc (fun _ _ S _ _=>sv rfl (zac rfl (S.at 7 rfl))) ?_
   refine sc (fun _ _ S _ _=>sv rfl (zac rfl (S.at 4 rfl))) ?_
   refine sc (fun _ _ _ _ hd=>sv rfl (zeA hRow hlt rfl (hd.v 1 rfl rfl) (hd.v 2 rfl rfl))) ?_
   refine sc (fun _ _ S _ hd=>sv rfl (zfn ((hRow.below S.below).more S.below.size) hlt hel rfl (hd.v 3 rfl rfl))) ?_
   refine sc (fun _ _ S _ hd=>sl rfl (rc1 Tryz.func51 (hd.v 4 rfl rfl)) (zk8 (show Q1 349 (qP ps[k]) ((aG be xe ye)) _ from⟨be,xe,ye,rfl,hqe,hke.1,hke.2,(S.num 1 rfl),(S.num 0 rfl)⟩) (by decide))) ?_
   refine sc (fun _ _ S _ hd=>sl rfl (rc2 Tryz.func50 (hd.v 0 rfl rfl) rfl) (ztf (show QT 349 (zdY ((ps.map qP).take k)) ((aG b x y)) _ from⟨b,x,y,rfl,hI,hkx,hky,(S.num 2 rfl),(S.num 3 rfl)⟩) (hd.r 5 rfl rfl) (by decide) (by decide))) ?_
   exact sn
  ·intro a2 V6 S hB hf
   obtain⟨b2,x2,y2,hv1,hq2,hk3,hk4,ok3,ok4⟩:=hf.r 6 rfl rfl
   have S:=S.add hv1
   have S:=S.know ok3
   have S:=S.know ok4
   clear hf S0
   show wpList _ _ _ [_] _ _
   refine zaD S (i:=1) (vs:=(aL b2 x2 y2)) rfl (fun ht=>zay rfl (S.at 6 rfl) (S.at 0 rfl) zar rfl (zt2 rfl) ht) (zt2 rfl) rfl rfl rfl (lb':=[⟨g1,27,[.bool false,.slice none 0 0,.slice none 0 0]⟩,⟨g2,27,(aL b2 x2 y2)⟩]) rfl (fun V7 S=>?_)
   refine hK7 _ _ ?_
   refine zab ?_
   refine tv S (zac rfl (S.at 5 rfl)) fun a S=>?_
   refine tv S (zbE (k:=k) (m:=1) rfl (S.at 0 rfl) rfl (by omega)) fun a S=>?_
   refine zaS S (v:= .int .i64 (((k+1:Nat):Int))) (zag rfl (S.at 0 rfl)) rfl rfl (by decide) (ls':=[(11,.int .i64 (((k+1:Nat):Int))),(10,.int .i64 (((k:Nat):Int))),(18,(aG b2 x2 y2)),(9,.bool (decide (((k:Nat):Int)<((ps.length:Nat):Int)))),(8,.int .i64 (((ps.length:Nat):Int))),(7,.slice A ps.length c),(6,.int .i64 (((k:Nat):Int))),(3,pT g2 0),(2,pT g1 0),(0,.slice A ps.length c)]) rfl (fun a S=>?_)
   have hI1:IsQ (zdY ((ps.map qP).take (k+1))) b2 x2 y2:=zsp hlt▸hq2
   have hl1:=zcj hI1 (hSm (k+1) (by rw[List.length_map];exact hlt))
   have S:=S.sel [0,8,9,10] rfl
   have S:=S.seln [1,0,6,7] rfl
   have S:=S.reorder [0,1] rfl (by decide)
   refine⟨⟨k+1,b2,x2,y2,hI1,hl1.1,hl1.2,hlt,S⟩,?_⟩
   have hm1:=S.at 0 rfl
   rw[hm0,hm1]
   simp only[intOf];omega
 ·refine wp_cond_false ((S.at 0 rfl).trans (congrArg Value.bool hc9)) ?_
  have hge:ps.length≤k:=by have:=of_decide_eq_false hc9;omega
  refine wp_exit ?_
  refine hK3 _ _ ?_
  refine wp_seq_k fun K8 hK8=>?_
  refine zab ?_
  refine tv S (zaj rfl (S.at 5 rfl) (S.bx 1 rfl) Tryz.underlying27 rfl (vs:=(aL b x y)) zar rfl) fun a S=>?_
  refine zaD S (i:=0) (vs:=(aL b x y)) rfl (fun ht=>zay rfl (S.at 7 rfl) (S.at 0 rfl) zar rfl (zt2 rfl) ht) (zt2 rfl) rfl rfl rfl (lb':=[⟨g1,27,(aL b x y)⟩,⟨g2,27,(aL b x y)⟩]) rfl (fun V8 S=>?_)
  refine hK8 _ _ ?_
  refine wp_ret ?_
  exact zaR rfl S (S.at 7 rfl) (i:=0) rfl Tryz.underlying27 rfl zar ⟨_,rfl,⟨b,x,y,rfl,zqQ hge▸hI,hkx,hky,(S.num 0 rfl),(S.num 1 rfl)⟩,S.below⟩
theorem zth {l:List Rat}{v1:Value}{V:World}(h1:QRow 349 (l) v1 V)(hSm:∀k,k≤l.length→Sm 349 (za6 (l.take k))):
  Calls Tryz.prog 69 #[v1] V (zal V (QT 349 (za6 l))):=by
 obtain⟨A,c,ps,rfl,hRow,rfl,hK,hcap,hmax,h60⟩:=h1
 refine zav (e:=[]) Tryz.func69 rfl Tryz.ntmps69 (zt2 rfl) [(0,.slice A ps.length c)] rfl zaN (fun a S=>?_)
 refine wp_seq_k fun K1 hK1=>?_
 refine zab ?_
 refine ti S (cs:=[.bool false,.slice none 0 0,.slice none 0 0]) (zaz rfl (Tryz.zeroValue27 _) rfl) (fun g1=>[⟨g1,27,[.bool false,.slice none 0 0,.slice none 0 0]⟩]) fun g1 a V1 hgg1 S=>?_
 refine hK1 _ _ ?_
 refine wp_seq_k fun K2 hK2=>?_
 refine zab ?_
 refine tc S (F:=QT 2 ((1:Int))) (rcc Tryz.func32) (zqO (n:=1) (by decide)) fun v a V2 hF hb S=>?_
 obtain⟨b1,x1,y1,rfl,hq1,hk1,hk2,ok1,ok2⟩:=hF
 have S:=S.know ok1
 have S:=S.know ok2
 refine ti S (cs:=[.bool false,.slice none 0 0,.slice none 0 0]) (zaz rfl (Tryz.zeroValue27 _) rfl) (fun g2=>[⟨g1,27,[.bool false,.slice none 0 0,.slice none 0 0]⟩,⟨g2,27,[.bool false,.slice none 0 0,.slice none 0 0]⟩]) fun g2 a V3 hgg2 S=>?_
 refine zaD S (i:=1) (vs:=(aL b1 x1 y1)) rfl (fun ht=>zay rfl (S.at 0 rfl) (S.at 1 rfl) zar rfl (zt2 rfl) ht) (zt2 rfl) rfl rfl rfl (lb':=[⟨g1,27,[.bool false,.slice none 0 0,.slice none 0 0]⟩,⟨g2,27,(aL b1 x1 y1)⟩]) rfl (fun V4 S=>?_)
 refine hK2 _ _ ?_
 refine wp_seq_k fun K3 hK3=>?_
 refine wp_seq_k fun K4 hK4=>?_
 refine zab ?_
 refine tv S (zaq rfl) fun a S=>?_
 refine hK4 _ _ ?_
 refine wp_block ?_
 have S:=S.keep [4,3,2,0] (ls':=[(4,.int .i64 0),(3,pT g2 0),(2,pT g1 0),(0,.slice A ps.length c)]) rfl
 have hI0:=(show IsQ (za6 ((ps.map qP).take 0)) b1 x1 y1 from(show(((1:Int):Rat))=za6 ((ps.map qP).take 0)from rfl)▸hq1)
 have S:=S.sel [0,1,2,3] rfl
 have S:=S.seln [1,0,0,1] rfl
 have S:=S.reorder [0,1] rfl (by decide)
 refine wp_loop (fun aI VI=>∃(k:Nat) (b:Bool) (x:Num) (y:Num),(IsQ (za6 ((ps.map qP).take k)) b x y)∧(x.n≤349)∧(y.n≤349)∧(k≤ps.length)∧Frm 34 [(4,.int .i64 (((k:Nat):Int))),(3,pT g2 0),(2,pT g1 0),(0,.slice A ps.length c)] [⟨g1,27,[.bool false,.slice none 0 0,.slice none 0 0]⟩,⟨g2,27,(aL b x y)⟩] V [x,y,y1,x1] aI VI) (fun aI _=>(ps.length) - (intOf (aI.tmps.getD 4 undef)).toNat) ⟨0,b1,x1,y1,hI0,(zcj hI0 (hSm 0 (Nat.zero_le _))).1,(zcj hI0 (hSm 0 (Nat.zero_le _))).2,Nat.zero_le _,S⟩ ?_
 rintro a1 V5 ⟨k,b,x,y,hI,hkx,hky,hkl,S⟩
 have hm0:a1.tmps.getD 4 undef= .int .i64 (((k:Nat):Int)):=S.at 0 rfl
 refine wp_seq_k fun K5 hK5=>?_
 refine wp_seq_k fun K6 hK6=>?_
 refine zab ?_
 refine tv S (zac rfl (S.at 0 rfl)) fun a S=>?_
 refine tv S (zac rfl (S.at 4 rfl)) fun a S=>?_
 refine tv S (zca (by decide) rfl (S.at 0 rfl)) fun a S=>?_
 refine tv S (zcG rfl (S.at 2 rfl) (S.at 0 rfl)) fun a S=>?_
 refine hK6 _ _ ?_
 rcases zuc (decide (((k:Nat):Int)<((ps.length:Nat):Int)))with hc10|hc10
 ·refine wp_cond_true ((S.at 0 rfl).trans (congrArg Value.bool hc10)) ?_
  have hlt:k<ps.length:=by have:=of_decide_eq_true hc10;omega
  obtain⟨be,xe,ye,hel⟩:∃b x y,ps[k]=(b,x,y):=⟨_,_,_,rfl⟩
  have hoe:=(hRow k hlt).2
  have hke:=hK _ (List.getElem_mem hlt)
  rw[hel]at hoe hke
  have hqe:qOf be xe.N ye.N=qP ps[k]:=by rw[hel];rfl
  have S:=(S.know (hoe.1.later S.below)).know (hoe.2.later S.below)
  refine wp_skip ?_
  refine hK5 _ _ ?_
  refine wp_seq_k fun K7 hK7=>?_
  refine wp_block ?_
  refine wp_seq_k fun K8 hK8=>?_
  refine zab ?_
  refine tv S (zac rfl (S.at 7 rfl)) fun a S=>?_
  refine tv S (zac rfl (S.at 5 rfl)) fun a S=>?_
  refine tv S (zeA hRow hlt rfl (S.at 1 rfl) (S.at 0 rfl)) fun a S=>?_
  refine tv S (zfn ((hRow.below S.below).more S.below.size) hlt hel rfl (S.at 0 rfl)) fun a S=>?_
  refine tc S (F:=QT 349 (qP ps[k])) (rc1 Tryz.func51 (S.at 0 rfl)) (zk8 (show Q1 349 (qP ps[k]) ((aG be xe ye)) _ from⟨be,xe,ye,rfl,hqe,hke.1,hke.2,(S.num 1 rfl),(S.num 0 rfl)⟩) (by decide)) fun v a V6 hF hb S=>?_
  obtain⟨b2,x2,y2,rfl,hq2,hk3,hk4,ok3,ok4⟩:=hF
  have S:=S.know ok3
  have S:=S.know ok4
  refine ti S (cs:=[.bool false,.slice none 0 0,.slice none 0 0]) (zaz rfl (Tryz.zeroValue27 _) rfl) (fun g3=>[⟨g1,27,[.bool false,.slice none 0 0,.slice none 0 0]⟩,⟨g2,27,(aL b x y)⟩,⟨g3,27,[.bool false,.slice none 0 0,.slice none 0 0]⟩]) fun g3 a V7 hgg3 S=>?_
  refine zaD S (i:=2) (vs:=(aL b2 x2 y2)) rfl (fun ht=>zay rfl (S.at 0 rfl) (S.at 1 rfl) zar rfl (zt2 rfl) ht) (zt2 rfl) rfl rfl rfl (lb':=[⟨g1,27,[.bool false,.slice none 0 0,.slice none 0 0]⟩,⟨g2,27,(aL b x y)⟩,⟨g3,27,(aL b2 x2 y2)⟩]) rfl (fun V8 S=>?_)
  refine hK8 _ _ ?_
  have S:=S.reorder [0,2,1] (lb':=[⟨g1,27,[.bool false,.slice none 0 0,.slice none 0 0]⟩,⟨g3,27,(aL b2 x2 y2)⟩,⟨g2,27,(aL b x y)⟩]) rfl (by decide)
  obtain⟨W1,hW1⟩:∃W,W=V8:=⟨_,rfl⟩
  rw[←hW1]at S ⊢
  have S0:=S
  have hNoZL4:NoSh [(27,3)] 25 4:=⟨ztq rfl⟩
  refine frs [(27,3)] [some 19,some 20,some 21,some 22,some 23,some 24,some 25,some 26,some 27,some 28,some 29,some 30,some 18,some 31,some 32,none] [IsV (pT g2 0),IsV ((aZ b x)),IsV (pT g3 0),IsV ((aZ b2 x2)),ZL 349 4 ([(za6 ((ps.map qP).take k)).num,(qP ps[k]).num]),ZT 698 (((za6 ((ps.map qP).take k)).num)*((qP ps[k]).num)),IsV (pT g2 2),IsV (aS y),IsV (pT g3 2),IsV (aS y2),NT 698 (((za6 ((ps.map qP).take k)).den)*((qP ps[k]).den)),QE 698 (mkRat (((za6 ((ps.map qP).take k)).num)*((qP ps[k]).num)) (((za6 ((ps.map qP).take k)).den)*((qP ps[k]).den))) (erz (((za6 ((ps.map qP).take k)).den)*((qP ps[k]).den))),QE 698 (mkRat (((za6 ((ps.map qP).take k)).num)*((qP ps[k]).num)) (((za6 ((ps.map qP).take k)).den)*((qP ps[k]).den))) (erz (((za6 ((ps.map qP).take k)).den)*((qP ps[k]).den))),QT 698 (mkRat (((za6 ((ps.map qP).take k)).num)*((qP ps[k]).num)) (((za6 ((ps.map qP).take k)).den)*((qP ps[k]).den))),IsV (.int .i64 (erz (((za6 ((ps.map qP).take k)).den)*((qP ps[k]).den)))),ziF] [] [⟨15,3,27,QT 698 (mkRat (((za6 ((ps.map qP).take k)).num)*((qP ps[k]).num)) (((za6 ((ps.map qP).take k)).den)*((qP ps[k]).den)))⟩] [(15,⟨g2,27,(aL b x y)⟩)] (lb:=[⟨g1,27,[.bool false,.slice none 0 0,.slice none 0 0]⟩,⟨g3,27,(aL b2 x2 y2)⟩]) S (all_cons (.inr ⟨_,List.mem_of_getElem? (i:=0) rfl,rfl,List.mem_of_getElem? (i:=11) rfl⟩) zba) ?_ zba (all_cons ⟨_,3,rfl,rfl,rfl,List.mem_of_getElem? (i:=0) rfl,zba,(all_cons (fun h=>⟨rfl,rfl⟩) zba),fun _ _ _ _ hg hd=>zix (hd.r 13 rfl rfl) (hd.r 13 rfl rfl).parts rfl hg rfl zar⟩ zba) (all_cons ⟨_,List.mem_of_getElem? (i:=0) rfl,rfl⟩ zba) ?_
  ·refine va (fun _ _ S _ _ _=>sv rfl (zaf rfl (S.at 11 rfl) (zcE _))) ?_
   refine va (fun _ _ _ _ hd hp=>sv rfl (zaj rfl (hd.v 0 rfl rfl) (hp _ (List.mem_of_getElem? (i:=0) rfl) (by kernel_rfl)) Tryz.underlying25 rfl (vs:=[.bool b,aS x]) zb9 rfl)) ?_
   refine va (fun _ _ S _ _ _=>sv rfl (zaf rfl (S.at 0 rfl) (zcE _))) ?_
   refine va (fun _ _ S _ hd _=>sv rfl (zaj rfl (hd.v 2 rfl rfl) (S.bx 1 rfl) Tryz.underlying25 rfl (vs:=[.bool b2,aS x2]) zb9 rfl)) ?_
   refine va (fun _ _ S _ hd _=>sy rfl (zde rfl (hd.v 1 rfl rfl) (hd.v 3 rfl rfl) (show ZT 349 ((za6 ((ps.map qP).take k)).num) ((aZ b x)) _ from⟨b,x,rfl,(show b=decide ((za6 ((ps.map qP).take k)).num<0)∧x.N=(za6 ((ps.map qP).take k)).num.natAbs∧x.n=lenL (za6 ((ps.map qP).take k)).num.natAbs from⟨hI.1,hI.2.1,by rw[←hI.2.1];exact hI.2.2.1⟩),hkx,(S.num 4 rfl)⟩).any (show ZT 349 ((qP ps[k]).num) ((aZ b2 x2)) _ from⟨b2,x2,rfl,(show b2=decide ((qP ps[k]).num<0)∧x2.N=(qP ps[k]).num.natAbs∧x2.n=lenL (qP ps[k]).num.natAbs from⟨hq2.1,hq2.2.1,by rw[←hq2.2.1];exact hq2.2.2.1⟩),hk3,(S.num 1 rfl)⟩).any)) ?_
   refine va (fun _ _ _ _ hd _=>sl rfl (rc1 Tryz.func57 rfl) (zoO ((hd.r 4 rfl rfl)).row (by decide))) ?_
   refine va (fun _ _ S _ _ _=>sv rfl (zaf rfl (S.at 11 rfl) (zbR _))) ?_
   refine va (fun _ _ _ _ hd hp=>sv rfl (zap rfl (hd.v 6 rfl rfl) (hp _ (List.mem_of_getElem? (i:=0) rfl) (by kernel_rfl)) (Tryz.isAgg23 _) rfl)) ?_
   refine va (fun _ _ S _ _ _=>sv rfl (zaf rfl (S.at 0 rfl) (zbR _))) ?_
   refine va (fun _ _ S _ hd _=>sv rfl (zap rfl (hd.v 8 rfl rfl) (S.bx 1 rfl) (Tryz.isAgg23 _) rfl)) ?_
   refine va (fun _ _ S _ hd _=>sl rfl (rc2 Tryz.func76 (hd.v 7 rfl rfl) (hd.v 9 rfl rfl)) (zrI (show NT 349 ((za6 ((ps.map qP).take k)).den) (aS y) _ from⟨y,rfl,hI.2.2.2.1,(by rw[←hI.2.2.2.1];exact hI.2.2.2.2),hky,(S.num 5 rfl)⟩).any (show NT 349 ((qP ps[k]).den) (aS y2) _ from⟨y2,rfl,hq2.2.2.2.1,(by rw[←hq2.2.2.2.1];exact hq2.2.2.2.2),hk4,(S.num 0 rfl)⟩).any (by decide) (by decide))) ?_
   refine va (fun _ _ _ _ hd _=>sl rfl (rc2 Tryz.func74 rfl rfl) (zrH ((hd.r 5 rfl rfl)).any ((hd.r 10 rfl rfl)).any (by decide) (by decide))) ?_
   refine va (fun _ _ _ _ hd _=>sv rfl (zac rfl rfl) (hd.r 11 rfl rfl)) ?_
   refine va (fun _ _ _ _ hd _=>by
    obtain⟨b,x,y,hv,hq,k1,k2,o1,o2⟩:=(hd.r 12 rfl rfl)
    exact sv rfl (zbd rfl hv rfl) ⟨b,x,y,rfl,hq,k1,k2,o1,o2⟩) ?_
   refine va (fun _ _ _ _ hd _=>by
    obtain⟨b,x,y,hv,hq,k1,k2,o1,o2⟩:=(hd.r 12 rfl rfl)
    exact sv rfl (zbd rfl hv rfl)) ?_
   refine vs ?_
   exact vn
  ·intro a2 V9 S hB hf hl hdis hs hp
   obtain⟨gs1,vsgs1,hvgs1,-,hbgs1,hngs1,hPgs1⟩:=hs _ (List.mem_of_getElem? (i:=0) rfl)
   have hegs1:=zgd (((S.at 11 rfl)).symm.trans hvgs1)
   subst hegs1
   obtain⟨b3,x3,y3,hv1,hq3,hk5,hk6,ok5,ok6⟩:=(show QT 698 (mkRat (((za6 ((ps.map qP).take k)).num)*((qP ps[k]).num)) (((za6 ((ps.map qP).take k)).den)*((qP ps[k]).den))) (.agg vsgs1.toArray) V9 from hPgs1)
   have hvsgs1:=zge (ws:=(aL b3 x3 y3)) hv1
   subst hvsgs1
   have S:=S.know ok5
   have S:=S.know ok6
   have S:=Frm.readd S (S0.bxlo 2 rfl) hbgs1 rfl (zdm (S0.ne 0 2 rfl rfl (by decide)) (zdm (S0.ne 1 2 rfl rfl (by decide)) ziw))
   have S:Frm 34 [(5,pT g3 0),(17,(aG b2 x2 y2)),(16,(aG be xe ye)),(15,.pointer (some (zbh A (k*3)))),(14,.int .i64 (((k:Nat):Int))),(13,.slice A ps.length c),(10,.bool (decide (((k:Nat):Int)<((ps.length:Nat):Int)))),(9,.int .i64 (((ps.length:Nat):Int))),(8,.slice A ps.length c),(7,.int .i64 (((k:Nat):Int))),(4,.int .i64 (((k:Nat):Int))),(3,pT g2 0),(2,pT g1 0),(0,.slice A ps.length c)] [⟨g1,27,[.bool false,.slice none 0 0,.slice none 0 0]⟩,⟨g3,27,(aL b2 x2 y2)⟩,⟨g2,27,(aL b3 x3 y3)⟩] V _ _ _:=S
   clear hf hl hdis hs hp S0
   refine hK7 _ _ ?_
   refine zab ?_
   refine tv S (zac rfl (S.at 10 rfl)) fun a S=>?_
   refine tv S (zbE (k:=k) (m:=1) rfl (S.at 0 rfl) rfl (by omega)) fun a S=>?_
   refine zaS S (v:= .int .i64 (((k+1:Nat):Int))) (zag rfl (S.at 0 rfl)) rfl rfl (by decide) (ls':=[(12,.int .i64 (((k+1:Nat):Int))),(11,.int .i64 (((k:Nat):Int))),(5,pT g3 0),(17,(aG b2 x2 y2)),(16,(aG be xe ye)),(15,.pointer (some (zbh A (k*3)))),(14,.int .i64 (((k:Nat):Int))),(13,.slice A ps.length c),(10,.bool (decide (((k:Nat):Int)<((ps.length:Nat):Int)))),(9,.int .i64 (((ps.length:Nat):Int))),(8,.slice A ps.length c),(7,.int .i64 (((k:Nat):Int))),(3,pT g2 0),(2,pT g1 0),(0,.slice A ps.length c)]) rfl (fun a S=>?_)
   have hI1:IsQ (za6 ((ps.map qP).take (k+1))) b3 x3 y3:=zqP hlt▸(zso _ _▸hq3)
   have hl1:=zcj hI1 (hSm (k+1) (by rw[List.length_map];exact hlt))
   have S:=S.sel [0,13,14,15] rfl
   have S:=S.seln [1,0,8,9] rfl
   have S:=S.reorder [0,2] rfl (by decide)
   refine⟨⟨k+1,b3,x3,y3,hI1,hl1.1,hl1.2,hlt,S⟩,?_⟩
   have hm1:=S.at 0 rfl
   rw[hm0,hm1]
   simp only[intOf];omega
 ·refine wp_cond_false ((S.at 0 rfl).trans (congrArg Value.bool hc10)) ?_
  have hge:ps.length≤k:=by have:=of_decide_eq_false hc10;omega
  refine wp_exit ?_
  refine hK3 _ _ ?_
  refine wp_seq_k fun K9 hK9=>?_
  refine zab ?_
  refine tv S (zaj rfl (S.at 5 rfl) (S.bx 1 rfl) Tryz.underlying27 rfl (vs:=(aL b x y)) zar rfl) fun a S=>?_
  refine zaD S (i:=0) (vs:=(aL b x y)) rfl (fun ht=>zay rfl (S.at 7 rfl) (S.at 0 rfl) zar rfl (zt2 rfl) ht) (zt2 rfl) rfl rfl rfl (lb':=[⟨g1,27,(aL b x y)⟩,⟨g2,27,(aL b x y)⟩]) rfl (fun V10 S=>?_)
  refine hK9 _ _ ?_
  refine wp_ret ?_
  exact zaR rfl S (S.at 7 rfl) (i:=0) rfl Tryz.underlying27 rfl zar ⟨_,rfl,⟨b,x,y,rfl,zpg hge▸hI,hkx,hky,(S.num 0 rfl),(S.num 1 rfl)⟩,S.below⟩
theorem zkY (h:QRow K [q1,q2] v V)(b:K≤349)(hs:Sm 349 (q1+q2)):Calls Tryz.prog 27 #[v] V (zal V (QT 349 (q1+q2))):=by
 obtain⟨s1,s2⟩:=h.el
 refine zcV (ztg (h.to b) (fun k hk=>?_)) (fun _ _ h2=>?_)
 ·match k,hk with
  |0,_=>exact zlZ.mono (by omega)
  |1,_=>show Sm 349 (0+q1);rw[Rat.zero_add];exact s1.mono (by omega)
  |2,_=>show Sm 349 (0+q1+q2);rw[Rat.zero_add];exact hs
 ·rw[show zdY [q1,q2]=q1+q2 by show 0+q1+q2=_;rw[Rat.zero_add]]at h2
  exact h2
theorem zoP (h:QRow K [q1,q2] v V)(b:K≤349)(hs:Sm 349 (q1*q2)):Calls Tryz.prog 69 #[v] V (zal V (QT 349 (q1*q2))):=by
 obtain⟨s1,s2⟩:=h.el
 refine zcV (zth (h.to b) (fun k hk=>?_)) (fun _ _ h2=>?_)
 ·match k,hk with
  |0,_=>exact zsq.mono (by omega)
  |1,_=>show Sm 349 (1*q1);rw[Rat.one_mul];exact s1.mono (by omega)
  |2,_=>show Sm 349 (1*q1*q2);rw[Rat.one_mul];exact hs
 ·rw[show za6 [q1,q2]=q1*q2 by show 1*q1*q2=_;rw[Rat.one_mul]]at h2
  exact h2
theorem zti {q1 q2:Rat}{v1 v2:Value}{V:World}(h1:Q1 349 (q1) v1 V)(h2:Q1 349 (q2) v2 V)(hs:Sm 349 (q1+(-q2))):
  Calls Tryz.prog 68 #[v1,v2] V (zal V (QT 349 (q1 - q2))):=by
 obtain⟨b1,x1,y1,rfl,hq1,hk1,hk2,ok1,ok2⟩:=h1
 obtain⟨b2,x2,y2,rfl,hq2,hk3,hk4,ok3,ok4⟩:=h2
 refine zav (e:=[x2,y2,x1,y1]) Tryz.func68 rfl Tryz.ntmps68 (zt2 rfl) [(0,(aG b1 x1 y1)),(1,(aG b2 x2 y2))] rfl (zaa ok3 (zaa ok4 (zaa ok1 (zaa ok2 zaN)))) (fun a S=>?_)
 refine wp_seq_k fun K1 hK1=>?_
 refine zab ?_
 refine ti S (cs:=(aL b1 x1 y1)) (zaw rfl (S.at 0 rfl) rfl) (fun g1=>[⟨g1,27,(aL b1 x1 y1)⟩]) fun g1 a V1 hgg1 S=>?_
 refine ti S (cs:=(aL b2 x2 y2)) (zaw rfl (S.at 2 rfl) rfl) (fun g2=>[⟨g1,27,(aL b1 x1 y1)⟩,⟨g2,27,(aL b2 x2 y2)⟩]) fun g2 a V2 hgg2 S=>?_
 refine ti S (cs:=[.bool false,.slice none 0 0,.slice none 0 0]) (zaz rfl (Tryz.zeroValue27 _) rfl) (fun g3=>[⟨g1,27,(aL b1 x1 y1)⟩,⟨g2,27,(aL b2 x2 y2)⟩,⟨g3,27,[.bool false,.slice none 0 0,.slice none 0 0]⟩]) fun g3 a V3 hgg3 S=>?_
 refine hK1 _ _ ?_
 refine wp_seq_k fun K2 hK2=>?_
 obtain⟨W1,hW1⟩:∃W,W=V3:=⟨_,rfl⟩
 rw[←hW1]at S ⊢
 have S0:=S
 refine fr 5 [5,6,7,8,9] [IsV ((aG b1 x1 y1)),IsV ((aG b2 x2 y2)),QT 349 (-q2),QL 349 6 ([q1,-q2]),QT 349 (q1+(-q2))] S ?_ ?_
 ·refine sc (fun _ _ S _ _=>sv rfl (zaj rfl (S.at 2 rfl) (S.bx 0 rfl) Tryz.underlying27 rfl (vs:=(aL b1 x1 y1)) zar rfl)) ?_
  refine sc (fun _ _ S _ _=>sv rfl (zaj rfl (S.at 1 rfl) (S.bx 1 rfl) Tryz.underlying27 rfl (vs:=(aL b2 x2 y2)) zar rfl)) ?_
  refine sc (fun _ _ S _ hd=>sl rfl (rc1 Tryz.func90 (hd.v 1 rfl rfl)) (ztt (show Q1 349 (q2) ((aG b2 x2 y2)) _ from⟨b2,x2,y2,rfl,hq2,hk3,hk4,(S.num 0 rfl),(S.num 1 rfl)⟩) (by decide))) ?_
  refine sc (fun _ _ S _ hd=>sy rfl (zdf rfl (hd.v 0 rfl rfl) rfl (show Q1 349 (q1) ((aG b1 x1 y1)) _ from⟨b1,x1,y1,rfl,hq1,hk1,hk2,(S.num 2 rfl),(S.num 3 rfl)⟩) ((hd.r 2 rfl rfl)).any)) ?_
  refine sc (fun _ _ _ _ hd=>sl rfl (rc1 Tryz.func27 rfl) (zkY ((hd.r 3 rfl rfl)).row (by decide) (by assumption))) ?_
  exact sn
 ·intro a1 V4 S hB hf
  obtain⟨b3,x3,y3,hv1,hq3,hk5,hk6,ok5,ok6⟩:=hf.r 4 rfl rfl
  have S:=S.add hv1
  have S:=S.know ok5
  have S:=S.know ok6
  clear hf S0
  show wpList _ _ _ [_] _ _
  refine zaD S (i:=2) (vs:=(aL b3 x3 y3)) rfl (fun ht=>zay rfl (S.at 1 rfl) (S.at 0 rfl) zar rfl (zt2 rfl) ht) (zt2 rfl) rfl rfl rfl (lb':=[⟨g1,27,(aL b1 x1 y1)⟩,⟨g2,27,(aL b2 x2 y2)⟩,⟨g3,27,(aL b3 x3 y3)⟩]) rfl (fun V5 S=>?_)
  refine hK2 _ _ ?_
  refine wp_ret ?_
  exact zaR rfl S (S.at 1 rfl) (i:=2) rfl Tryz.underlying27 rfl zar ⟨_,rfl,((show QT 349 (q1+(-q2)) ((aG b3 x3 y3)) _ from⟨b3,x3,y3,rfl,hq3,hk5,hk6,(S.num 1 rfl),(S.num 0 rfl)⟩)).to (ziu q1 q2) (by decide),S.below⟩
theorem zrB (h1:Q1 K q1 v1 V)(h2:Q1 K' q2 v2 V)(b:K≤349)(b':K'≤349)(hs:Sm M (q1 - q2))(hM:M≤349):Calls Tryz.prog 68 #[v1,v2] V (zal V (QT M (q1 - q2))):=
 zcV (zti (h1.to rfl b) (h2.to rfl b') (ziu q1 q2▸hs.mono hM)) (fun _ _ h=>h.sml hs)
end
end Go.Proofs.YtdeelcoipmdoiaaGreatDoor
