/- A part. -/
import Derived.Test.YtafokgknenienaaGreatDoorGRatG
set_option maxHeartbeats 4000000
set_option maxRecDepth 100000
namespace Go.Proofs.YtafokgknenienaaGreatDoor
open Go Go.RowKit
variable {v v' v1 v2:Value}{V:World}{K K' N M:Nat}{q q' q1 q2:Rat}{Z Z':Int}
def rmz (Z Z':Int):Int:=if Z'=0 then 0 else Z.fmod Z'
def zsY (Z':Int):Int:=if Z'=0 then 30 else 0
def ZDiv (K K':Nat)(Z Z':Int)(v:Value)(V:World):Prop:=∃v0 v1,v= .tuple #[v0,v1,.int .i64 (zsY Z')]∧ZT (K+1) (Z.fdiv Z') v0 V∧ZT (max K K'+1) (rmz Z Z') v1 V
theorem ZDiv.keep {V':World}(h:ZDiv K K' Z Z' v V)(hb:Below V.heap.size V V'):ZDiv K K' Z Z' v V':=by
 obtain⟨v0,v1,h1,h2,h3⟩:=h;exact⟨v0,v1,h1,h2.keep hb,h3.keep hb⟩
theorem ZDiv.keepS {V':World}{shs:List (TypeId×Nat)}{g:Nat}{vs:List Value}(h:ZDiv K K' Z Z' v V)(hb:Sto shs g vs V V'):ZDiv K K' Z Z' v V':=by
 obtain⟨v0,v1,h1,h2,h3⟩:=h;exact⟨v0,v1,h1,h2.keepS hb,h3.keepS hb⟩
def N2 (K K' N M:Nat)(v:Value)(V:World):Prop:=∃v1 v2,v= .tuple #[v1,v2]∧NT K N v1 V∧NT K' M v2 V
def NE (K N:Nat)(er:Int)(v:Value)(V:World):Prop:=∃v1,v= .tuple #[v1,.int .i64 er]∧NT K N v1 V
def N2E (K K' N M:Nat)(er:Int)(v:Value)(V:World):Prop:=∃v1 v2,v= .tuple #[v1,v2,.int .i64 er]∧NT K N v1 V∧NT K' M v2 V
theorem N2.keep {V':World}(h:N2 K K' N M v V)(hb:Below V.heap.size V V'):N2 K K' N M v V':=by obtain⟨a,b,h1,h2,h3⟩:=h;exact⟨a,b,h1,h2.keep hb,h3.keep hb⟩
theorem NE.keep {V':World}{er:Int}(h:NE K N er v V)(hb:Below V.heap.size V V'):NE K N er v V':=by obtain⟨a,h1,h2⟩:=h;exact⟨a,h1,h2.keep hb⟩
theorem N2E.keep {V':World}{er:Int}(h:N2E K K' N M er v V)(hb:Below V.heap.size V V'):N2E K K' N M er v V':=by obtain⟨a,b,h1,h2,h3⟩:=h;exact⟨a,b,h1,h2.keep hb,h3.keep hb⟩
section
variable {V':World}{shs:List (TypeId × Nat)}{g:Nat}{vs:List Value}
theorem N2.keepS (h:N2 K K' N M v V)(hb:Sto shs g vs V V'):N2 K K' N M v V':=by obtain⟨a,b,h1,h2,h3⟩:=h;exact⟨a,b,h1,h2.keepS hb,h3.keepS hb⟩
theorem NE.keepS {er:Int}(h:NE K N er v V)(hb:Sto shs g vs V V'):NE K N er v V':=by obtain⟨a,h1,h2⟩:=h;exact⟨a,h1,h2.keepS hb⟩
theorem N2E.keepS {er:Int}(h:N2E K K' N M er v V)(hb:Sto shs g vs V V'):N2E K K' N M er v V':=by obtain⟨a,b,h1,h2,h3⟩:=h;exact⟨a,b,h1,h2.keepS hb,h3.keepS hb⟩
end
instance {K K' N M:Nat}:Keeps (N2 K K' N M):=⟨fun h hb=>N2.keep h hb⟩
instance {K K' N M:Nat} {shs:List (TypeId×Nat)}:KeepsS shs (N2 K K' N M):=⟨fun h hb=>N2.keepS h hb⟩
instance {K N:Nat} {er:Int}:Keeps (NE K N er):=⟨fun h hb=>NE.keep h hb⟩
instance {K N:Nat} {er:Int} {shs:List (TypeId×Nat)}:KeepsS shs (NE K N er):=⟨fun h hb=>NE.keepS h hb⟩
instance {K K' N M:Nat} {er:Int}:Keeps (N2E K K' N M er):=⟨fun h hb=>N2E.keep h hb⟩
instance {K K' N M:Nat} {er:Int} {shs:List (TypeId×Nat)}:KeepsS shs (N2E K K' N M er):=⟨fun h hb=>N2E.keepS h hb⟩
instance {K K':Nat} {Z Z':Int}:Keeps (ZDiv K K' Z Z'):=⟨fun h hb=>ZDiv.keep h hb⟩
instance {K K':Nat} {Z Z':Int} {shs:List (TypeId×Nat)}:KeepsS shs (ZDiv K K' Z Z'):=⟨fun h hb=>ZDiv.keepS h hb⟩
section
variable {n:Nat}{ls:List (Tmp × Value)}{lb:List Bx}{w:World}{e:List Num}{a:Act}{i j:Nat}{o:Oper}
end
theorem div_pos {M:Nat}(hM:(!decide (zeS M=0))=false):M≠0:=by
 rintro rfl;rw[zeA]at hM;cases hM
theorem zig (q1 q2:Rat):q1+ -q2=q1 - q2:=(Rat.sub_eq_add_neg q1 q2).symm
theorem zpP (q1 q2:Rat):Int.sign (q1.num*(q2.den:Int) - q2.num*(q1.den:Int))=zaI q1 q2:=(zhz q1 q2).symm
theorem zsi {q1 q2:Rat}{v1 v2:Value}{V:World}(h1:Q1 128 (q1) v1 V)(h2:Q1 128 (q2) v2 V):
  Calls Tryz.prog 19 #[v1,v2] V (zai V (fun v _=>v= .int .i64 (zaI q1 q2))):=by
 obtain⟨b1,x1,y1,rfl,hq1,hk1,hk2,ok1,ok2⟩:=h1
 obtain⟨b2,x2,y2,rfl,hq2,hk3,hk4,ok3,ok4⟩:=h2
 refine zao (e:=[x2,y2,x1,y1]) Tryz.func19 rfl Tryz.ntmps19 (zta rfl) [(0,(aG b1 x1 y1)),(1,(aG b2 x2 y2))] rfl (zaa ok3 (zaa ok4 (zaa ok1 (zaa ok2 zaz)))) (fun a S=>?_)
 refine wp_seq_k fun K1 hK1=>?_
 refine zab ?_
 refine ti S (cs:=(aL b1 x1 y1)) (zar rfl (S.at 0 rfl) rfl) (fun g1=>[⟨g1,27,(aL b1 x1 y1)⟩]) fun g1 a V1 hgg1 S=>?_
 refine ti S (cs:=(aL b2 x2 y2)) (zar rfl (S.at 2 rfl) rfl) (fun g2=>[⟨g1,27,(aL b1 x1 y1)⟩,⟨g2,27,(aL b2 x2 y2)⟩]) fun g2 a V2 hgg2 S=>?_
 refine tv S (zav rfl) fun a S=>?_
 refine hK1 _ _ ?_
 refine wp_seq_k fun K2 hK2=>?_
 obtain⟨W1,hW1⟩:∃W,W=V2:=⟨_,rfl⟩
 rw[←hW1]at S ⊢
 have S0:=S
 refine fr 4 [5,6,7,8] [IsV ((aG b1 x1 y1)),QT 128 (q1),IsV ((aG b2 x2 y2)),QT 128 (q2)] S ?_ ?_
 ·refine sc (fun _ _ S _ _=>sv rfl (zac rfl (S.at 2 rfl) (S.bx 0 rfl) Tryz.underlying27 rfl (vs:=(aL b1 x1 y1)) zag rfl)) ?_
  refine sc (fun _ _ S _ hd=>sl rfl (rc1 Tryz.func25 (hd.v 0 rfl rfl)) (zdg (show Q1 128 (q1) ((aG b1 x1 y1)) _ from⟨b1,x1,y1,rfl,hq1,hk1,hk2,(S.num 2 rfl),(S.num 3 rfl)⟩) (by decide))) ?_
  refine sc (fun _ _ S _ _=>sv rfl (zac rfl (S.at 1 rfl) (S.bx 1 rfl) Tryz.underlying27 rfl (vs:=(aL b2 x2 y2)) zag rfl)) ?_
  refine sc (fun _ _ S _ hd=>sl rfl (rc1 Tryz.func25 (hd.v 2 rfl rfl)) (zdg (show Q1 128 (q2) ((aG b2 x2 y2)) _ from⟨b2,x2,y2,rfl,hq2,hk3,hk4,(S.num 0 rfl),(S.num 1 rfl)⟩) (by decide))) ?_
  exact sn
 ·intro a1 V3 S hB hf
  obtain⟨b3,x3,y3,hv1,hq3,hk5,hk6,ok5,ok6⟩:=hf.r 1 rfl rfl
  have S:=S.add hv1
  have S:=S.know ok5
  have S:=S.know ok6
  obtain⟨b4,x4,y4,hv2,hq4,hk7,hk8,ok7,ok8⟩:=hf.r 3 rfl rfl
  have S:=S.add hv2
  have S:=S.know ok7
  have S:=S.know ok8
  clear hf S0
  show wpList _ _ _ [_,_] _ _
  refine zap S (i:=0) (vs:=(aL b3 x3 y3)) rfl (fun ht=>zal rfl (S.at 4 rfl) (S.at 1 rfl) zag rfl (zta rfl) ht) (zta rfl) rfl rfl rfl (lb':=[⟨g1,27,(aL b3 x3 y3)⟩,⟨g2,27,(aL b2 x2 y2)⟩]) rfl (fun V4 S=>?_)
  refine zap S (i:=1) (vs:=(aL b4 x4 y4)) rfl (fun ht=>zal rfl (S.at 3 rfl) (S.at 0 rfl) zag rfl (zta rfl) ht) (zta rfl) rfl rfl rfl (lb':=[⟨g1,27,(aL b3 x3 y3)⟩,⟨g2,27,(aL b4 x4 y4)⟩]) rfl (fun V5 S=>?_)
  refine hK2 _ _ ?_
  refine wp_seq_k fun K3 hK3=>?_
  have S:=S.keep [4,3,2] (ls':=[(4,.int .i64 0),(3,pT g2 0),(2,pT g1 0)]) rfl
  obtain⟨W2,hW2⟩:∃W,W=V5:=⟨_,rfl⟩
  rw[←hW2]at S ⊢
  have S0:=S
  refine fr 16 [9,10,11,12,13,14,15,16,17,18,19,20,21,22,23,24] [IsV (pT g1 0),IsV ((aZ b3 x3)),IsV (pT g2 2),IsV (aS y4),ZT 128 (((q2).den:Int)),ZL 128 4 ([(q1).num,((q2).den:Int)]),ZT 256 (((q1).num)*((q2).den:Int)),IsV (pT g2 0),IsV ((aZ b4 x4)),IsV (pT g1 2),IsV (aS y3),ZT 128 (((q1).den:Int)),ZL 128 4 ([(q2).num,((q1).den:Int)]),ZT 256 (((q2).num)*((q1).den:Int)),ZT 257 ((((q1).num)*((q2).den:Int)) - (((q2).num)*((q1).den:Int))),IsV (.int .i64 (Int.sign ((((q1).num)*((q2).den:Int)) - (((q2).num)*((q1).den:Int)))))] S ?_ ?_
  ·refine sc (fun _ _ S _ _=>sv rfl (zae rfl (S.at 2 rfl) (zbr _))) ?_
   refine sc (fun _ _ S _ hd=>sv rfl (zac rfl (hd.v 0 rfl rfl) (S.bx 0 rfl) Tryz.underlying25 rfl (vs:=[.bool b3,aS x3]) zbO rfl)) ?_
   refine sc (fun _ _ S _ _=>sv rfl (zae rfl (S.at 1 rfl) (zbg _))) ?_
   refine sc (fun _ _ S _ hd=>sv rfl (zay rfl (hd.v 2 rfl rfl) (S.bx 1 rfl) (Tryz.isAgg23 _) rfl)) ?_
   refine sc (fun _ _ S _ hd=>sl rfl (rc1 Tryz.func95 (hd.v 3 rfl rfl)) (zio (show NT 128 ((q2).den) (aS y4) _ from⟨y4,rfl,hq4.2.2.2.1,(by rw[←hq4.2.2.2.1];exact hq4.2.2.2.2),hk8,(S.num 0 rfl)⟩))) ?_
   refine sc (fun _ _ S _ hd=>sy rfl (zcf rfl (hd.v 1 rfl rfl) rfl (show ZT 128 ((q1).num) ((aZ b3 x3)) _ from⟨b3,x3,rfl,(show b3=decide ((q1).num<0)∧x3.N=(q1).num.natAbs∧x3.n=lenL (q1).num.natAbs from⟨hq3.1,hq3.2.1,by rw[←hq3.2.1];exact hq3.2.2.1⟩),hk5,(S.num 3 rfl)⟩).any ((hd.r 4 rfl rfl)).any)) ?_
   refine sc (fun _ _ _ _ hd=>sl rfl (rc1 Tryz.func90 rfl) (zhC ((hd.r 5 rfl rfl)).row (by decide))) ?_
   refine sc (fun _ _ S _ _=>sv rfl (zae rfl (S.at 1 rfl) (zbr _))) ?_
   refine sc (fun _ _ S _ hd=>sv rfl (zac rfl (hd.v 7 rfl rfl) (S.bx 1 rfl) Tryz.underlying25 rfl (vs:=[.bool b4,aS x4]) zbO rfl)) ?_
   refine sc (fun _ _ S _ _=>sv rfl (zae rfl (S.at 2 rfl) (zbg _))) ?_
   refine sc (fun _ _ S _ hd=>sv rfl (zay rfl (hd.v 9 rfl rfl) (S.bx 0 rfl) (Tryz.isAgg23 _) rfl)) ?_
   refine sc (fun _ _ S _ hd=>sl rfl (rc1 Tryz.func95 (hd.v 10 rfl rfl)) (zio (show NT 128 ((q1).den) (aS y3) _ from⟨y3,rfl,hq3.2.2.2.1,(by rw[←hq3.2.2.2.1];exact hq3.2.2.2.2),hk6,(S.num 2 rfl)⟩))) ?_
   refine sc (fun _ _ S _ hd=>sy rfl (zcf rfl (hd.v 8 rfl rfl) rfl (show ZT 128 ((q2).num) ((aZ b4 x4)) _ from⟨b4,x4,rfl,(show b4=decide ((q2).num<0)∧x4.N=(q2).num.natAbs∧x4.n=lenL (q2).num.natAbs from⟨hq4.1,hq4.2.1,by rw[←hq4.2.1];exact hq4.2.2.1⟩),hk7,(S.num 1 rfl)⟩).any ((hd.r 11 rfl rfl)).any)) ?_
   refine sc (fun _ _ _ _ hd=>sl rfl (rc1 Tryz.func90 rfl) (zhC ((hd.r 12 rfl rfl)).row (by decide))) ?_
   refine sc (fun _ _ _ _ hd=>sl rfl (rc2 Tryz.func94 rfl rfl) (zsD ((hd.r 6 rfl rfl)).any ((hd.r 13 rfl rfl)).any (by decide) (by decide))) ?_
   refine sc (fun _ _ _ _ hd=>sl rfl (rc1 Tryz.func92 rfl) (zrB ((hd.r 14 rfl rfl)).any)) ?_
   exact sn
  ·intro a2 V6 S hB hf
   have S:=S.add (hf.v 15 rfl rfl)
   clear hf S0
   show wpList _ _ _ [_] _ _
   refine za5 S (v:= .int .i64 (Int.sign ((((q1).num)*((q2).den:Int)) - (((q2).num)*((q1).den:Int))))) (zan rfl (S.at 0 rfl)) rfl rfl (by decide) (ls':=[(24,.int .i64 (Int.sign ((((q1).num)*((q2).den:Int)) - (((q2).num)*((q1).den:Int))))),(3,pT g2 0),(2,pT g1 0)]) rfl (fun a S=>?_)
   refine hK3 _ _ ?_
   refine wp_ret ?_
   exact zaH rfl S (S.at 0 rfl) ⟨_,rfl,(congrArg (Value.int .i64) (show Int.sign ((((q1).num)*((q2).den:Int)) - (((q2).num)*((q1).den:Int)))=zaI q1 q2 from zpP q1 q2)),S.below⟩
theorem zoa (h1:Q1 K q1 v1 V)(h2:Q1 K' q2 v2 V)(b:K≤128)(b':K'≤128):Calls Tryz.prog 19 #[v1,v2] V (zai V fun v _=>v= .int .i64 (zaI q1 q2)):=zsi (h1.to rfl b) (h2.to rfl b')
theorem zrh {q1 q2:Rat}{v1 v2:Value}{V:World}(h1:Q1 128 (q1) v1 V)(h2:Q1 128 (q2) v2 V):
  Calls Tryz.prog 21 #[v1,v2] V (zai V (fun v _=>v= .bool (decide (zaI q1 q2=0)))):=by
 obtain⟨b1,x1,y1,rfl,hq1,hk1,hk2,ok1,ok2⟩:=h1
 obtain⟨b2,x2,y2,rfl,hq2,hk3,hk4,ok3,ok4⟩:=h2
 refine zao (e:=[x2,y2,x1,y1]) Tryz.func21 rfl Tryz.ntmps21 (zta rfl) [(0,(aG b1 x1 y1)),(1,(aG b2 x2 y2))] rfl (zaa ok3 (zaa ok4 (zaa ok1 (zaa ok2 zaz)))) (fun a S=>?_)
 refine wp_seq_k fun K1 hK1=>?_
 refine zab ?_
 refine ti S (cs:=(aL b1 x1 y1)) (zar rfl (S.at 0 rfl) rfl) (fun g1=>[⟨g1,27,(aL b1 x1 y1)⟩]) fun g1 a V1 hgg1 S=>?_
 refine ti S (cs:=(aL b2 x2 y2)) (zar rfl (S.at 2 rfl) rfl) (fun g2=>[⟨g1,27,(aL b1 x1 y1)⟩,⟨g2,27,(aL b2 x2 y2)⟩]) fun g2 a V2 hgg2 S=>?_
 refine tv S (zav rfl) fun a S=>?_
 refine hK1 _ _ ?_
 refine wp_seq_k fun K2 hK2=>?_
 refine zab ?_
 refine tv S (zac rfl (S.at 2 rfl) (S.bx 0 rfl) Tryz.underlying27 rfl (vs:=(aL b1 x1 y1)) zag rfl) fun a S=>?_
 refine tv S (zac rfl (S.at 2 rfl) (S.bx 1 rfl) Tryz.underlying27 rfl (vs:=(aL b2 x2 y2)) zag rfl) fun a S=>?_
 refine tc S (F:=(fun v _=>v= .int .i64 (zaI q1 q2))) (rc2 Tryz.func19 (S.at 1 rfl) (S.at 0 rfl)) (zoa (show Q1 128 (q1) ((aG b1 x1 y1)) _ from⟨b1,x1,y1,rfl,hq1,hk1,hk2,(S.num 2 rfl),(S.num 3 rfl)⟩) (show Q1 128 (q2) ((aG b2 x2 y2)) _ from⟨b2,x2,y2,rfl,hq2,hk3,hk4,(S.num 0 rfl),(S.num 1 rfl)⟩) (by decide) (by decide)) fun v a V3 hF hb S=>?_
 subst hF
 refine tv S (zbZ _ (by decide) rfl (S.at 0 rfl) rfl) fun a S=>?_
 refine za5 S (v:= .bool (decide (zaI q1 q2=0))) (zan rfl (S.at 0 rfl)) rfl rfl (by decide) (ls':=[(8,.bool (decide (zaI q1 q2=0))),(7,.int .i64 (zaI q1 q2)),(6,(aG b2 x2 y2)),(5,(aG b1 x1 y1)),(3,pT g2 0),(2,pT g1 0),(0,(aG b1 x1 y1)),(1,(aG b2 x2 y2))]) rfl (fun a S=>?_)
 refine hK2 _ _ ?_
 refine wp_ret ?_
 exact zaH rfl S (S.at 0 rfl) ⟨_,rfl,rfl,S.below⟩
theorem zob (h1:Q1 K q1 v1 V)(h2:Q1 K' q2 v2 V)(b:K≤128)(b':K'≤128):Calls Tryz.prog 21 #[v1,v2] V (zai V fun v _=>v= .bool (decide (zaI q1 q2=0))):=zrh (h1.to rfl b) (h2.to rfl b')
theorem zsj {q1 q2:Rat}{v1 v2:Value}{V:World}(h1:Q1 128 (q1) v1 V)(h2:Q1 128 (q2) v2 V):
  Calls Tryz.prog 14 #[v1,v2] V (zai V (QE 256 (q1/q2) (erq q2))):=by
 obtain⟨b1,x1,y1,rfl,hq1,hk1,hk2,ok1,ok2⟩:=h1
 obtain⟨b2,x2,y2,rfl,hq2,hk3,hk4,ok3,ok4⟩:=h2
 refine zao (e:=[x2,y2,x1,y1]) Tryz.func14 rfl Tryz.ntmps14 (zta rfl) [(0,(aG b1 x1 y1)),(1,(aG b2 x2 y2))] rfl (zaa ok3 (zaa ok4 (zaa ok1 (zaa ok2 zaz)))) (fun a S=>?_)
 refine wp_seq_k fun K1 hK1=>?_
 refine zab ?_
 refine ti S (cs:=(aL b1 x1 y1)) (zar rfl (S.at 0 rfl) rfl) (fun g1=>[⟨g1,27,(aL b1 x1 y1)⟩]) fun g1 a V1 hgg1 S=>?_
 refine ti S (cs:=(aL b2 x2 y2)) (zar rfl (S.at 2 rfl) rfl) (fun g2=>[⟨g1,27,(aL b1 x1 y1)⟩,⟨g2,27,(aL b2 x2 y2)⟩]) fun g2 a V2 hgg2 S=>?_
 refine ti S (cs:=[.bool false,.slice none 0 0,.slice none 0 0]) (zas rfl (Tryz.zeroValue27 _) rfl) (fun g3=>[⟨g1,27,(aL b1 x1 y1)⟩,⟨g2,27,(aL b2 x2 y2)⟩,⟨g3,27,[.bool false,.slice none 0 0,.slice none 0 0]⟩]) fun g3 a V3 hgg3 S=>?_
 refine tv S (zav rfl) fun a S=>?_
 refine hK1 _ _ ?_
 refine wp_seq_k fun K2 hK2=>?_
 obtain⟨W1,hW1⟩:∃W,W=V3:=⟨_,rfl⟩
 rw[←hW1]at S ⊢
 have S0:=S
 refine fr 4 [6,7,8,9] [IsV ((aG b1 x1 y1)),QT 128 (q1),IsV ((aG b2 x2 y2)),QT 128 (q2)] S ?_ ?_
 ·refine sc (fun _ _ S _ _=>sv rfl (zac rfl (S.at 3 rfl) (S.bx 0 rfl) Tryz.underlying27 rfl (vs:=(aL b1 x1 y1)) zag rfl)) ?_
  refine sc (fun _ _ S _ hd=>sl rfl (rc1 Tryz.func25 (hd.v 0 rfl rfl)) (zdg (show Q1 128 (q1) ((aG b1 x1 y1)) _ from⟨b1,x1,y1,rfl,hq1,hk1,hk2,(S.num 2 rfl),(S.num 3 rfl)⟩) (by decide))) ?_
  refine sc (fun _ _ S _ _=>sv rfl (zac rfl (S.at 2 rfl) (S.bx 1 rfl) Tryz.underlying27 rfl (vs:=(aL b2 x2 y2)) zag rfl)) ?_
  refine sc (fun _ _ S _ hd=>sl rfl (rc1 Tryz.func25 (hd.v 2 rfl rfl)) (zdg (show Q1 128 (q2) ((aG b2 x2 y2)) _ from⟨b2,x2,y2,rfl,hq2,hk3,hk4,(S.num 0 rfl),(S.num 1 rfl)⟩) (by decide))) ?_
  exact sn
 ·intro a1 V4 S hB hf
  obtain⟨b3,x3,y3,hv1,hq3,hk5,hk6,ok5,ok6⟩:=hf.r 1 rfl rfl
  have S:=S.add hv1
  have S:=S.know ok5
  have S:=S.know ok6
  obtain⟨b4,x4,y4,hv2,hq4,hk7,hk8,ok7,ok8⟩:=hf.r 3 rfl rfl
  have S:=S.add hv2
  have S:=S.know ok7
  have S:=S.know ok8
  clear hf S0
  show wpList _ _ _ [_,_] _ _
  refine zap S (i:=0) (vs:=(aL b3 x3 y3)) rfl (fun ht=>zal rfl (S.at 5 rfl) (S.at 1 rfl) zag rfl (zta rfl) ht) (zta rfl) rfl rfl rfl (lb':=[⟨g1,27,(aL b3 x3 y3)⟩,⟨g2,27,(aL b2 x2 y2)⟩,⟨g3,27,[.bool false,.slice none 0 0,.slice none 0 0]⟩]) rfl (fun V5 S=>?_)
  refine zap S (i:=1) (vs:=(aL b4 x4 y4)) rfl (fun ht=>zal rfl (S.at 4 rfl) (S.at 0 rfl) zag rfl (zta rfl) ht) (zta rfl) rfl rfl rfl (lb':=[⟨g1,27,(aL b3 x3 y3)⟩,⟨g2,27,(aL b4 x4 y4)⟩,⟨g3,27,[.bool false,.slice none 0 0,.slice none 0 0]⟩]) rfl (fun V6 S=>?_)
  refine hK2 _ _ ?_
  refine wp_seq_k fun K3 hK3=>?_
  have S:=S.keep [5,4,3,2] (ls':=[(5,.int .i64 0),(4,pT g3 0),(3,pT g2 0),(2,pT g1 0)]) rfl
  obtain⟨W2,hW2⟩:∃W,W=V6:=⟨_,rfl⟩
  rw[←hW2]at S ⊢
  have S0:=S
  refine fr 19 [10,11,12,13,14,15,16,17,18,19,20,21,22,23,24,25,26,27,28] [IsV (pT g1 0),IsV ((aZ b3 x3)),IsV (pT g2 0),IsV (pT g2 0),IsV (.bool b4),IsV (pT g2 2),IsV (aS y4),IsV ((aZ b4 y4)),ZL 128 4 ([(q1).num,zOf b4 ((q2).den)]),ZT 256 (((q1).num)*(zOf b4 ((q2).den))),IsV (pT g1 2),IsV (aS y3),IsV (pT g2 0),IsV (pT g2 1),IsV (aS x4),NT 256 (((q1).den)*((q2).num.natAbs)),QE 256 (mkRat (((q1).num)*(zOf b4 ((q2).den))) (((q1).den)*((q2).num.natAbs))) (erz (((q1).den)*((q2).num.natAbs))),QT 256 (mkRat (((q1).num)*(zOf b4 ((q2).den))) (((q1).den)*((q2).num.natAbs))),IsV (.int .i64 (erz (((q1).den)*((q2).num.natAbs))))] S ?_ ?_
  ·refine sc (fun _ _ S _ _=>sv rfl (zae rfl (S.at 3 rfl) (zbr _))) ?_
   refine sc (fun _ _ S _ hd=>sv rfl (zac rfl (hd.v 0 rfl rfl) (S.bx 0 rfl) Tryz.underlying25 rfl (vs:=[.bool b3,aS x3]) zbO rfl)) ?_
   refine sc (fun _ _ S _ _=>sv rfl (zae rfl (S.at 2 rfl) (zbr _))) ?_
   refine sc (fun _ _ _ _ hd=>sv rfl (zae rfl (hd.v 2 rfl rfl) (zb6 _))) ?_
   refine sc (fun _ _ S _ hd=>sv rfl (zay rfl (hd.v 3 rfl rfl) (S.bx 1 rfl) (Tryz.isAgg4 _) rfl)) ?_
   refine sc (fun _ _ S _ _=>sv rfl (zae rfl (S.at 2 rfl) (zbg _))) ?_
   refine sc (fun _ _ S _ hd=>sv rfl (zay rfl (hd.v 5 rfl rfl) (S.bx 1 rfl) (Tryz.isAgg23 _) rfl)) ?_
   refine sc (fun _ _ _ _ hd=>sv rfl (za2 rfl (hd.v 4 rfl rfl) (hd.v 6 rfl rfl) (zim _ _ _ _))) ?_
   refine sc (fun _ _ S _ hd=>sy rfl (zcf rfl (hd.v 1 rfl rfl) (hd.v 7 rfl rfl) (show ZT 128 ((q1).num) ((aZ b3 x3)) _ from⟨b3,x3,rfl,(show b3=decide ((q1).num<0)∧x3.N=(q1).num.natAbs∧x3.n=lenL (q1).num.natAbs from⟨hq3.1,hq3.2.1,by rw[←hq3.2.1];exact hq3.2.2.1⟩),hk5,(S.num 3 rfl)⟩).any (show Z1 128 (zOf b4 ((q2).den)) ((aZ b4 y4)) _ from⟨b4,y4,rfl,congrArg (zOf b4) hq4.2.2.2.1,hk8,(S.num 0 rfl)⟩))) ?_
   refine sc (fun _ _ _ _ hd=>sl rfl (rc1 Tryz.func90 rfl) (zhC ((hd.r 8 rfl rfl)).row (by decide))) ?_
   refine sc (fun _ _ S _ _=>sv rfl (zae rfl (S.at 3 rfl) (zbg _))) ?_
   refine sc (fun _ _ S _ hd=>sv rfl (zay rfl (hd.v 10 rfl rfl) (S.bx 0 rfl) (Tryz.isAgg23 _) rfl)) ?_
   refine sc (fun _ _ S _ _=>sv rfl (zae rfl (S.at 2 rfl) (zbr _))) ?_
   refine sc (fun _ _ _ _ hd=>sv rfl (zae rfl (hd.v 12 rfl rfl) (zck _))) ?_
   refine sc (fun _ _ S _ hd=>sv rfl (zay rfl (hd.v 13 rfl rfl) (S.bx 1 rfl) (Tryz.isAgg23 _) rfl)) ?_
   refine sc (fun _ _ S _ hd=>sl rfl (rc2 Tryz.func91 (hd.v 11 rfl rfl) (hd.v 14 rfl rfl)) (zoG (show NT 128 ((q1).den) (aS y3) _ from⟨y3,rfl,hq3.2.2.2.1,(by rw[←hq3.2.2.2.1];exact hq3.2.2.2.2),hk6,(S.num 2 rfl)⟩).any (show NT 128 ((q2).num.natAbs) (aS x4) _ from⟨x4,rfl,hq4.2.1,(by rw[←hq4.2.1];exact hq4.2.2.1),hk7,(S.num 1 rfl)⟩).any (by decide) (by decide))) ?_
   refine sc (fun _ _ _ _ hd=>sl rfl (rc2 Tryz.func12 rfl rfl) (zoC ((hd.r 9 rfl rfl)).any ((hd.r 15 rfl rfl)).any (by decide) (by decide))) ?_
   refine sc (fun _ _ _ _ hd=>by
    obtain⟨b,x,y,hv,hq,k1,k2,o1,o2⟩:=(hd.r 16 rfl rfl)
    exact sv rfl (zbf rfl hv rfl) ⟨b,x,y,rfl,hq,k1,k2,o1,o2⟩) ?_
   refine sc (fun _ _ _ _ hd=>by
    obtain⟨b,x,y,hv,hq,k1,k2,o1,o2⟩:=(hd.r 16 rfl rfl)
    exact sv rfl (zbf rfl hv rfl)) ?_
   exact sn
  ·intro a2 V7 S hB hf
   obtain⟨b5,x5,y5,hv3,hq5,hk9,hk10,ok9,ok10⟩:=hf.r 17 rfl rfl
   have S:=S.add hv3
   have S:=S.know ok9
   have S:=S.know ok10
   have S:=S.add (hf.v 18 rfl rfl)
   clear hf S0
   show wpList _ _ _ [_,_] _ _
   refine zap S (i:=2) (vs:=(aL b5 x5 y5)) rfl (fun ht=>zal rfl (S.at 3 rfl) (S.at 1 rfl) zag rfl (zta rfl) ht) (zta rfl) rfl rfl rfl (lb':=[⟨g1,27,(aL b3 x3 y3)⟩,⟨g2,27,(aL b4 x4 y4)⟩,⟨g3,27,(aL b5 x5 y5)⟩]) rfl (fun V8 S=>?_)
   refine za5 S (v:= .int .i64 (erz (((q1).den)*((q2).num.natAbs)))) (zan rfl (S.at 0 rfl)) rfl rfl (by decide) (ls':=[(28,.int .i64 (erz (((q1).den)*((q2).num.natAbs)))),(27,(aG b5 x5 y5)),(4,pT g3 0),(3,pT g2 0),(2,pT g1 0)]) rfl (fun a S=>?_)
   refine hK3 _ _ ?_
   refine wp_ret ?_
   exact zmC rfl S (S.at 3 rfl) (i:=2) rfl Tryz.underlying27 rfl zag (S.at 0 rfl) ⟨_,rfl,⟨b5,x5,y5,congrArg (fun z=>Value.tuple #[(aG b5 x5 y5),.int .i64 z]) (show erz (((q1).den)*((q2).num.natAbs))=erq q2 from zp4 q1 q2),(zrx q1 q2 hq4.1)▸hq5,hk9,hk10,(S.num 1 rfl),(S.num 0 rfl)⟩,S.below⟩
theorem Sm.quo (h:Sm K q1)(h':Sm K' q2):Sm (K+K') (q1/q2):=by
 rw[Rat.div_def]
 refine h.mul ⟨?_,?_⟩
 ·rw[Rat.num_inv]
  have:=h'.2
  rw[Int.natAbs_mul,Int.natAbs_natCast]
  rcases Int.lt_trichotomy q2.num 0 with hz|hz|hz
  ·rw[Int.sign_eq_neg_one_of_neg hz];simpa using this
  ·rw[hz];simpa using zaj K'
  ·rw[Int.sign_eq_one_of_pos hz];simpa using this
 ·rw[Rat.den_inv]
  have:=h'.1
  have h2:=h'.2
  have h3:0<q2.den:=q2.den_pos
  split
  ·omega
  ·exact this
theorem QE.sml {er er':Int}(h:QE K q er v V)(hs:Sm K' q)(he:er=er'):QE K' q er' v V:=by
 obtain⟨b,x,y,h1,h2,h3,h4,h5⟩:=h
 subst he
 exact⟨b,x,y,h1,h2,(zch h2 hs).1,(zch h2 hs).2,h5⟩
theorem zsk (h1:Q1 K q1 v1 V)(h2:Q1 K' q2 v2 V)(b:K≤128)(b':K'≤128):Calls Tryz.prog 14 #[v1,v2] V (zai V (QE (max K 1+max K' 1) (q1/q2) (erq q2))):=
 zbN (zsj (h1.to rfl b) (h2.to rfl b')) (fun _ _ h=>h.sml (h1.sm.quo h2.sm) rfl)
theorem zsl {q1 q2:Rat}{v1 v2:Value}{V:World}(h1:Q1 60 (q1) v1 V)(h2:Q1 60 (q2) v2 V):
  Calls Tryz.prog 35 #[v1,v2] V (zai V (QT 121 (q1 - q2))):=by
 obtain⟨b1,x1,y1,rfl,hq1,hk1,hk2,ok1,ok2⟩:=h1
 obtain⟨b2,x2,y2,rfl,hq2,hk3,hk4,ok3,ok4⟩:=h2
 refine zao (e:=[x2,y2,x1,y1]) Tryz.func35 rfl Tryz.ntmps35 (zta rfl) [(0,(aG b1 x1 y1)),(1,(aG b2 x2 y2))] rfl (zaa ok3 (zaa ok4 (zaa ok1 (zaa ok2 zaz)))) (fun a S=>?_)
 refine wp_seq_k fun K1 hK1=>?_
 refine zab ?_
 refine ti S (cs:=(aL b1 x1 y1)) (zar rfl (S.at 0 rfl) rfl) (fun g1=>[⟨g1,27,(aL b1 x1 y1)⟩]) fun g1 a V1 hgg1 S=>?_
 refine ti S (cs:=(aL b2 x2 y2)) (zar rfl (S.at 2 rfl) rfl) (fun g2=>[⟨g1,27,(aL b1 x1 y1)⟩,⟨g2,27,(aL b2 x2 y2)⟩]) fun g2 a V2 hgg2 S=>?_
 refine ti S (cs:=[.bool false,.slice none 0 0,.slice none 0 0]) (zas rfl (Tryz.zeroValue27 _) rfl) (fun g3=>[⟨g1,27,(aL b1 x1 y1)⟩,⟨g2,27,(aL b2 x2 y2)⟩,⟨g3,27,[.bool false,.slice none 0 0,.slice none 0 0]⟩]) fun g3 a V3 hgg3 S=>?_
 refine hK1 _ _ ?_
 refine wp_seq_k fun K2 hK2=>?_
 obtain⟨W1,hW1⟩:∃W,W=V3:=⟨_,rfl⟩
 rw[←hW1]at S ⊢
 have S0:=S
 refine fr 5 [5,6,7,8,9] [IsV ((aG b1 x1 y1)),IsV ((aG b2 x2 y2)),QT 60 (-q2),QL 60 6 ([q1,-q2]),QT 121 (q1+(-q2))] S ?_ ?_
 ·refine sc (fun _ _ S _ _=>sv rfl (zac rfl (S.at 2 rfl) (S.bx 0 rfl) Tryz.underlying27 rfl (vs:=(aL b1 x1 y1)) zag rfl)) ?_
  refine sc (fun _ _ S _ _=>sv rfl (zac rfl (S.at 1 rfl) (S.bx 1 rfl) Tryz.underlying27 rfl (vs:=(aL b2 x2 y2)) zag rfl)) ?_
  refine sc (fun _ _ S _ hd=>sl rfl (rc1 Tryz.func27 (hd.v 1 rfl rfl)) (zsz (show Q1 60 (q2) ((aG b2 x2 y2)) _ from⟨b2,x2,y2,rfl,hq2,hk3,hk4,(S.num 0 rfl),(S.num 1 rfl)⟩) (by decide))) ?_
  refine sc (fun _ _ S _ hd=>sy rfl (zbc rfl (hd.v 0 rfl rfl) rfl (show Q1 60 (q1) ((aG b1 x1 y1)) _ from⟨b1,x1,y1,rfl,hq1,hk1,hk2,(S.num 2 rfl),(S.num 3 rfl)⟩) ((hd.r 2 rfl rfl)).any)) ?_
  refine sc (fun _ _ _ _ hd=>sl rfl (rc1 Tryz.func29 rfl) (zfu ((hd.r 3 rfl rfl)).row (by decide))) ?_
  exact sn
 ·intro a1 V4 S hB hf
  obtain⟨b3,x3,y3,hv1,hq3,hk5,hk6,ok5,ok6⟩:=hf.r 4 rfl rfl
  have S:=S.add hv1
  have S:=S.know ok5
  have S:=S.know ok6
  clear hf S0
  show wpList _ _ _ [_] _ _
  refine zap S (i:=2) (vs:=(aL b3 x3 y3)) rfl (fun ht=>zal rfl (S.at 1 rfl) (S.at 0 rfl) zag rfl (zta rfl) ht) (zta rfl) rfl rfl rfl (lb':=[⟨g1,27,(aL b1 x1 y1)⟩,⟨g2,27,(aL b2 x2 y2)⟩,⟨g3,27,(aL b3 x3 y3)⟩]) rfl (fun V5 S=>?_)
  refine hK2 _ _ ?_
  refine wp_ret ?_
  exact zaw rfl S (S.at 1 rfl) (i:=2) rfl Tryz.underlying27 rfl zag ⟨_,rfl,((show QT 121 (q1+(-q2)) ((aG b3 x3 y3)) _ from⟨b3,x3,y3,rfl,hq3,hk5,hk6,(S.num 1 rfl),(S.num 0 rfl)⟩)).to (zig q1 q2) (by decide),S.below⟩
theorem zlg (h1:Q1 K q1 v1 V)(h2:Q1 K' q2 v2 V)(b:K≤60)(b':K'≤60):Calls Tryz.prog 35 #[v1,v2] V (zai V (QT (max K 1+max K' 1+1) (q1 - q2))):=
 zbN (zsl (h1.to rfl b) (h2.to rfl b')) (fun _ _ h=>h.sml (zig q1 q2▸h1.sm.add h2.sm.neg))
theorem zsm {q1 q2:Rat}{v1 v2:Value}{V:World}(h1:Q1 60 (q1) v1 V)(h2:Q1 60 (q2) v2 V):
  Calls Tryz.prog 37 #[v1,v2] V (zai V (QT 123 ((q1+q2)/2))):=by
 obtain⟨b1,x1,y1,rfl,hq1,hk1,hk2,ok1,ok2⟩:=h1
 obtain⟨b2,x2,y2,rfl,hq2,hk3,hk4,ok3,ok4⟩:=h2
 refine zao (e:=[x2,y2,x1,y1]) Tryz.func37 rfl Tryz.ntmps37 (zta rfl) [(0,(aG b1 x1 y1)),(1,(aG b2 x2 y2))] rfl (zaa ok3 (zaa ok4 (zaa ok1 (zaa ok2 zaz)))) (fun a S=>?_)
 refine wp_seq_k fun K1 hK1=>?_
 refine zab ?_
 refine ti S (cs:=(aL b1 x1 y1)) (zar rfl (S.at 0 rfl) rfl) (fun g1=>[⟨g1,27,(aL b1 x1 y1)⟩]) fun g1 a V1 hgg1 S=>?_
 refine ti S (cs:=(aL b2 x2 y2)) (zar rfl (S.at 2 rfl) rfl) (fun g2=>[⟨g1,27,(aL b1 x1 y1)⟩,⟨g2,27,(aL b2 x2 y2)⟩]) fun g2 a V2 hgg2 S=>?_
 refine ti S (cs:=[.bool false,.slice none 0 0,.slice none 0 0]) (zas rfl (Tryz.zeroValue27 _) rfl) (fun g3=>[⟨g1,27,(aL b1 x1 y1)⟩,⟨g2,27,(aL b2 x2 y2)⟩,⟨g3,27,[.bool false,.slice none 0 0,.slice none 0 0]⟩]) fun g3 a V3 hgg3 S=>?_
 refine hK1 _ _ ?_
 refine wp_seq_k fun K2 hK2=>?_
 refine zab ?_
 refine tv S (zac rfl (S.at 2 rfl) (S.bx 0 rfl) Tryz.underlying27 rfl (vs:=(aL b1 x1 y1)) zag rfl) fun a S=>?_
 refine tv S (zac rfl (S.at 2 rfl) (S.bx 1 rfl) Tryz.underlying27 rfl (vs:=(aL b2 x2 y2)) zag rfl) fun a S=>?_
 refine ty S (F:=QL 60 6 ([q1,q2])) (zbc rfl (S.at 1 rfl) (S.at 0 rfl) (show Q1 60 (q1) ((aG b1 x1 y1)) _ from⟨b1,x1,y1,rfl,hq1,hk1,hk2,(S.num 2 rfl),(S.num 3 rfl)⟩) (show Q1 60 (q2) ((aG b2 x2 y2)) _ from⟨b2,x2,y2,rfl,hq2,hk3,hk4,(S.num 0 rfl),(S.num 1 rfl)⟩)) fun v a V4 hF hb S=>?_
 obtain⟨ov1,hov1⟩:∃z,z=v:=⟨_,rfl⟩
 rw[←hov1]at hF S
 have rov1:=hF
 refine tc S (F:=QT 121 (q1+q2)) (rc1 Tryz.func29 (S.at 0 rfl)) (zfu (rov1).row (by decide)) fun v a V5 hF hb S=>?_
 replace rov1:=rov1.keep hb
 obtain⟨b3,x3,y3,rfl,hq3,hk5,hk6,ok5,ok6⟩:=hF
 have S:=S.know ok5
 have S:=S.know ok6
 refine tc S (F:=QT 2 ((2:Int))) (rcc Tryz.func23) (zg4 (n:=2) (by decide)) fun v a V6 hF hb S=>?_
 replace rov1:=rov1.keep hb
 obtain⟨b4,x4,y4,rfl,hq4,hk7,hk8,ok7,ok8⟩:=hF
 have S:=S.know ok7
 have S:=S.know ok8
 refine tc S (F:=QE 123 ((q1+q2)/(2:Int)) (erq (2:Int))) (rc2 Tryz.func14 (S.at 1 rfl) (S.at 0 rfl)) (zsk (show QT 121 (q1+q2) ((aG b3 x3 y3)) _ from⟨b3,x3,y3,rfl,hq3,hk5,hk6,(S.num 3 rfl),(S.num 2 rfl)⟩).any (show QT 2 ((2:Int)) ((aG b4 x4 y4)) _ from⟨b4,x4,y4,rfl,hq4,hk7,hk8,(S.num 1 rfl),(S.num 0 rfl)⟩).any (by decide) (by decide)) fun v a V7 hF hb S=>?_
 replace rov1:=rov1.keep hb
 obtain⟨b5,x5,y5,rfl,hq5,hk9,hk10,ok9,ok10⟩:=hF
 have S:=S.know ok9
 have S:=S.know ok10
 refine tv S (zad rfl (S.at 0 rfl)) fun a S=>?_
 refine tv S (zbf rfl (S.at 0 rfl) rfl) fun a S=>?_
 refine tv S (zbf rfl (S.at 1 rfl) rfl) fun a S=>?_
 refine ti S (cs:=[.bool false,.slice none 0 0,.slice none 0 0]) (zas rfl (Tryz.zeroValue27 _) rfl) (fun g4=>[⟨g1,27,(aL b1 x1 y1)⟩,⟨g2,27,(aL b2 x2 y2)⟩,⟨g3,27,[.bool false,.slice none 0 0,.slice none 0 0]⟩,⟨g4,27,[.bool false,.slice none 0 0,.slice none 0 0]⟩]) fun g4 a V8 hgg4 S=>?_
 refine zap S (i:=3) (vs:=(aL b5 x5 y5)) rfl (fun ht=>zal rfl (S.at 0 rfl) (S.at 2 rfl) zag rfl (zta rfl) ht) (zta rfl) rfl rfl rfl (lb':=[⟨g1,27,(aL b1 x1 y1)⟩,⟨g2,27,(aL b2 x2 y2)⟩,⟨g3,27,[.bool false,.slice none 0 0,.slice none 0 0]⟩,⟨g4,27,(aL b5 x5 y5)⟩]) rfl (fun V9 S=>?_)
 refine tv S (zan rfl (S.at 1 rfl)) fun a S=>?_
 refine hK2 _ _ ?_
 refine wp_seq_k fun K3 hK3=>?_
 have S:=S.keep [5,4] (ls':=[(5,pT g4 0),(4,pT g3 0)]) rfl
 refine zab ?_
 refine tv S (zac rfl (S.at 0 rfl) (S.bx 3 rfl) Tryz.underlying27 rfl (vs:=(aL b5 x5 y5)) zag rfl) fun a S=>?_
 refine zap S (i:=2) (vs:=(aL b5 x5 y5)) rfl (fun ht=>zal rfl (S.at 2 rfl) (S.at 0 rfl) zag rfl (zta rfl) ht) (zta rfl) rfl rfl rfl (lb':=[⟨g1,27,(aL b1 x1 y1)⟩,⟨g2,27,(aL b2 x2 y2)⟩,⟨g3,27,(aL b5 x5 y5)⟩,⟨g4,27,(aL b5 x5 y5)⟩]) rfl (fun V10 S=>?_)
 refine hK3 _ _ ?_
 refine wp_ret ?_
 exact zaw rfl S (S.at 2 rfl) (i:=2) rfl Tryz.underlying27 rfl zag ⟨_,rfl,((show QT 123 ((q1+q2)/(2:Int)) ((aG b5 x5 y5)) _ from⟨b5,x5,y5,rfl,hq5,hk9,hk10,(S.num 1 rfl),(S.num 0 rfl)⟩)).to rfl (by decide),S.below⟩
theorem zsn (h1:Q1 K q1 v1 V)(h2:Q1 K' q2 v2 V)(b:K≤60)(b':K'≤60):Calls Tryz.prog 37 #[v1,v2] V (zai V (QT (max K 1+max K' 1+1+1) ((q1+q2)/2))):=
 zbN (zsm (h1.to rfl b) (h2.to rfl b')) (fun _ _ h=>h.sml ((h1.sm.add h2.sm).quo (⟨by show(2:Nat)<_;rw[za0];decide,by show(1:Nat)<_;rw[za0];decide⟩:Sm 1 2)))
end Go.Proofs.YtafokgknenienaaGreatDoor
