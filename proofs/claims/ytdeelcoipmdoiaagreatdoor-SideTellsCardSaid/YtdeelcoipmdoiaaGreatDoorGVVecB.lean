/- A part. -/
import Derived.Test.YtdeelcoipmdoiaaGreatDoorGVVec
set_option maxHeartbeats 4000000
set_option maxRecDepth 100000
namespace Go.Proofs.YtdeelcoipmdoiaaGreatDoor
open Go Go.RowKit
variable {v v1 v2:Value}{V:World}{K K':Nat}{q q' q1 q1' q2 q2':Rat}
theorem zq7 {q1 q1' q2 q2':Rat}{v1 v2:Value}{V:World}(h1:P1 349 (q1) (q1') v1 V)(h2:P1 349 (q2) (q2') v2 V)(hs0:Sm 349 (q1 - q2))(hs1:Sm 349 (q1' - q2')):
  Calls Tryz.prog 41 #[v1,v2] V (zaj V (PT 349 (q1 - q2) (q1' - q2'))):=by
 obtain⟨b1,x1,y1,b2,x2,y2,rfl,hq1,hq2,⟨hk1,hk2⟩,⟨hk3,hk4⟩,⟨ok1,ok2⟩,ok3,ok4⟩:=h1
 obtain⟨b3,x3,y3,b4,x4,y4,rfl,hq3,hq4,⟨hk5,hk6⟩,⟨hk7,hk8⟩,⟨ok5,ok6⟩,ok7,ok8⟩:=h2
 refine fb Tryz.func41 Tryz.ntmps41 (zaa ok5 (zaa ok6 (zaa ok7 (zaa ok8 (zaa ok1 (zaa ok2 (zaa ok3 (zaa ok4 zaC)))))))) (fun a S=>?_)
 refine wsp fun K1 hK1=>?_
 refine tb S 0 (lP b1 x1 y1 b2 x2 y2) fun g1 a V1 hgg1 S=>?_
 refine tb S 2 (lP b3 x3 y3 b4 x4 y4) fun g2 a V2 hgg2 S=>?_
 refine ti S (cs:=lY) (zay rfl (Tryz.zeroValue29 _) rfl) (fun g3=>[⟨g1,29,(lP b1 x1 y1 b2 x2 y2)⟩,⟨g2,29,(lP b3 x3 y3 b4 x4 y4)⟩,⟨g3,29,lY⟩]) fun g3 a V3 hgg3 S=>?_
 refine hK1 _ _ ?_
 refine wp_seq_k fun K2 hK2=>?_
 obtain⟨W1,hW1⟩:∃W,W=V3:=⟨_,rfl⟩
 rw[←hW1]at S ⊢
 have S0:=S
 refine fr 11 [5,6,7,8,9,10,11,12,13,14,15] [IsV (pT g1 0),IsV ((aG b1 x1 y1)),IsV (pT g2 0),IsV ((aG b3 x3 y3)),QT 349 (q1 - q2),IsV (pT g1 3),IsV ((aG b2 x2 y2)),IsV (pT g2 3),IsV ((aG b4 x4 y4)),QT 349 ((q1') - (q2')),PT 349 (q1 - q2) ((q1') - (q2'))] S ?_ ?_
 ·refine sc (fun _ _ S _ _=>sv rfl (zae rfl (S.at 2 rfl) (zaT _))) ?_
  refine sc (fun _ _ S _ hd=>sv rfl (zak rfl (hd.v 0 rfl rfl) (S.bx 0 rfl) Tryz.underlying27 rfl (vs:=(aL b1 x1 y1)) zas rfl)) ?_
  refine sc (fun _ _ S _ _=>sv rfl (zae rfl (S.at 1 rfl) (zaT _))) ?_
  refine sc (fun _ _ S _ hd=>sv rfl (zak rfl (hd.v 2 rfl rfl) (S.bx 1 rfl) Tryz.underlying27 rfl (vs:=(aL b3 x3 y3)) zas rfl)) ?_
  refine sc (fun _ _ S _ hd=>sl rfl (rc2 Tryz.func68 (hd.v 1 rfl rfl) (hd.v 3 rfl rfl)) (zpU (q2m S 4 hq1 hk1 hk2) (q2m S 0 hq3 hk5 hk6) (by decide) (by decide) (by assumption) (by decide))) ?_
  refine sc (fun _ _ S _ _=>sv rfl (zae rfl (S.at 2 rfl) (za8 _))) ?_
  refine sc (fun _ _ S _ hd=>sv rfl (zak rfl (hd.v 5 rfl rfl) (S.bx 0 rfl) Tryz.underlying27 rfl (vs:=(aL b2 x2 y2)) zas rfl)) ?_
  refine sc (fun _ _ S _ _=>sv rfl (zae rfl (S.at 1 rfl) (za8 _))) ?_
  refine sc (fun _ _ S _ hd=>sv rfl (zak rfl (hd.v 7 rfl rfl) (S.bx 1 rfl) Tryz.underlying27 rfl (vs:=(aL b4 x4 y4)) zas rfl)) ?_
  refine sc (fun _ _ S _ hd=>sl rfl (rc2 Tryz.func68 (hd.v 6 rfl rfl) (hd.v 8 rfl rfl)) (zpU (q2m S 6 hq2 hk3 hk4) (q2m S 2 hq4 hk7 hk8) (by decide) (by decide) (by assumption) (by decide))) ?_
  refine sc (fun _ _ _ _ hd=>by
   obtain⟨v,hv,hq⟩:=zuH (hd.r 4 rfl rfl) (hd.r 9 rfl rfl)
   exact sv rfl (zbo rfl rfl rfl hv) hq) ?_
  exact sn
 ·intro a1 V4 S hB hf
  obtain⟨b5,x5,y5,b6,x6,y6,hv1,hq5,hq6,⟨hk9,hk10⟩,⟨hk11,hk12⟩,⟨ok9,ok10⟩,ok11,ok12⟩:=hf.r 10 rfl rfl
  have S:=S.add hv1
  have S:=S.know ok9
  have S:=S.know ok10
  have S:=S.know ok11
  have S:=S.know ok12
  clear hf S0
  show wpList _ _ _ [_] _ _
  refine zaB S (i:=2) (vs:=(lP b5 x5 y5 b6 x6 y6)) rfl (fun ht=>zaw rfl (S.at 1 rfl) (S.at 0 rfl) zba rfl (zu0 rfl) ht) (zu0 rfl) rfl rfl rfl (lb':=[⟨g1,29,(lP b1 x1 y1 b2 x2 y2)⟩,⟨g2,29,(lP b3 x3 y3 b4 x4 y4)⟩,⟨g3,29,(lP b5 x5 y5 b6 x6 y6)⟩]) rfl (fun V5 S=>?_)
  refine hK2 _ _ ?_
  refine wp_ret ?_
  exact zaW rfl S (S.at 1 rfl) (i:=2) rfl Tryz.underlying29 rfl zba ⟨_,rfl,((show PT 349 (q1 - q2) ((q1') - (q2')) ((aP b5 x5 y5 b6 x6 y6)) _ from⟨b5,x5,y5,b6,x6,y6,rfl,hq5,hq6,⟨hk9,hk10⟩,⟨hk11,hk12⟩,⟨(S.num 3 rfl),(S.num 2 rfl)⟩,(S.num 1 rfl),(S.num 0 rfl)⟩)).to rfl rfl (by omega),S.below⟩
theorem zsm {q1 q1' q2 q2':Rat}{v1 v2:Value}{V:World}(h1:P1 349 (q1) (q1') v1 V)(h2:P1 349 (q2) (q2') v2 V)(hs0:Sm 349 (q1*q2'))(hs1:Sm 349 (q1'*q2))(hs2:Sm 349 (q1*q2' - q1'*q2)):
  Calls Tryz.prog 40 #[v1,v2] V (zaj V (QT 349 (q1*q2' - q1'*q2))):=by
 obtain⟨b1,x1,y1,b2,x2,y2,rfl,hq1,hq2,⟨hk1,hk2⟩,⟨hk3,hk4⟩,⟨ok1,ok2⟩,ok3,ok4⟩:=h1
 obtain⟨b3,x3,y3,b4,x4,y4,rfl,hq3,hq4,⟨hk5,hk6⟩,⟨hk7,hk8⟩,⟨ok5,ok6⟩,ok7,ok8⟩:=h2
 refine fb Tryz.func40 Tryz.ntmps40 (zaa ok5 (zaa ok6 (zaa ok7 (zaa ok8 (zaa ok1 (zaa ok2 (zaa ok3 (zaa ok4 zaC)))))))) (fun a S=>?_)
 refine wsp fun K1 hK1=>?_
 refine tb S 0 (lP b1 x1 y1 b2 x2 y2) fun g1 a V1 hgg1 S=>?_
 refine tb S 2 (lP b3 x3 y3 b4 x4 y4) fun g2 a V2 hgg2 S=>?_
 refine ti S (cs:=lZ) (zay rfl (Tryz.zeroValue27 _) rfl) (fun g3=>[⟨g1,29,(lP b1 x1 y1 b2 x2 y2)⟩,⟨g2,29,(lP b3 x3 y3 b4 x4 y4)⟩,⟨g3,27,lZ⟩]) fun g3 a V3 hgg3 S=>?_
 refine hK1 _ _ ?_
 refine wp_seq_k fun K2 hK2=>?_
 obtain⟨W1,hW1⟩:∃W,W=V3:=⟨_,rfl⟩
 rw[←hW1]at S ⊢
 have S0:=S
 refine fr 13 [5,6,7,8,9,10,11,12,13,14,15,16,17] [IsV (pT g1 0),IsV ((aG b1 x1 y1)),IsV (pT g2 3),IsV ((aG b4 x4 y4)),QL 349 6 ([q1,q2']),QT 349 (q1*(q2')),IsV (pT g1 3),IsV ((aG b2 x2 y2)),IsV (pT g2 0),IsV ((aG b3 x3 y3)),QL 349 6 ([q1',q2]),QT 349 ((q1')*q2),QT 349 ((q1*(q2')) - ((q1')*q2))] S ?_ ?_
 ·refine sc (fun _ _ S _ _=>sv rfl (zae rfl (S.at 2 rfl) (zaT _))) ?_
  refine sc (fun _ _ S _ hd=>sv rfl (zak rfl (hd.v 0 rfl rfl) (S.bx 0 rfl) Tryz.underlying27 rfl (vs:=(aL b1 x1 y1)) zas rfl)) ?_
  refine sc (fun _ _ S _ _=>sv rfl (zae rfl (S.at 1 rfl) (za8 _))) ?_
  refine sc (fun _ _ S _ hd=>sv rfl (zak rfl (hd.v 2 rfl rfl) (S.bx 1 rfl) Tryz.underlying27 rfl (vs:=(aL b4 x4 y4)) zas rfl)) ?_
  refine sc (fun _ _ S _ hd=>sy rfl (zet rfl (hd.v 1 rfl rfl) (hd.v 3 rfl rfl) (q2m S 4 hq1 hk1 hk2) (q2m S 2 hq4 hk7 hk8))) ?_
  refine sc (fun _ _ _ _ hd=>sl rfl (rc1 Tryz.func69 rfl) (zpT ((hd.r 4 rfl rfl)).row (by decide) (by assumption))) ?_
  refine sc (fun _ _ S _ _=>sv rfl (zae rfl (S.at 2 rfl) (za8 _))) ?_
  refine sc (fun _ _ S _ hd=>sv rfl (zak rfl (hd.v 6 rfl rfl) (S.bx 0 rfl) Tryz.underlying27 rfl (vs:=(aL b2 x2 y2)) zas rfl)) ?_
  refine sc (fun _ _ S _ _=>sv rfl (zae rfl (S.at 1 rfl) (zaT _))) ?_
  refine sc (fun _ _ S _ hd=>sv rfl (zak rfl (hd.v 8 rfl rfl) (S.bx 1 rfl) Tryz.underlying27 rfl (vs:=(aL b3 x3 y3)) zas rfl)) ?_
  refine sc (fun _ _ S _ hd=>sy rfl (zet rfl (hd.v 7 rfl rfl) (hd.v 9 rfl rfl) (q2m S 6 hq2 hk3 hk4) (q2m S 0 hq3 hk5 hk6))) ?_
  refine sc (fun _ _ _ _ hd=>sl rfl (rc1 Tryz.func69 rfl) (zpT ((hd.r 10 rfl rfl)).row (by decide) (by assumption))) ?_
  refine sc (fun _ _ _ _ hd=>sl rfl (rc2 Tryz.func68 rfl rfl) (zpU ((hd.r 5 rfl rfl)).any ((hd.r 11 rfl rfl)).any (by decide) (by decide) (by assumption) (by decide))) ?_
  exact sn
 ·intro a1 V4 S hB hf
  obtain⟨b5,x5,y5,hv1,hq5,hk9,hk10,ok9,ok10⟩:=hf.r 12 rfl rfl
  have S:=S.add hv1
  have S:=S.know ok9
  have S:=S.know ok10
  clear hf S0
  show wpList _ _ _ [_] _ _
  refine zaB S (i:=2) (vs:=(aL b5 x5 y5)) rfl (fun ht=>zaw rfl (S.at 1 rfl) (S.at 0 rfl) zas rfl (zu0 rfl) ht) (zu0 rfl) rfl rfl rfl (lb':=[⟨g1,29,(lP b1 x1 y1 b2 x2 y2)⟩,⟨g2,29,(lP b3 x3 y3 b4 x4 y4)⟩,⟨g3,27,(aL b5 x5 y5)⟩]) rfl (fun V5 S=>?_)
  refine hK2 _ _ ?_
  refine wp_ret ?_
  exact zaW rfl S (S.at 1 rfl) (i:=2) rfl Tryz.underlying27 rfl zas ⟨_,rfl,((show QT 349 ((q1*(q2')) - ((q1')*q2)) ((aG b5 x5 y5)) _ from⟨b5,x5,y5,rfl,hq5,hk9,hk10,(S.num 1 rfl),(S.num 0 rfl)⟩)).to rfl (by omega),S.below⟩
theorem ztV {q1 q1' q2 q2':Rat}{v1 v2:Value}{V:World}(h1:P1 349 (q1) (q1') v1 V)(h2:P1 349 (q2) (q2') v2 V):
  Calls Tryz.prog 60 #[v1,v2] V (zaj V (fun v _=>v= .int .i64 (zaQ q1 q1' q2 q2'))):=by
 obtain⟨b1,x1,y1,b2,x2,y2,rfl,hq1,hq2,⟨hk1,hk2⟩,⟨hk3,hk4⟩,⟨ok1,ok2⟩,ok3,ok4⟩:=h1
 obtain⟨b3,x3,y3,b4,x4,y4,rfl,hq3,hq4,⟨hk5,hk6⟩,⟨hk7,hk8⟩,⟨ok5,ok6⟩,ok7,ok8⟩:=h2
 refine fb Tryz.func60 Tryz.ntmps60 (zaa ok5 (zaa ok6 (zaa ok7 (zaa ok8 (zaa ok1 (zaa ok2 (zaa ok3 (zaa ok4 zaC)))))))) (fun a S=>?_)
 refine wsp fun K1 hK1=>?_
 refine tb S 0 (lP b1 x1 y1 b2 x2 y2) fun g1 a V1 hgg1 S=>?_
 refine tb S 2 (lP b3 x3 y3 b4 x4 y4) fun g2 a V2 hgg2 S=>?_
 refine ac S fun a S=>?_
 refine hK1 _ _ ?_
 refine wsp fun K2 hK2=>?_
 refine tv S (zae rfl (S.at 2 rfl) (zaT _)) fun a S=>?_
 refine tv S (zak rfl (S.at 0 rfl) (S.bx 0 rfl) Tryz.underlying27 rfl (vs:=(aL b1 x1 y1)) zas rfl) fun a S=>?_
 refine tv S (zae rfl (S.at 3 rfl) (zaT _)) fun a S=>?_
 refine tv S (zak rfl (S.at 0 rfl) (S.bx 1 rfl) Tryz.underlying27 rfl (vs:=(aL b3 x3 y3)) zas rfl) fun a S=>?_
 refine tc S (rc2 Tryz.func31 (S.at 2 rfl) (S.at 0 rfl)) (zkw (q2m S 4 hq1 hk1 hk2) (q2m S 0 hq3 hk5 hk6) (by decide) (by decide)) fun v a V3 hF hb S=>?_
 subst hF
 refine tv S (zac rfl (S.at 0 rfl)) fun a S=>?_
 refine hK2 _ _ ?_
 refine wp_seq_k fun K3 hK3=>?_
 refine wsp fun K4 hK4=>?_
 refine mv S 0 fun a S=>?_
 refine tv S (zd6 _ (by decide) rfl (S.at 0 rfl) rfl) fun a S=>?_
 refine hK4 _ _ ?_
 rcases zva (!decide (zag q1 q2=0))with hc12|hc12
 ·refine wp_cond_true ((S.at 0 rfl).trans (congrArg Value.bool hc12)) ?_
  refine wsp fun K5 hK5=>?_
  refine mv S 2 fun a S=>?_
  refine zav S (v:= .int .i64 (zag q1 q2)) (zac rfl (S.at 0 rfl)) rfl rfl (by decide) (ls':=[(13,.int .i64 (zag q1 q2)),(12,.bool (!decide (zag q1 q2=0))),(11,.int .i64 (zag q1 q2)),(5,.int .i64 (zag q1 q2)),(10,.int .i64 (zag q1 q2)),(9,(aG b3 x3 y3)),(8,pT g2 0),(7,(aG b1 x1 y1)),(6,pT g1 0),(3,pT g2 0),(2,pT g1 0),(0,(aP b1 x1 y1 b2 x2 y2)),(1,(aP b3 x3 y3 b4 x4 y4))]) rfl (fun a S=>?_)
  refine hK5 _ _ ?_
  refine wp_ret ?_
  exact zao rfl S (S.at 0 rfl) ⟨_,rfl,congrArg (Value.int .i64) (zq5 hc12),S.below⟩
 ·refine wp_cond_false ((S.at 0 rfl).trans (congrArg Value.bool hc12)) ?_
  refine wp_skip ?_
  refine hK3 _ _ ?_
  refine wsp fun K6 hK6=>?_
  refine tv S (zae rfl (S.at 10 rfl) (za8 _)) fun a S=>?_
  refine tv S (zak rfl (S.at 0 rfl) (S.bx 0 rfl) Tryz.underlying27 rfl (vs:=(aL b2 x2 y2)) zas rfl) fun a S=>?_
  refine tv S (zae rfl (S.at 11 rfl) (za8 _)) fun a S=>?_
  refine tv S (zak rfl (S.at 0 rfl) (S.bx 1 rfl) Tryz.underlying27 rfl (vs:=(aL b4 x4 y4)) zas rfl) fun a S=>?_
  refine tc S (rc2 Tryz.func31 (S.at 2 rfl) (S.at 0 rfl)) (zkw (q2m S 6 hq2 hk3 hk4) (q2m S 2 hq4 hk7 hk8) (by decide) (by decide)) fun v a V4 hF hb S=>?_
  subst hF
  refine zav S (v:= .int .i64 (zag (q1') (q2'))) (zac rfl (S.at 0 rfl)) rfl rfl (by decide) (ls':=[(18,.int .i64 (zag (q1') (q2'))),(17,(aG b4 x4 y4)),(16,pT g2 3),(15,(aG b2 x2 y2)),(14,pT g1 3),(12,.bool (!decide (zag q1 q2=0))),(11,.int .i64 (zag q1 q2)),(5,.int .i64 (zag q1 q2)),(10,.int .i64 (zag q1 q2)),(9,(aG b3 x3 y3)),(8,pT g2 0),(7,(aG b1 x1 y1)),(6,pT g1 0),(3,pT g2 0),(2,pT g1 0),(0,(aP b1 x1 y1 b2 x2 y2)),(1,(aP b3 x3 y3 b4 x4 y4))]) rfl (fun a S=>?_)
  refine hK6 _ _ ?_
  refine wp_ret ?_
  exact zao rfl S (S.at 0 rfl) ⟨_,rfl,congrArg (Value.int .i64) (zq6 hc12),S.below⟩
theorem zdg {q1 q1' q2 q2':Rat}{v1 v2:Value}{V:World}(h1:P1 349 (q1) (q1') v1 V)(h2:P1 349 (q2) (q2') v2 V):
  Calls Tryz.prog 33 #[v1,v2] V (zaj V (fun v _=>v= .bool (decide (zaQ q1 q1' q2 q2'=0)))):=by
 obtain⟨b1,x1,y1,b2,x2,y2,rfl,hq1,hq2,⟨hk1,hk2⟩,⟨hk3,hk4⟩,⟨ok1,ok2⟩,ok3,ok4⟩:=h1
 obtain⟨b3,x3,y3,b4,x4,y4,rfl,hq3,hq4,⟨hk5,hk6⟩,⟨hk7,hk8⟩,⟨ok5,ok6⟩,ok7,ok8⟩:=h2
 refine fb Tryz.func33 Tryz.ntmps33 (zaa ok5 (zaa ok6 (zaa ok7 (zaa ok8 (zaa ok1 (zaa ok2 (zaa ok3 (zaa ok4 zaC)))))))) (fun a S=>?_)
 refine wsp fun K1 hK1=>?_
 refine tb S 0 (lP b1 x1 y1 b2 x2 y2) fun g1 a V1 hgg1 S=>?_
 refine tb S 2 (lP b3 x3 y3 b4 x4 y4) fun g2 a V2 hgg2 S=>?_
 refine ac S fun a S=>?_
 refine hK1 _ _ ?_
 refine wsp fun K2 hK2=>?_
 refine tv S (zak rfl (S.at 2 rfl) (S.bx 0 rfl) Tryz.underlying29 rfl (vs:=(lP b1 x1 y1 b2 x2 y2)) zba rfl) fun a S=>?_
 refine tv S (zak rfl (S.at 2 rfl) (S.bx 1 rfl) Tryz.underlying29 rfl (vs:=(lP b3 x3 y3 b4 x4 y4)) zba rfl) fun a S=>?_
 refine tc S (rc2 Tryz.func60 (S.at 1 rfl) (S.at 0 rfl)) (ztV (show P1 349 (q1) (q1') ((aP b1 x1 y1 b2 x2 y2)) _ from⟨b1,x1,y1,b2,x2,y2,rfl,hq1,hq2,⟨hk1,hk2⟩,⟨hk3,hk4⟩,⟨(S.num 4 rfl),(S.num 5 rfl)⟩,(S.num 6 rfl),(S.num 7 rfl)⟩) (show P1 349 (q2) (q2') ((aP b3 x3 y3 b4 x4 y4)) _ from⟨b3,x3,y3,b4,x4,y4,rfl,hq3,hq4,⟨hk5,hk6⟩,⟨hk7,hk8⟩,⟨(S.num 0 rfl),(S.num 1 rfl)⟩,(S.num 2 rfl),(S.num 3 rfl)⟩)) fun v a V3 hF hb S=>?_
 subst hF
 refine tv S (zbG _ (by decide) rfl (S.at 0 rfl) rfl) fun a S=>?_
 refine zav S (v:= .bool (decide (zaQ q1 (q1') q2 (q2')=0))) (zac rfl (S.at 0 rfl)) rfl rfl (by decide) (ls':=[(8,.bool (decide (zaQ q1 (q1') q2 (q2')=0))),(7,.int .i64 (zaQ q1 (q1') q2 (q2'))),(6,(aP b3 x3 y3 b4 x4 y4)),(5,(aP b1 x1 y1 b2 x2 y2)),(3,pT g2 0),(2,pT g1 0),(0,(aP b1 x1 y1 b2 x2 y2)),(1,(aP b3 x3 y3 b4 x4 y4))]) rfl (fun a S=>?_)
 refine hK2 _ _ ?_
 refine wp_ret ?_
 exact zao rfl S (S.at 0 rfl) ⟨_,rfl,rfl,S.below⟩
end Go.Proofs.YtdeelcoipmdoiaaGreatDoor
