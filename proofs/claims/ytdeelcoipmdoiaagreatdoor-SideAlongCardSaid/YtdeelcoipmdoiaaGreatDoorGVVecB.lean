/- A part. -/
import Derived.Test.YtdeelcoipmdoiaaGreatDoorGVVec
set_option maxHeartbeats 4000000
set_option maxRecDepth 100000
namespace Go.Proofs.YtdeelcoipmdoiaaGreatDoor
open Go Go.RowKit
variable {v v1 v2:Value}{V:World}{K K':Nat}{q q' q1 q1' q2 q2':Rat}
theorem zsW {q1 q1' q2 q2':Rat}{v1 v2:Value}{V:World}(h1:P1 349 (q1) (q1') v1 V)(h2:P1 349 (q2) (q2') v2 V)(hs0:Sm 349 (q1+q2))(hs1:Sm 349 (q1'+q2')):
  Calls Tryz.prog 25 #[v1,v2] V (zal V (PT 349 (q1+q2) (q1'+q2'))):=by
 obtain⟨b1,x1,y1,b2,x2,y2,rfl,hq1,hq2,⟨hk1,hk2⟩,⟨hk3,hk4⟩,⟨ok1,ok2⟩,ok3,ok4⟩:=h1
 obtain⟨b3,x3,y3,b4,x4,y4,rfl,hq3,hq4,⟨hk5,hk6⟩,⟨hk7,hk8⟩,⟨ok5,ok6⟩,ok7,ok8⟩:=h2
 refine zav (e:=[x3,y3,x4,y4,x1,y1,x2,y2]) Tryz.func25 rfl Tryz.ntmps25 (zt2 rfl) [(0,(aP b1 x1 y1 b2 x2 y2)),(1,(aP b3 x3 y3 b4 x4 y4))] rfl (zaa ok5 (zaa ok6 (zaa ok7 (zaa ok8 (zaa ok1 (zaa ok2 (zaa ok3 (zaa ok4 zaN)))))))) (fun a S=>?_)
 refine wp_seq_k fun K1 hK1=>?_
 refine zab ?_
 refine ti S (cs:=(lP b1 x1 y1 b2 x2 y2)) (zaw rfl (S.at 0 rfl) rfl) (fun g1=>[⟨g1,29,(lP b1 x1 y1 b2 x2 y2)⟩]) fun g1 a V1 hgg1 S=>?_
 refine ti S (cs:=(lP b3 x3 y3 b4 x4 y4)) (zaw rfl (S.at 2 rfl) rfl) (fun g2=>[⟨g1,29,(lP b1 x1 y1 b2 x2 y2)⟩,⟨g2,29,(lP b3 x3 y3 b4 x4 y4)⟩]) fun g2 a V2 hgg2 S=>?_
 refine ti S (cs:=[.bool false,.slice none 0 0,.slice none 0 0,.bool false,.slice none 0 0,.slice none 0 0]) (zaz rfl (Tryz.zeroValue29 _) rfl) (fun g3=>[⟨g1,29,(lP b1 x1 y1 b2 x2 y2)⟩,⟨g2,29,(lP b3 x3 y3 b4 x4 y4)⟩,⟨g3,29,[.bool false,.slice none 0 0,.slice none 0 0,.bool false,.slice none 0 0,.slice none 0 0]⟩]) fun g3 a V3 hgg3 S=>?_
 refine hK1 _ _ ?_
 refine wp_seq_k fun K2 hK2=>?_
 obtain⟨W1,hW1⟩:∃W,W=V3:=⟨_,rfl⟩
 rw[←hW1]at S ⊢
 have S0:=S
 refine fr 13 [5,6,7,8,9,10,11,12,13,14,15,16,17] [IsV (pT g1 0),IsV ((aG b1 x1 y1)),IsV (pT g2 0),IsV ((aG b3 x3 y3)),QL 349 6 ([q1,q2]),QT 349 (q1+q2),IsV (pT g1 3),IsV ((aG b2 x2 y2)),IsV (pT g2 3),IsV ((aG b4 x4 y4)),QL 349 6 ([q1',q2']),QT 349 ((q1')+(q2')),PT 349 (q1+q2) ((q1')+(q2'))] S ?_ ?_
 ·refine sc (fun _ _ S _ _=>sv rfl (zaf rfl (S.at 2 rfl) (zbf _))) ?_
  refine sc (fun _ _ S _ hd=>sv rfl (zaj rfl (hd.v 0 rfl rfl) (S.bx 0 rfl) Tryz.underlying27 rfl (vs:=(aL b1 x1 y1)) zar rfl)) ?_
  refine sc (fun _ _ S _ _=>sv rfl (zaf rfl (S.at 1 rfl) (zbf _))) ?_
  refine sc (fun _ _ S _ hd=>sv rfl (zaj rfl (hd.v 2 rfl rfl) (S.bx 1 rfl) Tryz.underlying27 rfl (vs:=(aL b3 x3 y3)) zar rfl)) ?_
  refine sc (fun _ _ S _ hd=>sy rfl (zdf rfl (hd.v 1 rfl rfl) (hd.v 3 rfl rfl) (show Q1 349 (q1) ((aG b1 x1 y1)) _ from⟨b1,x1,y1,rfl,hq1,hk1,hk2,(S.num 4 rfl),(S.num 5 rfl)⟩) (show Q1 349 (q2) ((aG b3 x3 y3)) _ from⟨b3,x3,y3,rfl,hq3,hk5,hk6,(S.num 0 rfl),(S.num 1 rfl)⟩))) ?_
  refine sc (fun _ _ _ _ hd=>sl rfl (rc1 Tryz.func27 rfl) (zkY ((hd.r 4 rfl rfl)).row (by decide) (by assumption))) ?_
  refine sc (fun _ _ S _ _=>sv rfl (zaf rfl (S.at 2 rfl) (zbm _))) ?_
  refine sc (fun _ _ S _ hd=>sv rfl (zaj rfl (hd.v 6 rfl rfl) (S.bx 0 rfl) Tryz.underlying27 rfl (vs:=(aL b2 x2 y2)) zar rfl)) ?_
  refine sc (fun _ _ S _ _=>sv rfl (zaf rfl (S.at 1 rfl) (zbm _))) ?_
  refine sc (fun _ _ S _ hd=>sv rfl (zaj rfl (hd.v 8 rfl rfl) (S.bx 1 rfl) Tryz.underlying27 rfl (vs:=(aL b4 x4 y4)) zar rfl)) ?_
  refine sc (fun _ _ S _ hd=>sy rfl (zdf rfl (hd.v 7 rfl rfl) (hd.v 9 rfl rfl) (show Q1 349 (q1') ((aG b2 x2 y2)) _ from⟨b2,x2,y2,rfl,hq2,hk3,hk4,(S.num 6 rfl),(S.num 7 rfl)⟩) (show Q1 349 (q2') ((aG b4 x4 y4)) _ from⟨b4,x4,y4,rfl,hq4,hk7,hk8,(S.num 2 rfl),(S.num 3 rfl)⟩))) ?_
  refine sc (fun _ _ _ _ hd=>sl rfl (rc1 Tryz.func27 rfl) (zkY ((hd.r 10 rfl rfl)).row (by decide) (by assumption))) ?_
  refine sc (fun _ _ _ _ hd=>by
   obtain⟨v,hv,hq⟩:=zp2 (hd.r 5 rfl rfl) (hd.r 11 rfl rfl)
   exact sv rfl (za8 rfl rfl rfl hv) hq) ?_
  exact sn
 ·intro a1 V4 S hB hf
  obtain⟨b5,x5,y5,b6,x6,y6,hv1,hq5,hq6,⟨hk9,hk10⟩,⟨hk11,hk12⟩,⟨ok9,ok10⟩,ok11,ok12⟩:=hf.r 12 rfl rfl
  have S:=S.add hv1
  have S:=S.know ok9
  have S:=S.know ok10
  have S:=S.know ok11
  have S:=S.know ok12
  clear hf S0
  show wpList _ _ _ [_] _ _
  refine zaD S (i:=2) (vs:=(lP b5 x5 y5 b6 x6 y6)) rfl (fun ht=>zay rfl (S.at 1 rfl) (S.at 0 rfl) zaZ rfl (zt2 rfl) ht) (zt2 rfl) rfl rfl rfl (lb':=[⟨g1,29,(lP b1 x1 y1 b2 x2 y2)⟩,⟨g2,29,(lP b3 x3 y3 b4 x4 y4)⟩,⟨g3,29,(lP b5 x5 y5 b6 x6 y6)⟩]) rfl (fun V5 S=>?_)
  refine hK2 _ _ ?_
  refine wp_ret ?_
  exact zaR rfl S (S.at 1 rfl) (i:=2) rfl Tryz.underlying29 rfl zaZ ⟨_,rfl,((show PT 349 (q1+q2) ((q1')+(q2')) ((aP b5 x5 y5 b6 x6 y6)) _ from⟨b5,x5,y5,b6,x6,y6,rfl,hq5,hq6,⟨hk9,hk10⟩,⟨hk11,hk12⟩,⟨(S.num 3 rfl),(S.num 2 rfl)⟩,(S.num 1 rfl),(S.num 0 rfl)⟩)).to rfl rfl (by omega),S.below⟩
theorem zsX {q1 q1' q2 q2':Rat}{v1 v2:Value}{V:World}(h1:P1 349 (q1) (q1') v1 V)(h2:P1 349 (q2) (q2') v2 V)(hs0:Sm 349 (q1 - q2))(hs1:Sm 349 (q1' - q2')):
  Calls Tryz.prog 41 #[v1,v2] V (zal V (PT 349 (q1 - q2) (q1' - q2'))):=by
 obtain⟨b1,x1,y1,b2,x2,y2,rfl,hq1,hq2,⟨hk1,hk2⟩,⟨hk3,hk4⟩,⟨ok1,ok2⟩,ok3,ok4⟩:=h1
 obtain⟨b3,x3,y3,b4,x4,y4,rfl,hq3,hq4,⟨hk5,hk6⟩,⟨hk7,hk8⟩,⟨ok5,ok6⟩,ok7,ok8⟩:=h2
 refine zav (e:=[x3,y3,x4,y4,x1,y1,x2,y2]) Tryz.func41 rfl Tryz.ntmps41 (zt2 rfl) [(0,(aP b1 x1 y1 b2 x2 y2)),(1,(aP b3 x3 y3 b4 x4 y4))] rfl (zaa ok5 (zaa ok6 (zaa ok7 (zaa ok8 (zaa ok1 (zaa ok2 (zaa ok3 (zaa ok4 zaN)))))))) (fun a S=>?_)
 refine wp_seq_k fun K1 hK1=>?_
 refine zab ?_
 refine ti S (cs:=(lP b1 x1 y1 b2 x2 y2)) (zaw rfl (S.at 0 rfl) rfl) (fun g1=>[⟨g1,29,(lP b1 x1 y1 b2 x2 y2)⟩]) fun g1 a V1 hgg1 S=>?_
 refine ti S (cs:=(lP b3 x3 y3 b4 x4 y4)) (zaw rfl (S.at 2 rfl) rfl) (fun g2=>[⟨g1,29,(lP b1 x1 y1 b2 x2 y2)⟩,⟨g2,29,(lP b3 x3 y3 b4 x4 y4)⟩]) fun g2 a V2 hgg2 S=>?_
 refine ti S (cs:=[.bool false,.slice none 0 0,.slice none 0 0,.bool false,.slice none 0 0,.slice none 0 0]) (zaz rfl (Tryz.zeroValue29 _) rfl) (fun g3=>[⟨g1,29,(lP b1 x1 y1 b2 x2 y2)⟩,⟨g2,29,(lP b3 x3 y3 b4 x4 y4)⟩,⟨g3,29,[.bool false,.slice none 0 0,.slice none 0 0,.bool false,.slice none 0 0,.slice none 0 0]⟩]) fun g3 a V3 hgg3 S=>?_
 refine hK1 _ _ ?_
 refine wp_seq_k fun K2 hK2=>?_
 obtain⟨W1,hW1⟩:∃W,W=V3:=⟨_,rfl⟩
 rw[←hW1]at S ⊢
 have S0:=S
 refine fr 11 [5,6,7,8,9,10,11,12,13,14,15] [IsV (pT g1 0),IsV ((aG b1 x1 y1)),IsV (pT g2 0),IsV ((aG b3 x3 y3)),QT 349 (q1 - q2),IsV (pT g1 3),IsV ((aG b2 x2 y2)),IsV (pT g2 3),IsV ((aG b4 x4 y4)),QT 349 ((q1') - (q2')),PT 349 (q1 - q2) ((q1') - (q2'))] S ?_ ?_
 ·refine sc (fun _ _ S _ _=>sv rfl (zaf rfl (S.at 2 rfl) (zbf _))) ?_
  refine sc (fun _ _ S _ hd=>sv rfl (zaj rfl (hd.v 0 rfl rfl) (S.bx 0 rfl) Tryz.underlying27 rfl (vs:=(aL b1 x1 y1)) zar rfl)) ?_
  refine sc (fun _ _ S _ _=>sv rfl (zaf rfl (S.at 1 rfl) (zbf _))) ?_
  refine sc (fun _ _ S _ hd=>sv rfl (zaj rfl (hd.v 2 rfl rfl) (S.bx 1 rfl) Tryz.underlying27 rfl (vs:=(aL b3 x3 y3)) zar rfl)) ?_
  refine sc (fun _ _ S _ hd=>sl rfl (rc2 Tryz.func68 (hd.v 1 rfl rfl) (hd.v 3 rfl rfl)) (zrB (show Q1 349 (q1) ((aG b1 x1 y1)) _ from⟨b1,x1,y1,rfl,hq1,hk1,hk2,(S.num 4 rfl),(S.num 5 rfl)⟩) (show Q1 349 (q2) ((aG b3 x3 y3)) _ from⟨b3,x3,y3,rfl,hq3,hk5,hk6,(S.num 0 rfl),(S.num 1 rfl)⟩) (by decide) (by decide) (by assumption) (by decide))) ?_
  refine sc (fun _ _ S _ _=>sv rfl (zaf rfl (S.at 2 rfl) (zbm _))) ?_
  refine sc (fun _ _ S _ hd=>sv rfl (zaj rfl (hd.v 5 rfl rfl) (S.bx 0 rfl) Tryz.underlying27 rfl (vs:=(aL b2 x2 y2)) zar rfl)) ?_
  refine sc (fun _ _ S _ _=>sv rfl (zaf rfl (S.at 1 rfl) (zbm _))) ?_
  refine sc (fun _ _ S _ hd=>sv rfl (zaj rfl (hd.v 7 rfl rfl) (S.bx 1 rfl) Tryz.underlying27 rfl (vs:=(aL b4 x4 y4)) zar rfl)) ?_
  refine sc (fun _ _ S _ hd=>sl rfl (rc2 Tryz.func68 (hd.v 6 rfl rfl) (hd.v 8 rfl rfl)) (zrB (show Q1 349 (q1') ((aG b2 x2 y2)) _ from⟨b2,x2,y2,rfl,hq2,hk3,hk4,(S.num 6 rfl),(S.num 7 rfl)⟩) (show Q1 349 (q2') ((aG b4 x4 y4)) _ from⟨b4,x4,y4,rfl,hq4,hk7,hk8,(S.num 2 rfl),(S.num 3 rfl)⟩) (by decide) (by decide) (by assumption) (by decide))) ?_
  refine sc (fun _ _ _ _ hd=>by
   obtain⟨v,hv,hq⟩:=zp2 (hd.r 4 rfl rfl) (hd.r 9 rfl rfl)
   exact sv rfl (za8 rfl rfl rfl hv) hq) ?_
  exact sn
 ·intro a1 V4 S hB hf
  obtain⟨b5,x5,y5,b6,x6,y6,hv1,hq5,hq6,⟨hk9,hk10⟩,⟨hk11,hk12⟩,⟨ok9,ok10⟩,ok11,ok12⟩:=hf.r 10 rfl rfl
  have S:=S.add hv1
  have S:=S.know ok9
  have S:=S.know ok10
  have S:=S.know ok11
  have S:=S.know ok12
  clear hf S0
  show wpList _ _ _ [_] _ _
  refine zaD S (i:=2) (vs:=(lP b5 x5 y5 b6 x6 y6)) rfl (fun ht=>zay rfl (S.at 1 rfl) (S.at 0 rfl) zaZ rfl (zt2 rfl) ht) (zt2 rfl) rfl rfl rfl (lb':=[⟨g1,29,(lP b1 x1 y1 b2 x2 y2)⟩,⟨g2,29,(lP b3 x3 y3 b4 x4 y4)⟩,⟨g3,29,(lP b5 x5 y5 b6 x6 y6)⟩]) rfl (fun V5 S=>?_)
  refine hK2 _ _ ?_
  refine wp_ret ?_
  exact zaR rfl S (S.at 1 rfl) (i:=2) rfl Tryz.underlying29 rfl zaZ ⟨_,rfl,((show PT 349 (q1 - q2) ((q1') - (q2')) ((aP b5 x5 y5 b6 x6 y6)) _ from⟨b5,x5,y5,b6,x6,y6,rfl,hq5,hq6,⟨hk9,hk10⟩,⟨hk11,hk12⟩,⟨(S.num 3 rfl),(S.num 2 rfl)⟩,(S.num 1 rfl),(S.num 0 rfl)⟩)).to rfl rfl (by omega),S.below⟩
theorem zrq {q1 q1' q2:Rat}{v1 v2:Value}{V:World}(h1:P1 349 (q1) (q1') v1 V)(h2:Q1 349 (q2) v2 V)(hs0:Sm 349 (q1*q2))(hs1:Sm 349 (q1'*q2)):
  Calls Tryz.prog 53 #[v1,v2] V (zal V (PT 349 (q1*q2) (q1'*q2))):=by
 obtain⟨b1,x1,y1,b2,x2,y2,rfl,hq1,hq2,⟨hk1,hk2⟩,⟨hk3,hk4⟩,⟨ok1,ok2⟩,ok3,ok4⟩:=h1
 obtain⟨b3,x3,y3,rfl,hq3,hk5,hk6,ok5,ok6⟩:=h2
 refine zav (e:=[x3,y3,x1,y1,x2,y2]) Tryz.func53 rfl Tryz.ntmps53 (zt2 rfl) [(0,(aP b1 x1 y1 b2 x2 y2)),(1,(aG b3 x3 y3))] rfl (zaa ok5 (zaa ok6 (zaa ok1 (zaa ok2 (zaa ok3 (zaa ok4 zaN)))))) (fun a S=>?_)
 refine wp_seq_k fun K1 hK1=>?_
 refine zab ?_
 refine ti S (cs:=(lP b1 x1 y1 b2 x2 y2)) (zaw rfl (S.at 0 rfl) rfl) (fun g1=>[⟨g1,29,(lP b1 x1 y1 b2 x2 y2)⟩]) fun g1 a V1 hgg1 S=>?_
 refine ti S (cs:=(aL b3 x3 y3)) (zaw rfl (S.at 2 rfl) rfl) (fun g2=>[⟨g1,29,(lP b1 x1 y1 b2 x2 y2)⟩,⟨g2,27,(aL b3 x3 y3)⟩]) fun g2 a V2 hgg2 S=>?_
 refine ti S (cs:=[.bool false,.slice none 0 0,.slice none 0 0,.bool false,.slice none 0 0,.slice none 0 0]) (zaz rfl (Tryz.zeroValue29 _) rfl) (fun g3=>[⟨g1,29,(lP b1 x1 y1 b2 x2 y2)⟩,⟨g2,27,(aL b3 x3 y3)⟩,⟨g3,29,[.bool false,.slice none 0 0,.slice none 0 0,.bool false,.slice none 0 0,.slice none 0 0]⟩]) fun g3 a V3 hgg3 S=>?_
 refine hK1 _ _ ?_
 refine wp_seq_k fun K2 hK2=>?_
 obtain⟨W1,hW1⟩:∃W,W=V3:=⟨_,rfl⟩
 rw[←hW1]at S ⊢
 have S0:=S
 refine fr 11 [5,6,7,8,9,10,11,12,13,14,15] [IsV (pT g1 0),IsV ((aG b1 x1 y1)),IsV ((aG b3 x3 y3)),QL 349 6 ([q1,q2]),QT 349 (q1*q2),IsV (pT g1 3),IsV ((aG b2 x2 y2)),IsV ((aG b3 x3 y3)),QL 349 6 ([q1',q2]),QT 349 ((q1')*q2),PT 349 (q1*q2) ((q1')*q2)] S ?_ ?_
 ·refine sc (fun _ _ S _ _=>sv rfl (zaf rfl (S.at 2 rfl) (zbf _))) ?_
  refine sc (fun _ _ S _ hd=>sv rfl (zaj rfl (hd.v 0 rfl rfl) (S.bx 0 rfl) Tryz.underlying27 rfl (vs:=(aL b1 x1 y1)) zar rfl)) ?_
  refine sc (fun _ _ S _ _=>sv rfl (zaj rfl (S.at 1 rfl) (S.bx 1 rfl) Tryz.underlying27 rfl (vs:=(aL b3 x3 y3)) zar rfl)) ?_
  refine sc (fun _ _ S _ hd=>sy rfl (zdf rfl (hd.v 1 rfl rfl) (hd.v 2 rfl rfl) (show Q1 349 (q1) ((aG b1 x1 y1)) _ from⟨b1,x1,y1,rfl,hq1,hk1,hk2,(S.num 2 rfl),(S.num 3 rfl)⟩) (show Q1 349 (q2) ((aG b3 x3 y3)) _ from⟨b3,x3,y3,rfl,hq3,hk5,hk6,(S.num 0 rfl),(S.num 1 rfl)⟩))) ?_
  refine sc (fun _ _ _ _ hd=>sl rfl (rc1 Tryz.func69 rfl) (zoP ((hd.r 3 rfl rfl)).row (by decide) (by assumption))) ?_
  refine sc (fun _ _ S _ _=>sv rfl (zaf rfl (S.at 2 rfl) (zbm _))) ?_
  refine sc (fun _ _ S _ hd=>sv rfl (zaj rfl (hd.v 5 rfl rfl) (S.bx 0 rfl) Tryz.underlying27 rfl (vs:=(aL b2 x2 y2)) zar rfl)) ?_
  refine sc (fun _ _ S _ _=>sv rfl (zaj rfl (S.at 1 rfl) (S.bx 1 rfl) Tryz.underlying27 rfl (vs:=(aL b3 x3 y3)) zar rfl)) ?_
  refine sc (fun _ _ S _ hd=>sy rfl (zdf rfl (hd.v 6 rfl rfl) (hd.v 7 rfl rfl) (show Q1 349 (q1') ((aG b2 x2 y2)) _ from⟨b2,x2,y2,rfl,hq2,hk3,hk4,(S.num 4 rfl),(S.num 5 rfl)⟩) (show Q1 349 (q2) ((aG b3 x3 y3)) _ from⟨b3,x3,y3,rfl,hq3,hk5,hk6,(S.num 0 rfl),(S.num 1 rfl)⟩))) ?_
  refine sc (fun _ _ _ _ hd=>sl rfl (rc1 Tryz.func69 rfl) (zoP ((hd.r 8 rfl rfl)).row (by decide) (by assumption))) ?_
  refine sc (fun _ _ _ _ hd=>by
   obtain⟨v,hv,hq⟩:=zp2 (hd.r 4 rfl rfl) (hd.r 9 rfl rfl)
   exact sv rfl (za8 rfl rfl rfl hv) hq) ?_
  exact sn
 ·intro a1 V4 S hB hf
  obtain⟨b4,x4,y4,b5,x5,y5,hv1,hq4,hq5,⟨hk7,hk8⟩,⟨hk9,hk10⟩,⟨ok7,ok8⟩,ok9,ok10⟩:=hf.r 10 rfl rfl
  have S:=S.add hv1
  have S:=S.know ok7
  have S:=S.know ok8
  have S:=S.know ok9
  have S:=S.know ok10
  clear hf S0
  show wpList _ _ _ [_] _ _
  refine zaD S (i:=2) (vs:=(lP b4 x4 y4 b5 x5 y5)) rfl (fun ht=>zay rfl (S.at 1 rfl) (S.at 0 rfl) zaZ rfl (zt2 rfl) ht) (zt2 rfl) rfl rfl rfl (lb':=[⟨g1,29,(lP b1 x1 y1 b2 x2 y2)⟩,⟨g2,27,(aL b3 x3 y3)⟩,⟨g3,29,(lP b4 x4 y4 b5 x5 y5)⟩]) rfl (fun V5 S=>?_)
  refine hK2 _ _ ?_
  refine wp_ret ?_
  exact zaR rfl S (S.at 1 rfl) (i:=2) rfl Tryz.underlying29 rfl zaZ ⟨_,rfl,((show PT 349 (q1*q2) ((q1')*q2) ((aP b4 x4 y4 b5 x5 y5)) _ from⟨b4,x4,y4,b5,x5,y5,rfl,hq4,hq5,⟨hk7,hk8⟩,⟨hk9,hk10⟩,⟨(S.num 3 rfl),(S.num 2 rfl)⟩,(S.num 1 rfl),(S.num 0 rfl)⟩)).to rfl rfl (by omega),S.below⟩
theorem ztY {q1 q1' q2 q2' r:Rat}{v1 v2 v3:Value}{V:World}(h1:P1 349 (q1) (q1') v1 V)(h2:P1 349 (q2) (q2') v2 V)(h3:Q1 349 (r) v3 V)(hs0:Sm 349 (q2 - q1))(hs1:Sm 349 (q2' - q1'))(hs2:Sm 349 ((q2 - q1)*r))(hs3:Sm 349 ((q2' - q1')*r))(hs4:Sm 349 (q1+(q2 - q1)*r))(hs5:Sm 349 (q1'+(q2' - q1')*r)):
  Calls Tryz.prog 29 #[v1,v2,v3] V (zal V (PT 349 (q1+(q2 - q1)*r) (q1'+(q2' - q1')*r))):=by
 obtain⟨b1,x1,y1,b2,x2,y2,rfl,hq1,hq2,⟨hk1,hk2⟩,⟨hk3,hk4⟩,⟨ok1,ok2⟩,ok3,ok4⟩:=h1
 obtain⟨b3,x3,y3,b4,x4,y4,rfl,hq3,hq4,⟨hk5,hk6⟩,⟨hk7,hk8⟩,⟨ok5,ok6⟩,ok7,ok8⟩:=h2
 obtain⟨b5,x5,y5,rfl,hq5,hk9,hk10,ok9,ok10⟩:=h3
 refine zav (e:=[x5,y5,x3,y3,x4,y4,x1,y1,x2,y2]) Tryz.func29 rfl Tryz.ntmps29 (zt2 rfl) [(0,(aP b1 x1 y1 b2 x2 y2)),(1,(aP b3 x3 y3 b4 x4 y4)),(2,(aG b5 x5 y5))] rfl (zaa ok9 (zaa ok10 (zaa ok5 (zaa ok6 (zaa ok7 (zaa ok8 (zaa ok1 (zaa ok2 (zaa ok3 (zaa ok4 zaN)))))))))) (fun a S=>?_)
 refine wp_seq_k fun K1 hK1=>?_
 refine zab ?_
 refine ti S (cs:=(lP b1 x1 y1 b2 x2 y2)) (zaw rfl (S.at 0 rfl) rfl) (fun g1=>[⟨g1,29,(lP b1 x1 y1 b2 x2 y2)⟩]) fun g1 a V1 hgg1 S=>?_
 refine ti S (cs:=(lP b3 x3 y3 b4 x4 y4)) (zaw rfl (S.at 2 rfl) rfl) (fun g2=>[⟨g1,29,(lP b1 x1 y1 b2 x2 y2)⟩,⟨g2,29,(lP b3 x3 y3 b4 x4 y4)⟩]) fun g2 a V2 hgg2 S=>?_
 refine ti S (cs:=(aL b5 x5 y5)) (zaw rfl (S.at 4 rfl) rfl) (fun g3=>[⟨g1,29,(lP b1 x1 y1 b2 x2 y2)⟩,⟨g2,29,(lP b3 x3 y3 b4 x4 y4)⟩,⟨g3,27,(aL b5 x5 y5)⟩]) fun g3 a V3 hgg3 S=>?_
 refine ti S (cs:=[.bool false,.slice none 0 0,.slice none 0 0,.bool false,.slice none 0 0,.slice none 0 0]) (zaz rfl (Tryz.zeroValue29 _) rfl) (fun g4=>[⟨g1,29,(lP b1 x1 y1 b2 x2 y2)⟩,⟨g2,29,(lP b3 x3 y3 b4 x4 y4)⟩,⟨g3,27,(aL b5 x5 y5)⟩,⟨g4,29,[.bool false,.slice none 0 0,.slice none 0 0,.bool false,.slice none 0 0,.slice none 0 0]⟩]) fun g4 a V4 hgg4 S=>?_
 refine hK1 _ _ ?_
 refine wp_seq_k fun K2 hK2=>?_
 obtain⟨W1,hW1⟩:∃W,W=V4:=⟨_,rfl⟩
 rw[←hW1]at S ⊢
 have S0:=S
 refine fr 7 [7,8,9,10,11,12,13] [IsV ((aP b1 x1 y1 b2 x2 y2)),IsV ((aP b3 x3 y3 b4 x4 y4)),IsV ((aP b1 x1 y1 b2 x2 y2)),PT 349 (q2 - q1) ((q2') - (q1')),IsV ((aG b5 x5 y5)),PT 349 ((q2 - q1)*r) (((q2') - (q1'))*r),PT 349 (q1+((q2 - q1)*r)) ((q1')+(((q2') - (q1'))*r))] S ?_ ?_
 ·refine sc (fun _ _ S _ _=>sv rfl (zaj rfl (S.at 3 rfl) (S.bx 0 rfl) Tryz.underlying29 rfl (vs:=(lP b1 x1 y1 b2 x2 y2)) zaZ rfl)) ?_
  refine sc (fun _ _ S _ _=>sv rfl (zaj rfl (S.at 2 rfl) (S.bx 1 rfl) Tryz.underlying29 rfl (vs:=(lP b3 x3 y3 b4 x4 y4)) zaZ rfl)) ?_
  refine sc (fun _ _ S _ _=>sv rfl (zaj rfl (S.at 3 rfl) (S.bx 0 rfl) Tryz.underlying29 rfl (vs:=(lP b1 x1 y1 b2 x2 y2)) zaZ rfl)) ?_
  refine sc (fun _ _ S _ hd=>sl rfl (rc2 Tryz.func41 (hd.v 1 rfl rfl) (hd.v 2 rfl rfl)) (zsX (show P1 349 (q2) (q2') ((aP b3 x3 y3 b4 x4 y4)) _ from⟨b3,x3,y3,b4,x4,y4,rfl,hq3,hq4,⟨hk5,hk6⟩,⟨hk7,hk8⟩,⟨(S.num 2 rfl),(S.num 3 rfl)⟩,(S.num 4 rfl),(S.num 5 rfl)⟩) (show P1 349 (q1) (q1') ((aP b1 x1 y1 b2 x2 y2)) _ from⟨b1,x1,y1,b2,x2,y2,rfl,hq1,hq2,⟨hk1,hk2⟩,⟨hk3,hk4⟩,⟨(S.num 6 rfl),(S.num 7 rfl)⟩,(S.num 8 rfl),(S.num 9 rfl)⟩) (by assumption) (by assumption))) ?_
  refine sc (fun _ _ S _ _=>sv rfl (zaj rfl (S.at 1 rfl) (S.bx 2 rfl) Tryz.underlying27 rfl (vs:=(aL b5 x5 y5)) zar rfl)) ?_
  refine sc (fun _ _ S _ hd=>sl rfl (rc2 Tryz.func53 rfl (hd.v 4 rfl rfl)) (zrq ((hd.r 3 rfl rfl)).any (show Q1 349 (r) ((aG b5 x5 y5)) _ from⟨b5,x5,y5,rfl,hq5,hk9,hk10,(S.num 0 rfl),(S.num 1 rfl)⟩) (by assumption) (by assumption))) ?_
  refine sc (fun _ _ S _ hd=>sl rfl (rc2 Tryz.func25 (hd.v 0 rfl rfl) rfl) (zsW (show P1 349 (q1) (q1') ((aP b1 x1 y1 b2 x2 y2)) _ from⟨b1,x1,y1,b2,x2,y2,rfl,hq1,hq2,⟨hk1,hk2⟩,⟨hk3,hk4⟩,⟨(S.num 6 rfl),(S.num 7 rfl)⟩,(S.num 8 rfl),(S.num 9 rfl)⟩) ((hd.r 5 rfl rfl)).any (by assumption) (by assumption))) ?_
  exact sn
 ·intro a1 V5 S hB hf
  obtain⟨b6,x6,y6,b7,x7,y7,hv1,hq6,hq7,⟨hk11,hk12⟩,⟨hk13,hk14⟩,⟨ok11,ok12⟩,ok13,ok14⟩:=hf.r 6 rfl rfl
  have S:=S.add hv1
  have S:=S.know ok11
  have S:=S.know ok12
  have S:=S.know ok13
  have S:=S.know ok14
  clear hf S0
  show wpList _ _ _ [_] _ _
  refine zaD S (i:=3) (vs:=(lP b6 x6 y6 b7 x7 y7)) rfl (fun ht=>zay rfl (S.at 1 rfl) (S.at 0 rfl) zaZ rfl (zt2 rfl) ht) (zt2 rfl) rfl rfl rfl (lb':=[⟨g1,29,(lP b1 x1 y1 b2 x2 y2)⟩,⟨g2,29,(lP b3 x3 y3 b4 x4 y4)⟩,⟨g3,27,(aL b5 x5 y5)⟩,⟨g4,29,(lP b6 x6 y6 b7 x7 y7)⟩]) rfl (fun V6 S=>?_)
  refine hK2 _ _ ?_
  refine wp_ret ?_
  exact zaR rfl S (S.at 1 rfl) (i:=3) rfl Tryz.underlying29 rfl zaZ ⟨_,rfl,((show PT 349 (q1+((q2 - q1)*r)) ((q1')+(((q2') - (q1'))*r)) ((aP b6 x6 y6 b7 x7 y7)) _ from⟨b6,x6,y6,b7,x7,y7,rfl,hq6,hq7,⟨hk11,hk12⟩,⟨hk13,hk14⟩,⟨(S.num 3 rfl),(S.num 2 rfl)⟩,(S.num 1 rfl),(S.num 0 rfl)⟩)).to rfl rfl (by omega),S.below⟩
end Go.Proofs.YtdeelcoipmdoiaaGreatDoor
