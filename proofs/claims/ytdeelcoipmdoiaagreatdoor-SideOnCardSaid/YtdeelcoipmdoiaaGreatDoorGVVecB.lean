/- A part. -/
import Derived.Test.YtdeelcoipmdoiaaGreatDoorGVVec
set_option maxHeartbeats 4000000
set_option maxRecDepth 100000
namespace Go.Proofs.YtdeelcoipmdoiaaGreatDoor
open Go Go.RowKit
variable {v v1 v2:Value}{V:World}{K K':Nat}{q q' q1 q1' q2 q2':Rat}
theorem zsE {q1 q1' q2 q2':Rat}{v1 v2:Value}{V:World}(h1:P1 349 (q1) (q1') v1 V)(h2:P1 349 (q2) (q2') v2 V)(hs0:Sm 349 (q1+q2))(hs1:Sm 349 (q1'+q2')):
  Calls Tryz.prog 25 #[v1,v2] V (zam V (PT 349 (q1+q2) (q1'+q2'))):=by
 obtain⟨b1,x1,y1,b2,x2,y2,rfl,hq1,hq2,⟨hk1,hk2⟩,⟨hk3,hk4⟩,⟨ok1,ok2⟩,ok3,ok4⟩:=h1
 obtain⟨b3,x3,y3,b4,x4,y4,rfl,hq3,hq4,⟨hk5,hk6⟩,⟨hk7,hk8⟩,⟨ok5,ok6⟩,ok7,ok8⟩:=h2
 refine zaw (e:=[x3,y3,x4,y4,x1,y1,x2,y2]) Tryz.func25 rfl Tryz.ntmps25 (ztJ rfl) [(0,(aP b1 x1 y1 b2 x2 y2)),(1,(aP b3 x3 y3 b4 x4 y4))] rfl (zaa ok5 (zaa ok6 (zaa ok7 (zaa ok8 (zaa ok1 (zaa ok2 (zaa ok3 (zaa ok4 zaN)))))))) (fun a S=>?_)
 refine wp_seq_k fun K1 hK1=>?_
 refine zac ?_
 refine ti S (cs:=(lP b1 x1 y1 b2 x2 y2)) (zas rfl (S.at 0 rfl) rfl) (fun g1=>[⟨g1,29,(lP b1 x1 y1 b2 x2 y2)⟩]) fun g1 a V1 hgg1 S=>?_
 refine ti S (cs:=(lP b3 x3 y3 b4 x4 y4)) (zas rfl (S.at 2 rfl) rfl) (fun g2=>[⟨g1,29,(lP b1 x1 y1 b2 x2 y2)⟩,⟨g2,29,(lP b3 x3 y3 b4 x4 y4)⟩]) fun g2 a V2 hgg2 S=>?_
 refine ti S (cs:=[.bool false,.slice none 0 0,.slice none 0 0,.bool false,.slice none 0 0,.slice none 0 0]) (zaz rfl (Tryz.zeroValue29 _) rfl) (fun g3=>[⟨g1,29,(lP b1 x1 y1 b2 x2 y2)⟩,⟨g2,29,(lP b3 x3 y3 b4 x4 y4)⟩,⟨g3,29,[.bool false,.slice none 0 0,.slice none 0 0,.bool false,.slice none 0 0,.slice none 0 0]⟩]) fun g3 a V3 hgg3 S=>?_
 refine hK1 _ _ ?_
 refine wp_seq_k fun K2 hK2=>?_
 obtain⟨W1,hW1⟩:∃W,W=V3:=⟨_,rfl⟩
 rw[←hW1]at S ⊢
 have S0:=S
 refine fr 13 [5,6,7,8,9,10,11,12,13,14,15,16,17] [IsV (pT g1 0),IsV ((aG b1 x1 y1)),IsV (pT g2 0),IsV ((aG b3 x3 y3)),QL 349 6 ([q1,q2]),QT 349 (q1+q2),IsV (pT g1 3),IsV ((aG b2 x2 y2)),IsV (pT g2 3),IsV ((aG b4 x4 y4)),QL 349 6 ([q1',q2']),QT 349 ((q1')+(q2')),PT 349 (q1+q2) ((q1')+(q2'))] S ?_ ?_
 ·refine sc (fun _ _ S _ _=>sv rfl (zae rfl (S.at 2 rfl) (zbj _))) ?_
  refine sc (fun _ _ S _ hd=>sv rfl (zaj rfl (hd.v 0 rfl rfl) (S.bx 0 rfl) Tryz.underlying27 rfl (vs:=(aL b1 x1 y1)) zap rfl)) ?_
  refine sc (fun _ _ S _ _=>sv rfl (zae rfl (S.at 1 rfl) (zbj _))) ?_
  refine sc (fun _ _ S _ hd=>sv rfl (zaj rfl (hd.v 2 rfl rfl) (S.bx 1 rfl) Tryz.underlying27 rfl (vs:=(aL b3 x3 y3)) zap rfl)) ?_
  refine sc (fun _ _ S _ hd=>sy rfl (zcy rfl (hd.v 1 rfl rfl) (hd.v 3 rfl rfl) (show Q1 349 (q1) ((aG b1 x1 y1)) _ from⟨b1,x1,y1,rfl,hq1,hk1,hk2,(S.num 4 rfl),(S.num 5 rfl)⟩) (show Q1 349 (q2) ((aG b3 x3 y3)) _ from⟨b3,x3,y3,rfl,hq3,hk5,hk6,(S.num 0 rfl),(S.num 1 rfl)⟩))) ?_
  refine sc (fun _ _ _ _ hd=>sl rfl (rc1 Tryz.func27 rfl) (zgN ((hd.r 4 rfl rfl)).row (by decide) (by assumption))) ?_
  refine sc (fun _ _ S _ _=>sv rfl (zae rfl (S.at 2 rfl) (zbk _))) ?_
  refine sc (fun _ _ S _ hd=>sv rfl (zaj rfl (hd.v 6 rfl rfl) (S.bx 0 rfl) Tryz.underlying27 rfl (vs:=(aL b2 x2 y2)) zap rfl)) ?_
  refine sc (fun _ _ S _ _=>sv rfl (zae rfl (S.at 1 rfl) (zbk _))) ?_
  refine sc (fun _ _ S _ hd=>sv rfl (zaj rfl (hd.v 8 rfl rfl) (S.bx 1 rfl) Tryz.underlying27 rfl (vs:=(aL b4 x4 y4)) zap rfl)) ?_
  refine sc (fun _ _ S _ hd=>sy rfl (zcy rfl (hd.v 7 rfl rfl) (hd.v 9 rfl rfl) (show Q1 349 (q1') ((aG b2 x2 y2)) _ from⟨b2,x2,y2,rfl,hq2,hk3,hk4,(S.num 6 rfl),(S.num 7 rfl)⟩) (show Q1 349 (q2') ((aG b4 x4 y4)) _ from⟨b4,x4,y4,rfl,hq4,hk7,hk8,(S.num 2 rfl),(S.num 3 rfl)⟩))) ?_
  refine sc (fun _ _ _ _ hd=>sl rfl (rc1 Tryz.func27 rfl) (zgN ((hd.r 10 rfl rfl)).row (by decide) (by assumption))) ?_
  refine sc (fun _ _ _ _ hd=>by
   obtain⟨v,hv,hq⟩:=zpL (hd.r 5 rfl rfl) (hd.r 11 rfl rfl)
   exact sv rfl (za7 rfl rfl rfl hv) hq) ?_
  exact sn
 ·intro a1 V4 S hB hf
  obtain⟨b5,x5,y5,b6,x6,y6,hv1,hq5,hq6,⟨hk9,hk10⟩,⟨hk11,hk12⟩,⟨ok9,ok10⟩,ok11,ok12⟩:=hf.r 12 rfl rfl
  have S:=S.add hv1
  have S:=S.know ok9
  have S:=S.know ok10
  have S:=S.know ok11
  have S:=S.know ok12
  clear hf S0
  show wpList _ _ _ [_] _ _
  refine zaA S (i:=2) (vs:=(lP b5 x5 y5 b6 x6 y6)) rfl (fun ht=>zav rfl (S.at 1 rfl) (S.at 0 rfl) zaY rfl (ztJ rfl) ht) (ztJ rfl) rfl rfl rfl (lb':=[⟨g1,29,(lP b1 x1 y1 b2 x2 y2)⟩,⟨g2,29,(lP b3 x3 y3 b4 x4 y4)⟩,⟨g3,29,(lP b5 x5 y5 b6 x6 y6)⟩]) rfl (fun V5 S=>?_)
  refine hK2 _ _ ?_
  refine wp_ret ?_
  exact zaQ rfl S (S.at 1 rfl) (i:=2) rfl Tryz.underlying29 rfl zaY ⟨_,rfl,((show PT 349 (q1+q2) ((q1')+(q2')) ((aP b5 x5 y5 b6 x6 y6)) _ from⟨b5,x5,y5,b6,x6,y6,rfl,hq5,hq6,⟨hk9,hk10⟩,⟨hk11,hk12⟩,⟨(S.num 3 rfl),(S.num 2 rfl)⟩,(S.num 1 rfl),(S.num 0 rfl)⟩)).to rfl rfl (by omega),S.below⟩
theorem zpR {q1 q1' q2 q2':Rat}{v1 v2:Value}{V:World}(h1:P1 349 (q1) (q1') v1 V)(h2:P1 349 (q2) (q2') v2 V)(hs0:Sm 349 (q1 - q2))(hs1:Sm 349 (q1' - q2')):
  Calls Tryz.prog 41 #[v1,v2] V (zam V (PT 349 (q1 - q2) (q1' - q2'))):=by
 obtain⟨b1,x1,y1,b2,x2,y2,rfl,hq1,hq2,⟨hk1,hk2⟩,⟨hk3,hk4⟩,⟨ok1,ok2⟩,ok3,ok4⟩:=h1
 obtain⟨b3,x3,y3,b4,x4,y4,rfl,hq3,hq4,⟨hk5,hk6⟩,⟨hk7,hk8⟩,⟨ok5,ok6⟩,ok7,ok8⟩:=h2
 refine zaw (e:=[x3,y3,x4,y4,x1,y1,x2,y2]) Tryz.func41 rfl Tryz.ntmps41 (ztJ rfl) [(0,(aP b1 x1 y1 b2 x2 y2)),(1,(aP b3 x3 y3 b4 x4 y4))] rfl (zaa ok5 (zaa ok6 (zaa ok7 (zaa ok8 (zaa ok1 (zaa ok2 (zaa ok3 (zaa ok4 zaN)))))))) (fun a S=>?_)
 refine wp_seq_k fun K1 hK1=>?_
 refine zac ?_
 refine ti S (cs:=(lP b1 x1 y1 b2 x2 y2)) (zas rfl (S.at 0 rfl) rfl) (fun g1=>[⟨g1,29,(lP b1 x1 y1 b2 x2 y2)⟩]) fun g1 a V1 hgg1 S=>?_
 refine ti S (cs:=(lP b3 x3 y3 b4 x4 y4)) (zas rfl (S.at 2 rfl) rfl) (fun g2=>[⟨g1,29,(lP b1 x1 y1 b2 x2 y2)⟩,⟨g2,29,(lP b3 x3 y3 b4 x4 y4)⟩]) fun g2 a V2 hgg2 S=>?_
 refine ti S (cs:=[.bool false,.slice none 0 0,.slice none 0 0,.bool false,.slice none 0 0,.slice none 0 0]) (zaz rfl (Tryz.zeroValue29 _) rfl) (fun g3=>[⟨g1,29,(lP b1 x1 y1 b2 x2 y2)⟩,⟨g2,29,(lP b3 x3 y3 b4 x4 y4)⟩,⟨g3,29,[.bool false,.slice none 0 0,.slice none 0 0,.bool false,.slice none 0 0,.slice none 0 0]⟩]) fun g3 a V3 hgg3 S=>?_
 refine hK1 _ _ ?_
 refine wp_seq_k fun K2 hK2=>?_
 obtain⟨W1,hW1⟩:∃W,W=V3:=⟨_,rfl⟩
 rw[←hW1]at S ⊢
 have S0:=S
 refine fr 11 [5,6,7,8,9,10,11,12,13,14,15] [IsV (pT g1 0),IsV ((aG b1 x1 y1)),IsV (pT g2 0),IsV ((aG b3 x3 y3)),QT 349 (q1 - q2),IsV (pT g1 3),IsV ((aG b2 x2 y2)),IsV (pT g2 3),IsV ((aG b4 x4 y4)),QT 349 ((q1') - (q2')),PT 349 (q1 - q2) ((q1') - (q2'))] S ?_ ?_
 ·refine sc (fun _ _ S _ _=>sv rfl (zae rfl (S.at 2 rfl) (zbj _))) ?_
  refine sc (fun _ _ S _ hd=>sv rfl (zaj rfl (hd.v 0 rfl rfl) (S.bx 0 rfl) Tryz.underlying27 rfl (vs:=(aL b1 x1 y1)) zap rfl)) ?_
  refine sc (fun _ _ S _ _=>sv rfl (zae rfl (S.at 1 rfl) (zbj _))) ?_
  refine sc (fun _ _ S _ hd=>sv rfl (zaj rfl (hd.v 2 rfl rfl) (S.bx 1 rfl) Tryz.underlying27 rfl (vs:=(aL b3 x3 y3)) zap rfl)) ?_
  refine sc (fun _ _ S _ hd=>sl rfl (rc2 Tryz.func68 (hd.v 1 rfl rfl) (hd.v 3 rfl rfl)) (zoD (show Q1 349 (q1) ((aG b1 x1 y1)) _ from⟨b1,x1,y1,rfl,hq1,hk1,hk2,(S.num 4 rfl),(S.num 5 rfl)⟩) (show Q1 349 (q2) ((aG b3 x3 y3)) _ from⟨b3,x3,y3,rfl,hq3,hk5,hk6,(S.num 0 rfl),(S.num 1 rfl)⟩) (by decide) (by decide) (by assumption) (by decide))) ?_
  refine sc (fun _ _ S _ _=>sv rfl (zae rfl (S.at 2 rfl) (zbk _))) ?_
  refine sc (fun _ _ S _ hd=>sv rfl (zaj rfl (hd.v 5 rfl rfl) (S.bx 0 rfl) Tryz.underlying27 rfl (vs:=(aL b2 x2 y2)) zap rfl)) ?_
  refine sc (fun _ _ S _ _=>sv rfl (zae rfl (S.at 1 rfl) (zbk _))) ?_
  refine sc (fun _ _ S _ hd=>sv rfl (zaj rfl (hd.v 7 rfl rfl) (S.bx 1 rfl) Tryz.underlying27 rfl (vs:=(aL b4 x4 y4)) zap rfl)) ?_
  refine sc (fun _ _ S _ hd=>sl rfl (rc2 Tryz.func68 (hd.v 6 rfl rfl) (hd.v 8 rfl rfl)) (zoD (show Q1 349 (q1') ((aG b2 x2 y2)) _ from⟨b2,x2,y2,rfl,hq2,hk3,hk4,(S.num 6 rfl),(S.num 7 rfl)⟩) (show Q1 349 (q2') ((aG b4 x4 y4)) _ from⟨b4,x4,y4,rfl,hq4,hk7,hk8,(S.num 2 rfl),(S.num 3 rfl)⟩) (by decide) (by decide) (by assumption) (by decide))) ?_
  refine sc (fun _ _ _ _ hd=>by
   obtain⟨v,hv,hq⟩:=zpL (hd.r 4 rfl rfl) (hd.r 9 rfl rfl)
   exact sv rfl (za7 rfl rfl rfl hv) hq) ?_
  exact sn
 ·intro a1 V4 S hB hf
  obtain⟨b5,x5,y5,b6,x6,y6,hv1,hq5,hq6,⟨hk9,hk10⟩,⟨hk11,hk12⟩,⟨ok9,ok10⟩,ok11,ok12⟩:=hf.r 10 rfl rfl
  have S:=S.add hv1
  have S:=S.know ok9
  have S:=S.know ok10
  have S:=S.know ok11
  have S:=S.know ok12
  clear hf S0
  show wpList _ _ _ [_] _ _
  refine zaA S (i:=2) (vs:=(lP b5 x5 y5 b6 x6 y6)) rfl (fun ht=>zav rfl (S.at 1 rfl) (S.at 0 rfl) zaY rfl (ztJ rfl) ht) (ztJ rfl) rfl rfl rfl (lb':=[⟨g1,29,(lP b1 x1 y1 b2 x2 y2)⟩,⟨g2,29,(lP b3 x3 y3 b4 x4 y4)⟩,⟨g3,29,(lP b5 x5 y5 b6 x6 y6)⟩]) rfl (fun V5 S=>?_)
  refine hK2 _ _ ?_
  refine wp_ret ?_
  exact zaQ rfl S (S.at 1 rfl) (i:=2) rfl Tryz.underlying29 rfl zaY ⟨_,rfl,((show PT 349 (q1 - q2) ((q1') - (q2')) ((aP b5 x5 y5 b6 x6 y6)) _ from⟨b5,x5,y5,b6,x6,y6,rfl,hq5,hq6,⟨hk9,hk10⟩,⟨hk11,hk12⟩,⟨(S.num 3 rfl),(S.num 2 rfl)⟩,(S.num 1 rfl),(S.num 0 rfl)⟩)).to rfl rfl (by omega),S.below⟩
theorem zq6 {q1 q1' q2:Rat}{v1 v2:Value}{V:World}(h1:P1 349 (q1) (q1') v1 V)(h2:Q1 349 (q2) v2 V)(hs0:Sm 349 (q1*q2))(hs1:Sm 349 (q1'*q2)):
  Calls Tryz.prog 53 #[v1,v2] V (zam V (PT 349 (q1*q2) (q1'*q2))):=by
 obtain⟨b1,x1,y1,b2,x2,y2,rfl,hq1,hq2,⟨hk1,hk2⟩,⟨hk3,hk4⟩,⟨ok1,ok2⟩,ok3,ok4⟩:=h1
 obtain⟨b3,x3,y3,rfl,hq3,hk5,hk6,ok5,ok6⟩:=h2
 refine zaw (e:=[x3,y3,x1,y1,x2,y2]) Tryz.func53 rfl Tryz.ntmps53 (ztJ rfl) [(0,(aP b1 x1 y1 b2 x2 y2)),(1,(aG b3 x3 y3))] rfl (zaa ok5 (zaa ok6 (zaa ok1 (zaa ok2 (zaa ok3 (zaa ok4 zaN)))))) (fun a S=>?_)
 refine wp_seq_k fun K1 hK1=>?_
 refine zac ?_
 refine ti S (cs:=(lP b1 x1 y1 b2 x2 y2)) (zas rfl (S.at 0 rfl) rfl) (fun g1=>[⟨g1,29,(lP b1 x1 y1 b2 x2 y2)⟩]) fun g1 a V1 hgg1 S=>?_
 refine ti S (cs:=(aL b3 x3 y3)) (zas rfl (S.at 2 rfl) rfl) (fun g2=>[⟨g1,29,(lP b1 x1 y1 b2 x2 y2)⟩,⟨g2,27,(aL b3 x3 y3)⟩]) fun g2 a V2 hgg2 S=>?_
 refine ti S (cs:=[.bool false,.slice none 0 0,.slice none 0 0,.bool false,.slice none 0 0,.slice none 0 0]) (zaz rfl (Tryz.zeroValue29 _) rfl) (fun g3=>[⟨g1,29,(lP b1 x1 y1 b2 x2 y2)⟩,⟨g2,27,(aL b3 x3 y3)⟩,⟨g3,29,[.bool false,.slice none 0 0,.slice none 0 0,.bool false,.slice none 0 0,.slice none 0 0]⟩]) fun g3 a V3 hgg3 S=>?_
 refine hK1 _ _ ?_
 refine wp_seq_k fun K2 hK2=>?_
 obtain⟨W1,hW1⟩:∃W,W=V3:=⟨_,rfl⟩
 rw[←hW1]at S ⊢
 have S0:=S
 refine fr 11 [5,6,7,8,9,10,11,12,13,14,15] [IsV (pT g1 0),IsV ((aG b1 x1 y1)),IsV ((aG b3 x3 y3)),QL 349 6 ([q1,q2]),QT 349 (q1*q2),IsV (pT g1 3),IsV ((aG b2 x2 y2)),IsV ((aG b3 x3 y3)),QL 349 6 ([q1',q2]),QT 349 ((q1')*q2),PT 349 (q1*q2) ((q1')*q2)] S ?_ ?_
 ·refine sc (fun _ _ S _ _=>sv rfl (zae rfl (S.at 2 rfl) (zbj _))) ?_
  refine sc (fun _ _ S _ hd=>sv rfl (zaj rfl (hd.v 0 rfl rfl) (S.bx 0 rfl) Tryz.underlying27 rfl (vs:=(aL b1 x1 y1)) zap rfl)) ?_
  refine sc (fun _ _ S _ _=>sv rfl (zaj rfl (S.at 1 rfl) (S.bx 1 rfl) Tryz.underlying27 rfl (vs:=(aL b3 x3 y3)) zap rfl)) ?_
  refine sc (fun _ _ S _ hd=>sy rfl (zcy rfl (hd.v 1 rfl rfl) (hd.v 2 rfl rfl) (show Q1 349 (q1) ((aG b1 x1 y1)) _ from⟨b1,x1,y1,rfl,hq1,hk1,hk2,(S.num 2 rfl),(S.num 3 rfl)⟩) (show Q1 349 (q2) ((aG b3 x3 y3)) _ from⟨b3,x3,y3,rfl,hq3,hk5,hk6,(S.num 0 rfl),(S.num 1 rfl)⟩))) ?_
  refine sc (fun _ _ _ _ hd=>sl rfl (rc1 Tryz.func69 rfl) (zoC ((hd.r 3 rfl rfl)).row (by decide) (by assumption))) ?_
  refine sc (fun _ _ S _ _=>sv rfl (zae rfl (S.at 2 rfl) (zbk _))) ?_
  refine sc (fun _ _ S _ hd=>sv rfl (zaj rfl (hd.v 5 rfl rfl) (S.bx 0 rfl) Tryz.underlying27 rfl (vs:=(aL b2 x2 y2)) zap rfl)) ?_
  refine sc (fun _ _ S _ _=>sv rfl (zaj rfl (S.at 1 rfl) (S.bx 1 rfl) Tryz.underlying27 rfl (vs:=(aL b3 x3 y3)) zap rfl)) ?_
  refine sc (fun _ _ S _ hd=>sy rfl (zcy rfl (hd.v 6 rfl rfl) (hd.v 7 rfl rfl) (show Q1 349 (q1') ((aG b2 x2 y2)) _ from⟨b2,x2,y2,rfl,hq2,hk3,hk4,(S.num 4 rfl),(S.num 5 rfl)⟩) (show Q1 349 (q2) ((aG b3 x3 y3)) _ from⟨b3,x3,y3,rfl,hq3,hk5,hk6,(S.num 0 rfl),(S.num 1 rfl)⟩))) ?_
  refine sc (fun _ _ _ _ hd=>sl rfl (rc1 Tryz.func69 rfl) (zoC ((hd.r 8 rfl rfl)).row (by decide) (by assumption))) ?_
  refine sc (fun _ _ _ _ hd=>by
   obtain⟨v,hv,hq⟩:=zpL (hd.r 4 rfl rfl) (hd.r 9 rfl rfl)
   exact sv rfl (za7 rfl rfl rfl hv) hq) ?_
  exact sn
 ·intro a1 V4 S hB hf
  obtain⟨b4,x4,y4,b5,x5,y5,hv1,hq4,hq5,⟨hk7,hk8⟩,⟨hk9,hk10⟩,⟨ok7,ok8⟩,ok9,ok10⟩:=hf.r 10 rfl rfl
  have S:=S.add hv1
  have S:=S.know ok7
  have S:=S.know ok8
  have S:=S.know ok9
  have S:=S.know ok10
  clear hf S0
  show wpList _ _ _ [_] _ _
  refine zaA S (i:=2) (vs:=(lP b4 x4 y4 b5 x5 y5)) rfl (fun ht=>zav rfl (S.at 1 rfl) (S.at 0 rfl) zaY rfl (ztJ rfl) ht) (ztJ rfl) rfl rfl rfl (lb':=[⟨g1,29,(lP b1 x1 y1 b2 x2 y2)⟩,⟨g2,27,(aL b3 x3 y3)⟩,⟨g3,29,(lP b4 x4 y4 b5 x5 y5)⟩]) rfl (fun V5 S=>?_)
  refine hK2 _ _ ?_
  refine wp_ret ?_
  exact zaQ rfl S (S.at 1 rfl) (i:=2) rfl Tryz.underlying29 rfl zaY ⟨_,rfl,((show PT 349 (q1*q2) ((q1')*q2) ((aP b4 x4 y4 b5 x5 y5)) _ from⟨b4,x4,y4,b5,x5,y5,rfl,hq4,hq5,⟨hk7,hk8⟩,⟨hk9,hk10⟩,⟨(S.num 3 rfl),(S.num 2 rfl)⟩,(S.num 1 rfl),(S.num 0 rfl)⟩)).to rfl rfl (by omega),S.below⟩
theorem ztF {q1 q1' q2 q2' r:Rat}{v1 v2 v3:Value}{V:World}(h1:P1 349 (q1) (q1') v1 V)(h2:P1 349 (q2) (q2') v2 V)(h3:Q1 349 (r) v3 V)(hs0:Sm 349 (q2 - q1))(hs1:Sm 349 (q2' - q1'))(hs2:Sm 349 ((q2 - q1)*r))(hs3:Sm 349 ((q2' - q1')*r))(hs4:Sm 349 (q1+(q2 - q1)*r))(hs5:Sm 349 (q1'+(q2' - q1')*r)):
  Calls Tryz.prog 29 #[v1,v2,v3] V (zam V (PT 349 (q1+(q2 - q1)*r) (q1'+(q2' - q1')*r))):=by
 obtain⟨b1,x1,y1,b2,x2,y2,rfl,hq1,hq2,⟨hk1,hk2⟩,⟨hk3,hk4⟩,⟨ok1,ok2⟩,ok3,ok4⟩:=h1
 obtain⟨b3,x3,y3,b4,x4,y4,rfl,hq3,hq4,⟨hk5,hk6⟩,⟨hk7,hk8⟩,⟨ok5,ok6⟩,ok7,ok8⟩:=h2
 obtain⟨b5,x5,y5,rfl,hq5,hk9,hk10,ok9,ok10⟩:=h3
 refine zaw (e:=[x5,y5,x3,y3,x4,y4,x1,y1,x2,y2]) Tryz.func29 rfl Tryz.ntmps29 (ztJ rfl) [(0,(aP b1 x1 y1 b2 x2 y2)),(1,(aP b3 x3 y3 b4 x4 y4)),(2,(aG b5 x5 y5))] rfl (zaa ok9 (zaa ok10 (zaa ok5 (zaa ok6 (zaa ok7 (zaa ok8 (zaa ok1 (zaa ok2 (zaa ok3 (zaa ok4 zaN)))))))))) (fun a S=>?_)
 refine wp_seq_k fun K1 hK1=>?_
 refine zac ?_
 refine ti S (cs:=(lP b1 x1 y1 b2 x2 y2)) (zas rfl (S.at 0 rfl) rfl) (fun g1=>[⟨g1,29,(lP b1 x1 y1 b2 x2 y2)⟩]) fun g1 a V1 hgg1 S=>?_
 refine ti S (cs:=(lP b3 x3 y3 b4 x4 y4)) (zas rfl (S.at 2 rfl) rfl) (fun g2=>[⟨g1,29,(lP b1 x1 y1 b2 x2 y2)⟩,⟨g2,29,(lP b3 x3 y3 b4 x4 y4)⟩]) fun g2 a V2 hgg2 S=>?_
 refine ti S (cs:=(aL b5 x5 y5)) (zas rfl (S.at 4 rfl) rfl) (fun g3=>[⟨g1,29,(lP b1 x1 y1 b2 x2 y2)⟩,⟨g2,29,(lP b3 x3 y3 b4 x4 y4)⟩,⟨g3,27,(aL b5 x5 y5)⟩]) fun g3 a V3 hgg3 S=>?_
 refine ti S (cs:=[.bool false,.slice none 0 0,.slice none 0 0,.bool false,.slice none 0 0,.slice none 0 0]) (zaz rfl (Tryz.zeroValue29 _) rfl) (fun g4=>[⟨g1,29,(lP b1 x1 y1 b2 x2 y2)⟩,⟨g2,29,(lP b3 x3 y3 b4 x4 y4)⟩,⟨g3,27,(aL b5 x5 y5)⟩,⟨g4,29,[.bool false,.slice none 0 0,.slice none 0 0,.bool false,.slice none 0 0,.slice none 0 0]⟩]) fun g4 a V4 hgg4 S=>?_
 refine hK1 _ _ ?_
 refine wp_seq_k fun K2 hK2=>?_
 obtain⟨W1,hW1⟩:∃W,W=V4:=⟨_,rfl⟩
 rw[←hW1]at S ⊢
 have S0:=S
 refine fr 7 [7,8,9,10,11,12,13] [IsV ((aP b1 x1 y1 b2 x2 y2)),IsV ((aP b3 x3 y3 b4 x4 y4)),IsV ((aP b1 x1 y1 b2 x2 y2)),PT 349 (q2 - q1) ((q2') - (q1')),IsV ((aG b5 x5 y5)),PT 349 ((q2 - q1)*r) (((q2') - (q1'))*r),PT 349 (q1+((q2 - q1)*r)) ((q1')+(((q2') - (q1'))*r))] S ?_ ?_
 ·refine sc (fun _ _ S _ _=>sv rfl (zaj rfl (S.at 3 rfl) (S.bx 0 rfl) Tryz.underlying29 rfl (vs:=(lP b1 x1 y1 b2 x2 y2)) zaY rfl)) ?_
  refine sc (fun _ _ S _ _=>sv rfl (zaj rfl (S.at 2 rfl) (S.bx 1 rfl) Tryz.underlying29 rfl (vs:=(lP b3 x3 y3 b4 x4 y4)) zaY rfl)) ?_
  refine sc (fun _ _ S _ _=>sv rfl (zaj rfl (S.at 3 rfl) (S.bx 0 rfl) Tryz.underlying29 rfl (vs:=(lP b1 x1 y1 b2 x2 y2)) zaY rfl)) ?_
  refine sc (fun _ _ S _ hd=>sl rfl (rc2 Tryz.func41 (hd.v 1 rfl rfl) (hd.v 2 rfl rfl)) (zpR (show P1 349 (q2) (q2') ((aP b3 x3 y3 b4 x4 y4)) _ from⟨b3,x3,y3,b4,x4,y4,rfl,hq3,hq4,⟨hk5,hk6⟩,⟨hk7,hk8⟩,⟨(S.num 2 rfl),(S.num 3 rfl)⟩,(S.num 4 rfl),(S.num 5 rfl)⟩) (show P1 349 (q1) (q1') ((aP b1 x1 y1 b2 x2 y2)) _ from⟨b1,x1,y1,b2,x2,y2,rfl,hq1,hq2,⟨hk1,hk2⟩,⟨hk3,hk4⟩,⟨(S.num 6 rfl),(S.num 7 rfl)⟩,(S.num 8 rfl),(S.num 9 rfl)⟩) (by assumption) (by assumption))) ?_
  refine sc (fun _ _ S _ _=>sv rfl (zaj rfl (S.at 1 rfl) (S.bx 2 rfl) Tryz.underlying27 rfl (vs:=(aL b5 x5 y5)) zap rfl)) ?_
  refine sc (fun _ _ S _ hd=>sl rfl (rc2 Tryz.func53 rfl (hd.v 4 rfl rfl)) (zq6 ((hd.r 3 rfl rfl)).any (show Q1 349 (r) ((aG b5 x5 y5)) _ from⟨b5,x5,y5,rfl,hq5,hk9,hk10,(S.num 0 rfl),(S.num 1 rfl)⟩) (by assumption) (by assumption))) ?_
  refine sc (fun _ _ S _ hd=>sl rfl (rc2 Tryz.func25 (hd.v 0 rfl rfl) rfl) (zsE (show P1 349 (q1) (q1') ((aP b1 x1 y1 b2 x2 y2)) _ from⟨b1,x1,y1,b2,x2,y2,rfl,hq1,hq2,⟨hk1,hk2⟩,⟨hk3,hk4⟩,⟨(S.num 6 rfl),(S.num 7 rfl)⟩,(S.num 8 rfl),(S.num 9 rfl)⟩) ((hd.r 5 rfl rfl)).any (by assumption) (by assumption))) ?_
  exact sn
 ·intro a1 V5 S hB hf
  obtain⟨b6,x6,y6,b7,x7,y7,hv1,hq6,hq7,⟨hk11,hk12⟩,⟨hk13,hk14⟩,⟨ok11,ok12⟩,ok13,ok14⟩:=hf.r 6 rfl rfl
  have S:=S.add hv1
  have S:=S.know ok11
  have S:=S.know ok12
  have S:=S.know ok13
  have S:=S.know ok14
  clear hf S0
  show wpList _ _ _ [_] _ _
  refine zaA S (i:=3) (vs:=(lP b6 x6 y6 b7 x7 y7)) rfl (fun ht=>zav rfl (S.at 1 rfl) (S.at 0 rfl) zaY rfl (ztJ rfl) ht) (ztJ rfl) rfl rfl rfl (lb':=[⟨g1,29,(lP b1 x1 y1 b2 x2 y2)⟩,⟨g2,29,(lP b3 x3 y3 b4 x4 y4)⟩,⟨g3,27,(aL b5 x5 y5)⟩,⟨g4,29,(lP b6 x6 y6 b7 x7 y7)⟩]) rfl (fun V6 S=>?_)
  refine hK2 _ _ ?_
  refine wp_ret ?_
  exact zaQ rfl S (S.at 1 rfl) (i:=3) rfl Tryz.underlying29 rfl zaY ⟨_,rfl,((show PT 349 (q1+((q2 - q1)*r)) ((q1')+(((q2') - (q1'))*r)) ((aP b6 x6 y6 b7 x7 y7)) _ from⟨b6,x6,y6,b7,x7,y7,rfl,hq6,hq7,⟨hk11,hk12⟩,⟨hk13,hk14⟩,⟨(S.num 3 rfl),(S.num 2 rfl)⟩,(S.num 1 rfl),(S.num 0 rfl)⟩)).to rfl rfl (by omega),S.below⟩
theorem ztu {q:Rat}{v1:Value}{V:World}(h1:Q1 349 (q) v1 V)(hs0:Sm 349 (((0:Int):Rat) - q)):
  Calls Tryz.prog 52 #[v1] V (zam V (QT 349 (absR q))):=by
 obtain⟨b1,x1,y1,rfl,hq1,hk1,hk2,ok1,ok2⟩:=h1
 refine zaw (e:=[x1,y1]) Tryz.func52 rfl Tryz.ntmps52 (ztJ rfl) [(0,(aG b1 x1 y1))] rfl (zaa ok1 (zaa ok2 zaN)) (fun a S=>?_)
 refine wp_seq_k fun K1 hK1=>?_
 refine zac ?_
 refine ti S (cs:=(aL b1 x1 y1)) (zas rfl (S.at 0 rfl) rfl) (fun g1=>[⟨g1,27,(aL b1 x1 y1)⟩]) fun g1 a V1 hgg1 S=>?_
 refine ti S (cs:=[.bool false,.slice none 0 0,.slice none 0 0]) (zaz rfl (Tryz.zeroValue27 _) rfl) (fun g2=>[⟨g1,27,(aL b1 x1 y1)⟩,⟨g2,27,[.bool false,.slice none 0 0,.slice none 0 0]⟩]) fun g2 a V2 hgg2 S=>?_
 refine hK1 _ _ ?_
 refine wp_seq_k fun K2 hK2=>?_
 refine wp_seq_k fun K3 hK3=>?_
 refine zac ?_
 refine tv S (zaj rfl (S.at 1 rfl) (S.bx 0 rfl) Tryz.underlying27 rfl (vs:=(aL b1 x1 y1)) zap rfl) fun a S=>?_
 refine tc S (F:=(fun v _=>v= .int .i64 (zag q 0))) (rc1 Tryz.func30 (S.at 0 rfl)) (zgQ (show Q1 349 (q) ((aG b1 x1 y1)) _ from⟨b1,x1,y1,rfl,hq1,hk1,hk2,(S.num 0 rfl),(S.num 1 rfl)⟩)) fun v a V3 hF hb S=>?_
 subst hF
 refine tv S (zdr rfl (S.at 0 rfl) rfl) fun a S=>?_
 refine hK3 _ _ ?_
 rcases ztT (decide (zag q 0<0))with hc5|hc5
 ·refine wp_cond_true ((S.at 0 rfl).trans (congrArg Value.bool hc5)) ?_
  refine wp_seq_k fun K4 hK4=>?_
  obtain⟨W1,hW1⟩:∃W,W=V3:=⟨_,rfl⟩
  rw[←hW1]at S ⊢
  have S0:=S
  refine fr 3 [6,7,8] [QT 2 ((0:Int)),IsV ((aG b1 x1 y1)),QT 349 ((0:Int) - q)] S ?_ ?_
  ·refine sc (fun _ _ _ _ _=>sl rfl (rcc Tryz.func32) (zhl (n:=0) (by decide))) ?_
   refine sc (fun _ _ S _ _=>sv rfl (zaj rfl (S.at 4 rfl) (S.bx 0 rfl) Tryz.underlying27 rfl (vs:=(aL b1 x1 y1)) zap rfl)) ?_
   refine sc (fun _ _ S _ hd=>sl rfl (rc2 Tryz.func68 rfl (hd.v 1 rfl rfl)) (zoD ((hd.r 0 rfl rfl)).any (show Q1 349 (q) ((aG b1 x1 y1)) _ from⟨b1,x1,y1,rfl,hq1,hk1,hk2,(S.num 0 rfl),(S.num 1 rfl)⟩) (by decide) (by decide) (by assumption) (by decide))) ?_
   exact sn
  ·intro a1 V4 S hB hf
   obtain⟨b2,x2,y2,hv1,hq2,hk3,hk4,ok3,ok4⟩:=hf.r 2 rfl rfl
   have S:=S.add hv1
   have S:=S.know ok3
   have S:=S.know ok4
   clear hf S0
   show wpList _ _ _ [_] _ _
   refine zaA S (i:=1) (vs:=(aL b2 x2 y2)) rfl (fun ht=>zav rfl (S.at 4 rfl) (S.at 0 rfl) zap rfl (ztJ rfl) ht) (ztJ rfl) rfl rfl rfl (lb':=[⟨g1,27,(aL b1 x1 y1)⟩,⟨g2,27,(aL b2 x2 y2)⟩]) rfl (fun V5 S=>?_)
   refine hK4 _ _ ?_
   refine wp_ret ?_
   exact zaQ rfl S (S.at 4 rfl) (i:=1) rfl Tryz.underlying27 rfl zap ⟨_,rfl,((show QT 349 ((0:Int) - q) ((aG b2 x2 y2)) _ from⟨b2,x2,y2,rfl,hq2,hk3,hk4,(S.num 1 rfl),(S.num 0 rfl)⟩)).to ((show _= -q by grind).trans (zpN hc5)) (by omega),S.below⟩
 ·refine wp_cond_false ((S.at 0 rfl).trans (congrArg Value.bool hc5)) ?_
  refine wp_skip ?_
  refine hK2 _ _ ?_
  refine wp_seq_k fun K5 hK5=>?_
  refine zac ?_
  refine tv S (zaj rfl (S.at 4 rfl) (S.bx 0 rfl) Tryz.underlying27 rfl (vs:=(aL b1 x1 y1)) zap rfl) fun a S=>?_
  refine tc S (F:=QT 349 (q)) (rc1 Tryz.func51 (S.at 0 rfl)) (zfF (show Q1 349 (q) ((aG b1 x1 y1)) _ from⟨b1,x1,y1,rfl,hq1,hk1,hk2,(S.num 0 rfl),(S.num 1 rfl)⟩) (by decide)) fun v a V6 hF hb S=>?_
  obtain⟨b3,x3,y3,rfl,hq3,hk5,hk6,ok5,ok6⟩:=hF
  have S:=S.know ok5
  have S:=S.know ok6
  refine zaA S (i:=1) (vs:=(aL b3 x3 y3)) rfl (fun ht=>zav rfl (S.at 5 rfl) (S.at 0 rfl) zap rfl (ztJ rfl) ht) (ztJ rfl) rfl rfl rfl (lb':=[⟨g1,27,(aL b1 x1 y1)⟩,⟨g2,27,(aL b3 x3 y3)⟩]) rfl (fun V7 S=>?_)
  refine hK5 _ _ ?_
  refine wp_ret ?_
  exact zaQ rfl S (S.at 5 rfl) (i:=1) rfl Tryz.underlying27 rfl zap ⟨_,rfl,((show QT 349 (q) ((aG b3 x3 y3)) _ from⟨b3,x3,y3,rfl,hq3,hk5,hk6,(S.num 1 rfl),(S.num 0 rfl)⟩)).to (zpO hc5) (by omega),S.below⟩
theorem Sm.nought_sub (h:Sm K q):Sm K (((0:Int):Rat) - q):=by
 rw[show(((0:Int):Rat) - q)= -q by grind];exact h.neg
theorem Sm.absR (h:Sm K q):Sm K (absR q):=by
 unfold Go.Proofs.YtdeelcoipmdoiaaGreatDoor.absR
 split
 ·exact h.neg
 ·exact h
theorem zrt (h:Q1 K q v V)(b:K≤349):Calls Tryz.prog 52 #[v] V (zam V (QT 349 (absR q))):=
 ztu (h.to rfl b) (h.sm.nought_sub.mono (by omega))
theorem zpS {q1 q1' q2 q2':Rat}{v1 v2:Value}{V:World}(h1:P1 349 (q1) (q1') v1 V)(h2:P1 349 (q2) (q2') v2 V)(hs0:Sm 349 (q1 - q2))(hs1:Sm 349 (q1' - q2'))(hs2:Sm 349 (absR (q1 - q2)+absR (q1' - q2'))):
  Calls Tryz.prog 28 #[v1,v2] V (zam V (QT 349 (absR (q1 - q2)+absR (q1' - q2')))):=by
 obtain⟨b1,x1,y1,b2,x2,y2,rfl,hq1,hq2,⟨hk1,hk2⟩,⟨hk3,hk4⟩,⟨ok1,ok2⟩,ok3,ok4⟩:=h1
 obtain⟨b3,x3,y3,b4,x4,y4,rfl,hq3,hq4,⟨hk5,hk6⟩,⟨hk7,hk8⟩,⟨ok5,ok6⟩,ok7,ok8⟩:=h2
 refine zaw (e:=[x3,y3,x4,y4,x1,y1,x2,y2]) Tryz.func28 rfl Tryz.ntmps28 (ztJ rfl) [(0,(aP b1 x1 y1 b2 x2 y2)),(1,(aP b3 x3 y3 b4 x4 y4))] rfl (zaa ok5 (zaa ok6 (zaa ok7 (zaa ok8 (zaa ok1 (zaa ok2 (zaa ok3 (zaa ok4 zaN)))))))) (fun a S=>?_)
 refine wp_seq_k fun K1 hK1=>?_
 refine zac ?_
 refine ti S (cs:=(lP b1 x1 y1 b2 x2 y2)) (zas rfl (S.at 0 rfl) rfl) (fun g1=>[⟨g1,29,(lP b1 x1 y1 b2 x2 y2)⟩]) fun g1 a V1 hgg1 S=>?_
 refine ti S (cs:=(lP b3 x3 y3 b4 x4 y4)) (zas rfl (S.at 2 rfl) rfl) (fun g2=>[⟨g1,29,(lP b1 x1 y1 b2 x2 y2)⟩,⟨g2,29,(lP b3 x3 y3 b4 x4 y4)⟩]) fun g2 a V2 hgg2 S=>?_
 refine ti S (cs:=[.bool false,.slice none 0 0,.slice none 0 0]) (zaz rfl (Tryz.zeroValue27 _) rfl) (fun g3=>[⟨g1,29,(lP b1 x1 y1 b2 x2 y2)⟩,⟨g2,29,(lP b3 x3 y3 b4 x4 y4)⟩,⟨g3,27,[.bool false,.slice none 0 0,.slice none 0 0]⟩]) fun g3 a V3 hgg3 S=>?_
 refine hK1 _ _ ?_
 refine wp_seq_k fun K2 hK2=>?_
 refine zac ?_
 refine tv S (zaj rfl (S.at 2 rfl) (S.bx 0 rfl) Tryz.underlying29 rfl (vs:=(lP b1 x1 y1 b2 x2 y2)) zaY rfl) fun a S=>?_
 refine tv S (zaj rfl (S.at 2 rfl) (S.bx 1 rfl) Tryz.underlying29 rfl (vs:=(lP b3 x3 y3 b4 x4 y4)) zaY rfl) fun a S=>?_
 refine tc S (F:=PT 349 (q1 - q2) ((q1') - (q2'))) (rc2 Tryz.func41 (S.at 1 rfl) (S.at 0 rfl)) (zpR (show P1 349 (q1) (q1') ((aP b1 x1 y1 b2 x2 y2)) _ from⟨b1,x1,y1,b2,x2,y2,rfl,hq1,hq2,⟨hk1,hk2⟩,⟨hk3,hk4⟩,⟨(S.num 4 rfl),(S.num 5 rfl)⟩,(S.num 6 rfl),(S.num 7 rfl)⟩) (show P1 349 (q2) (q2') ((aP b3 x3 y3 b4 x4 y4)) _ from⟨b3,x3,y3,b4,x4,y4,rfl,hq3,hq4,⟨hk5,hk6⟩,⟨hk7,hk8⟩,⟨(S.num 0 rfl),(S.num 1 rfl)⟩,(S.num 2 rfl),(S.num 3 rfl)⟩) (by assumption) (by assumption)) fun v a V4 hF hb S=>?_
 obtain⟨b5,x5,y5,b6,x6,y6,rfl,hq5,hq6,⟨hk9,hk10⟩,⟨hk11,hk12⟩,⟨ok9,ok10⟩,ok11,ok12⟩:=hF
 have S:=S.know ok9
 have S:=S.know ok10
 have S:=S.know ok11
 have S:=S.know ok12
 refine ti S (cs:=[.bool false,.slice none 0 0,.slice none 0 0,.bool false,.slice none 0 0,.slice none 0 0]) (zaz rfl (Tryz.zeroValue29 _) rfl) (fun g4=>[⟨g1,29,(lP b1 x1 y1 b2 x2 y2)⟩,⟨g2,29,(lP b3 x3 y3 b4 x4 y4)⟩,⟨g3,27,[.bool false,.slice none 0 0,.slice none 0 0]⟩,⟨g4,29,[.bool false,.slice none 0 0,.slice none 0 0,.bool false,.slice none 0 0,.slice none 0 0]⟩]) fun g4 a V5 hgg4 S=>?_
 refine zaA S (i:=3) (vs:=(lP b5 x5 y5 b6 x6 y6)) rfl (fun ht=>zav rfl (S.at 0 rfl) (S.at 1 rfl) zaY rfl (ztJ rfl) ht) (ztJ rfl) rfl rfl rfl (lb':=[⟨g1,29,(lP b1 x1 y1 b2 x2 y2)⟩,⟨g2,29,(lP b3 x3 y3 b4 x4 y4)⟩,⟨g3,27,[.bool false,.slice none 0 0,.slice none 0 0]⟩,⟨g4,29,(lP b5 x5 y5 b6 x6 y6)⟩]) rfl (fun V6 S=>?_)
 refine hK2 _ _ ?_
 refine wp_seq_k fun K3 hK3=>?_
 obtain⟨W1,hW1⟩:∃W,W=V6:=⟨_,rfl⟩
 rw[←hW1]at S ⊢
 have S0:=S
 refine fr 8 [9,10,11,12,13,14,15,16] [IsV (pT g4 0),IsV ((aG b5 x5 y5)),QT 349 (absR (q1 - q2)),IsV (pT g4 3),IsV ((aG b6 x6 y6)),QT 349 (absR ((q1') - (q2'))),QL 349 6 ([absR (q1 - q2),absR ((q1') - (q2'))]),QT 349 ((absR (q1 - q2))+(absR ((q1') - (q2'))))] S ?_ ?_
 ·refine sc (fun _ _ S _ _=>sv rfl (zae rfl (S.at 0 rfl) (zbj _))) ?_
  refine sc (fun _ _ S _ hd=>sv rfl (zaj rfl (hd.v 0 rfl rfl) (S.bx 3 rfl) Tryz.underlying27 rfl (vs:=(aL b5 x5 y5)) zap rfl)) ?_
  refine sc (fun _ _ S _ hd=>sl rfl (rc1 Tryz.func52 (hd.v 1 rfl rfl)) (zrt (show QT 349 (q1 - q2) ((aG b5 x5 y5)) _ from⟨b5,x5,y5,rfl,hq5,hk9,hk10,(S.num 3 rfl),(S.num 2 rfl)⟩).any (by decide))) ?_
  refine sc (fun _ _ S _ _=>sv rfl (zae rfl (S.at 0 rfl) (zbk _))) ?_
  refine sc (fun _ _ S _ hd=>sv rfl (zaj rfl (hd.v 3 rfl rfl) (S.bx 3 rfl) Tryz.underlying27 rfl (vs:=(aL b6 x6 y6)) zap rfl)) ?_
  refine sc (fun _ _ S _ hd=>sl rfl (rc1 Tryz.func52 (hd.v 4 rfl rfl)) (zrt (show QT 349 ((q1') - (q2')) ((aG b6 x6 y6)) _ from⟨b6,x6,y6,rfl,hq6,hk11,hk12,(S.num 1 rfl),(S.num 0 rfl)⟩).any (by decide))) ?_
  refine sc (fun _ _ _ _ hd=>sy rfl (zcy rfl rfl rfl ((hd.r 2 rfl rfl)).any ((hd.r 5 rfl rfl)).any)) ?_
  refine sc (fun _ _ _ _ hd=>sl rfl (rc1 Tryz.func27 rfl) (zgN ((hd.r 6 rfl rfl)).row (by decide) (by assumption))) ?_
  exact sn
 ·intro a1 V7 S hB hf
  obtain⟨b7,x7,y7,hv1,hq7,hk13,hk14,ok13,ok14⟩:=hf.r 7 rfl rfl
  have S:=S.add hv1
  have S:=S.know ok13
  have S:=S.know ok14
  clear hf S0
  show wpList _ _ _ [_] _ _
  refine zaA S (i:=2) (vs:=(aL b7 x7 y7)) rfl (fun ht=>zav rfl (S.at 5 rfl) (S.at 0 rfl) zap rfl (ztJ rfl) ht) (ztJ rfl) rfl rfl rfl (lb':=[⟨g1,29,(lP b1 x1 y1 b2 x2 y2)⟩,⟨g2,29,(lP b3 x3 y3 b4 x4 y4)⟩,⟨g3,27,(aL b7 x7 y7)⟩,⟨g4,29,(lP b5 x5 y5 b6 x6 y6)⟩]) rfl (fun V8 S=>?_)
  refine hK3 _ _ ?_
  refine wp_ret ?_
  exact zaQ rfl S (S.at 5 rfl) (i:=2) rfl Tryz.underlying27 rfl zap ⟨_,rfl,((show QT 349 ((absR (q1 - q2))+(absR ((q1') - (q2')))) ((aG b7 x7 y7)) _ from⟨b7,x7,y7,rfl,hq7,hk13,hk14,(S.num 1 rfl),(S.num 0 rfl)⟩)).to rfl (by omega),S.below⟩
theorem zsF {q1 q1' q2 q2':Rat}{v1 v2:Value}{V:World}(h1:P1 349 (q1) (q1') v1 V)(h2:P1 349 (q2) (q2') v2 V):
  Calls Tryz.prog 60 #[v1,v2] V (zam V (fun v _=>v= .int .i64 (za5 q1 q1' q2 q2'))):=by
 obtain⟨b1,x1,y1,b2,x2,y2,rfl,hq1,hq2,⟨hk1,hk2⟩,⟨hk3,hk4⟩,⟨ok1,ok2⟩,ok3,ok4⟩:=h1
 obtain⟨b3,x3,y3,b4,x4,y4,rfl,hq3,hq4,⟨hk5,hk6⟩,⟨hk7,hk8⟩,⟨ok5,ok6⟩,ok7,ok8⟩:=h2
 refine zaw (e:=[x3,y3,x4,y4,x1,y1,x2,y2]) Tryz.func60 rfl Tryz.ntmps60 (ztJ rfl) [(0,(aP b1 x1 y1 b2 x2 y2)),(1,(aP b3 x3 y3 b4 x4 y4))] rfl (zaa ok5 (zaa ok6 (zaa ok7 (zaa ok8 (zaa ok1 (zaa ok2 (zaa ok3 (zaa ok4 zaN)))))))) (fun a S=>?_)
 refine wp_seq_k fun K1 hK1=>?_
 refine zac ?_
 refine ti S (cs:=(lP b1 x1 y1 b2 x2 y2)) (zas rfl (S.at 0 rfl) rfl) (fun g1=>[⟨g1,29,(lP b1 x1 y1 b2 x2 y2)⟩]) fun g1 a V1 hgg1 S=>?_
 refine ti S (cs:=(lP b3 x3 y3 b4 x4 y4)) (zas rfl (S.at 2 rfl) rfl) (fun g2=>[⟨g1,29,(lP b1 x1 y1 b2 x2 y2)⟩,⟨g2,29,(lP b3 x3 y3 b4 x4 y4)⟩]) fun g2 a V2 hgg2 S=>?_
 refine tv S (zaB rfl) fun a S=>?_
 refine hK1 _ _ ?_
 refine wp_seq_k fun K2 hK2=>?_
 refine zac ?_
 refine tv S (zae rfl (S.at 2 rfl) (zbj _)) fun a S=>?_
 refine tv S (zaj rfl (S.at 0 rfl) (S.bx 0 rfl) Tryz.underlying27 rfl (vs:=(aL b1 x1 y1)) zap rfl) fun a S=>?_
 refine tv S (zae rfl (S.at 3 rfl) (zbj _)) fun a S=>?_
 refine tv S (zaj rfl (S.at 0 rfl) (S.bx 1 rfl) Tryz.underlying27 rfl (vs:=(aL b3 x3 y3)) zap rfl) fun a S=>?_
 refine tc S (F:=(fun v _=>v= .int .i64 (zag q1 q2))) (rc2 Tryz.func31 (S.at 2 rfl) (S.at 0 rfl)) (zfZ (show Q1 349 (q1) ((aG b1 x1 y1)) _ from⟨b1,x1,y1,rfl,hq1,hk1,hk2,(S.num 4 rfl),(S.num 5 rfl)⟩) (show Q1 349 (q2) ((aG b3 x3 y3)) _ from⟨b3,x3,y3,rfl,hq3,hk5,hk6,(S.num 0 rfl),(S.num 1 rfl)⟩) (by decide) (by decide)) fun v a V3 hF hb S=>?_
 subst hF
 refine tv S (zak rfl (S.at 0 rfl)) fun a S=>?_
 refine hK2 _ _ ?_
 refine wp_seq_k fun K3 hK3=>?_
 refine wp_seq_k fun K4 hK4=>?_
 refine zac ?_
 refine tv S (zab rfl (S.at 0 rfl)) fun a S=>?_
 refine tv S (zfC _ (by decide) rfl (S.at 0 rfl) rfl) fun a S=>?_
 refine hK4 _ _ ?_
 rcases ztT (!decide (zag q1 q2=0))with hc12|hc12
 ·refine wp_cond_true ((S.at 0 rfl).trans (congrArg Value.bool hc12)) ?_
  refine wp_seq_k fun K5 hK5=>?_
  refine zac ?_
  refine tv S (zab rfl (S.at 2 rfl)) fun a S=>?_
  refine za1 S (v:= .int .i64 (zag q1 q2)) (zak rfl (S.at 0 rfl)) rfl rfl (by decide) (ls':=[(13,.int .i64 (zag q1 q2)),(12,.bool (!decide (zag q1 q2=0))),(11,.int .i64 (zag q1 q2)),(5,.int .i64 (zag q1 q2)),(10,.int .i64 (zag q1 q2)),(9,(aG b3 x3 y3)),(8,pT g2 0),(7,(aG b1 x1 y1)),(6,pT g1 0),(3,pT g2 0),(2,pT g1 0),(0,(aP b1 x1 y1 b2 x2 y2)),(1,(aP b3 x3 y3 b4 x4 y4))]) rfl (fun a S=>?_)
  refine hK5 _ _ ?_
  refine wp_ret ?_
  exact zaD rfl S (S.at 0 rfl) ⟨_,rfl,congrArg (Value.int .i64) (zpP hc12),S.below⟩
 ·refine wp_cond_false ((S.at 0 rfl).trans (congrArg Value.bool hc12)) ?_
  refine wp_skip ?_
  refine hK3 _ _ ?_
  refine wp_seq_k fun K6 hK6=>?_
  refine zac ?_
  refine tv S (zae rfl (S.at 10 rfl) (zbk _)) fun a S=>?_
  refine tv S (zaj rfl (S.at 0 rfl) (S.bx 0 rfl) Tryz.underlying27 rfl (vs:=(aL b2 x2 y2)) zap rfl) fun a S=>?_
  refine tv S (zae rfl (S.at 11 rfl) (zbk _)) fun a S=>?_
  refine tv S (zaj rfl (S.at 0 rfl) (S.bx 1 rfl) Tryz.underlying27 rfl (vs:=(aL b4 x4 y4)) zap rfl) fun a S=>?_
  refine tc S (F:=(fun v _=>v= .int .i64 (zag (q1') (q2')))) (rc2 Tryz.func31 (S.at 2 rfl) (S.at 0 rfl)) (zfZ (show Q1 349 (q1') ((aG b2 x2 y2)) _ from⟨b2,x2,y2,rfl,hq2,hk3,hk4,(S.num 6 rfl),(S.num 7 rfl)⟩) (show Q1 349 (q2') ((aG b4 x4 y4)) _ from⟨b4,x4,y4,rfl,hq4,hk7,hk8,(S.num 2 rfl),(S.num 3 rfl)⟩) (by decide) (by decide)) fun v a V4 hF hb S=>?_
  subst hF
  refine za1 S (v:= .int .i64 (zag (q1') (q2'))) (zak rfl (S.at 0 rfl)) rfl rfl (by decide) (ls':=[(18,.int .i64 (zag (q1') (q2'))),(17,(aG b4 x4 y4)),(16,pT g2 3),(15,(aG b2 x2 y2)),(14,pT g1 3),(12,.bool (!decide (zag q1 q2=0))),(11,.int .i64 (zag q1 q2)),(5,.int .i64 (zag q1 q2)),(10,.int .i64 (zag q1 q2)),(9,(aG b3 x3 y3)),(8,pT g2 0),(7,(aG b1 x1 y1)),(6,pT g1 0),(3,pT g2 0),(2,pT g1 0),(0,(aP b1 x1 y1 b2 x2 y2)),(1,(aP b3 x3 y3 b4 x4 y4))]) rfl (fun a S=>?_)
  refine hK6 _ _ ?_
  refine wp_ret ?_
  exact zaD rfl S (S.at 0 rfl) ⟨_,rfl,congrArg (Value.int .i64) (zpQ hc12),S.below⟩
theorem zq7 {q1 q1' q2 q2':Rat}{v1 v2:Value}{V:World}(h1:P1 349 (q1) (q1') v1 V)(h2:P1 349 (q2) (q2') v2 V):
  Calls Tryz.prog 33 #[v1,v2] V (zam V (fun v _=>v= .bool (decide (za5 q1 q1' q2 q2'=0)))):=by
 obtain⟨b1,x1,y1,b2,x2,y2,rfl,hq1,hq2,⟨hk1,hk2⟩,⟨hk3,hk4⟩,⟨ok1,ok2⟩,ok3,ok4⟩:=h1
 obtain⟨b3,x3,y3,b4,x4,y4,rfl,hq3,hq4,⟨hk5,hk6⟩,⟨hk7,hk8⟩,⟨ok5,ok6⟩,ok7,ok8⟩:=h2
 refine zaw (e:=[x3,y3,x4,y4,x1,y1,x2,y2]) Tryz.func33 rfl Tryz.ntmps33 (ztJ rfl) [(0,(aP b1 x1 y1 b2 x2 y2)),(1,(aP b3 x3 y3 b4 x4 y4))] rfl (zaa ok5 (zaa ok6 (zaa ok7 (zaa ok8 (zaa ok1 (zaa ok2 (zaa ok3 (zaa ok4 zaN)))))))) (fun a S=>?_)
 refine wp_seq_k fun K1 hK1=>?_
 refine zac ?_
 refine ti S (cs:=(lP b1 x1 y1 b2 x2 y2)) (zas rfl (S.at 0 rfl) rfl) (fun g1=>[⟨g1,29,(lP b1 x1 y1 b2 x2 y2)⟩]) fun g1 a V1 hgg1 S=>?_
 refine ti S (cs:=(lP b3 x3 y3 b4 x4 y4)) (zas rfl (S.at 2 rfl) rfl) (fun g2=>[⟨g1,29,(lP b1 x1 y1 b2 x2 y2)⟩,⟨g2,29,(lP b3 x3 y3 b4 x4 y4)⟩]) fun g2 a V2 hgg2 S=>?_
 refine tv S (zaB rfl) fun a S=>?_
 refine hK1 _ _ ?_
 refine wp_seq_k fun K2 hK2=>?_
 refine zac ?_
 refine tv S (zaj rfl (S.at 2 rfl) (S.bx 0 rfl) Tryz.underlying29 rfl (vs:=(lP b1 x1 y1 b2 x2 y2)) zaY rfl) fun a S=>?_
 refine tv S (zaj rfl (S.at 2 rfl) (S.bx 1 rfl) Tryz.underlying29 rfl (vs:=(lP b3 x3 y3 b4 x4 y4)) zaY rfl) fun a S=>?_
 refine tc S (F:=(fun v _=>v= .int .i64 (za5 q1 (q1') q2 (q2')))) (rc2 Tryz.func60 (S.at 1 rfl) (S.at 0 rfl)) (zsF (show P1 349 (q1) (q1') ((aP b1 x1 y1 b2 x2 y2)) _ from⟨b1,x1,y1,b2,x2,y2,rfl,hq1,hq2,⟨hk1,hk2⟩,⟨hk3,hk4⟩,⟨(S.num 4 rfl),(S.num 5 rfl)⟩,(S.num 6 rfl),(S.num 7 rfl)⟩) (show P1 349 (q2) (q2') ((aP b3 x3 y3 b4 x4 y4)) _ from⟨b3,x3,y3,b4,x4,y4,rfl,hq3,hq4,⟨hk5,hk6⟩,⟨hk7,hk8⟩,⟨(S.num 0 rfl),(S.num 1 rfl)⟩,(S.num 2 rfl),(S.num 3 rfl)⟩)) fun v a V3 hF hb S=>?_
 subst hF
 refine tv S (zbr _ (by decide) rfl (S.at 0 rfl) rfl) fun a S=>?_
 refine za1 S (v:= .bool (decide (za5 q1 (q1') q2 (q2')=0))) (zak rfl (S.at 0 rfl)) rfl rfl (by decide) (ls':=[(8,.bool (decide (za5 q1 (q1') q2 (q2')=0))),(7,.int .i64 (za5 q1 (q1') q2 (q2'))),(6,(aP b3 x3 y3 b4 x4 y4)),(5,(aP b1 x1 y1 b2 x2 y2)),(3,pT g2 0),(2,pT g1 0),(0,(aP b1 x1 y1 b2 x2 y2)),(1,(aP b3 x3 y3 b4 x4 y4))]) rfl (fun a S=>?_)
 refine hK2 _ _ ?_
 refine wp_ret ?_
 exact zaD rfl S (S.at 0 rfl) ⟨_,rfl,rfl,S.below⟩
end Go.Proofs.YtdeelcoipmdoiaaGreatDoor
