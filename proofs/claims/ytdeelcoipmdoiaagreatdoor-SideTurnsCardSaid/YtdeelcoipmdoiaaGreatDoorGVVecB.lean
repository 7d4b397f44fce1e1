/- A part. -/
import Derived.Test.YtdeelcoipmdoiaaGreatDoorGVVec
set_option maxHeartbeats 4000000
set_option maxRecDepth 100000
namespace Go.Proofs.YtdeelcoipmdoiaaGreatDoor
open Go Go.RowKit
variable {v v1 v2:Value}{V:World}{K K':Nat}{q q' q1 q1' q2 q2':Rat}
theorem zkx {q1 q1' q2 q2':Rat}{v1 v2:Value}{V:World}(h1:P1 349 (q1) (q1') v1 V)(h2:P1 349 (q2) (q2') v2 V)(hs0:Sm 349 (q1+q2))(hs1:Sm 349 (q1'+q2')):
  Calls Tryz.prog 25 #[v1,v2] V (zao V (PT 349 (q1+q2) (q1'+q2'))):=by
 obtain⟨b1,x1,y1,b2,x2,y2,rfl,hq1,hq2,⟨hk1,hk2⟩,⟨hk3,hk4⟩,⟨ok1,ok2⟩,ok3,ok4⟩:=h1
 obtain⟨b3,x3,y3,b4,x4,y4,rfl,hq3,hq4,⟨hk5,hk6⟩,⟨hk7,hk8⟩,⟨ok5,ok6⟩,ok7,ok8⟩:=h2
 refine zaz (e:=[x3,y3,x4,y4,x1,y1,x2,y2]) Tryz.func25 rfl Tryz.ntmps25 (zsj rfl) [(0,(aP b1 x1 y1 b2 x2 y2)),(1,(aP b3 x3 y3 b4 x4 y4))] rfl (zaa ok5 (zaa ok6 (zaa ok7 (zaa ok8 (zaa ok1 (zaa ok2 (zaa ok3 (zaa ok4 zaW)))))))) (fun a S=>?_)
 refine wp_seq_k fun K1 hK1=>?_
 refine zab ?_
 refine ti S (cs:=(lP b1 x1 y1 b2 x2 y2)) (zaB rfl (S.at 0 rfl) rfl) (fun g1=>[⟨g1,29,(lP b1 x1 y1 b2 x2 y2)⟩]) fun g1 a V1 hgg1 S=>?_
 refine ti S (cs:=(lP b3 x3 y3 b4 x4 y4)) (zaB rfl (S.at 2 rfl) rfl) (fun g2=>[⟨g1,29,(lP b1 x1 y1 b2 x2 y2)⟩,⟨g2,29,(lP b3 x3 y3 b4 x4 y4)⟩]) fun g2 a V2 hgg2 S=>?_
 refine ti S (cs:=[.bool false,.slice none 0 0,.slice none 0 0,.bool false,.slice none 0 0,.slice none 0 0]) (zay rfl (Tryz.zeroValue29 _) rfl) (fun g3=>[⟨g1,29,(lP b1 x1 y1 b2 x2 y2)⟩,⟨g2,29,(lP b3 x3 y3 b4 x4 y4)⟩,⟨g3,29,[.bool false,.slice none 0 0,.slice none 0 0,.bool false,.slice none 0 0,.slice none 0 0]⟩]) fun g3 a V3 hgg3 S=>?_
 refine hK1 _ _ ?_
 refine wp_seq_k fun K2 hK2=>?_
 obtain⟨W1,hW1⟩:∃W,W=V3:=⟨_,rfl⟩
 rw[←hW1]at S ⊢
 have S0:=S
 refine fr 13 [5,6,7,8,9,10,11,12,13,14,15,16,17] [IsV (pT g1 0),IsV ((aG b1 x1 y1)),IsV (pT g2 0),IsV ((aG b3 x3 y3)),QL 349 6 ([q1,q2]),QT 349 (q1+q2),IsV (pT g1 3),IsV ((aG b2 x2 y2)),IsV (pT g2 3),IsV ((aG b4 x4 y4)),QL 349 6 ([q1',q2']),QT 349 ((q1')+(q2')),PT 349 (q1+q2) ((q1')+(q2'))] S ?_ ?_
 ·refine sc (fun _ _ S _ _=>sv rfl (zah rfl (S.at 2 rfl) (zb1 _))) ?_
  refine sc (fun _ _ S _ hd=>sv rfl (zad rfl (hd.v 0 rfl rfl) (S.bx 0 rfl) Tryz.underlying27 rfl (vs:=(aL b1 x1 y1)) zaG rfl)) ?_
  refine sc (fun _ _ S _ _=>sv rfl (zah rfl (S.at 1 rfl) (zb1 _))) ?_
  refine sc (fun _ _ S _ hd=>sv rfl (zad rfl (hd.v 2 rfl rfl) (S.bx 1 rfl) Tryz.underlying27 rfl (vs:=(aL b3 x3 y3)) zaG rfl)) ?_
  refine sc (fun _ _ S _ hd=>sy rfl (zeY rfl (hd.v 1 rfl rfl) (hd.v 3 rfl rfl) (show Q1 349 (q1) ((aG b1 x1 y1)) _ from⟨b1,x1,y1,rfl,hq1,hk1,hk2,(S.num 4 rfl),(S.num 5 rfl)⟩) (show Q1 349 (q2) ((aG b3 x3 y3)) _ from⟨b3,x3,y3,rfl,hq3,hk5,hk6,(S.num 0 rfl),(S.num 1 rfl)⟩))) ?_
  refine sc (fun _ _ _ _ hd=>sl rfl (rc1 Tryz.func27 rfl) (znH ((hd.r 4 rfl rfl)).row (by decide) (by assumption))) ?_
  refine sc (fun _ _ S _ _=>sv rfl (zah rfl (S.at 2 rfl) (zb2 _))) ?_
  refine sc (fun _ _ S _ hd=>sv rfl (zad rfl (hd.v 6 rfl rfl) (S.bx 0 rfl) Tryz.underlying27 rfl (vs:=(aL b2 x2 y2)) zaG rfl)) ?_
  refine sc (fun _ _ S _ _=>sv rfl (zah rfl (S.at 1 rfl) (zb2 _))) ?_
  refine sc (fun _ _ S _ hd=>sv rfl (zad rfl (hd.v 8 rfl rfl) (S.bx 1 rfl) Tryz.underlying27 rfl (vs:=(aL b4 x4 y4)) zaG rfl)) ?_
  refine sc (fun _ _ S _ hd=>sy rfl (zeY rfl (hd.v 7 rfl rfl) (hd.v 9 rfl rfl) (show Q1 349 (q1') ((aG b2 x2 y2)) _ from⟨b2,x2,y2,rfl,hq2,hk3,hk4,(S.num 6 rfl),(S.num 7 rfl)⟩) (show Q1 349 (q2') ((aG b4 x4 y4)) _ from⟨b4,x4,y4,rfl,hq4,hk7,hk8,(S.num 2 rfl),(S.num 3 rfl)⟩))) ?_
  refine sc (fun _ _ _ _ hd=>sl rfl (rc1 Tryz.func27 rfl) (znH ((hd.r 10 rfl rfl)).row (by decide) (by assumption))) ?_
  refine sc (fun _ _ _ _ hd=>by
   obtain⟨v,hv,hq⟩:=zrS (hd.r 5 rfl rfl) (hd.r 11 rfl rfl)
   exact sv rfl (zbd rfl rfl rfl hv) hq) ?_
  exact sn
 ·intro a1 V4 S hB hf
  obtain⟨b5,x5,y5,b6,x6,y6,hv1,hq5,hq6,⟨hk9,hk10⟩,⟨hk11,hk12⟩,⟨ok9,ok10⟩,ok11,ok12⟩:=hf.r 12 rfl rfl
  have S:=S.add hv1
  have S:=S.know ok9
  have S:=S.know ok10
  have S:=S.know ok11
  have S:=S.know ok12
  clear hf S0
  show wpList _ _ _ [_] _ _
  refine zaN S (i:=2) (vs:=(lP b5 x5 y5 b6 x6 y6)) rfl (fun ht=>zaF rfl (S.at 1 rfl) (S.at 0 rfl) zam rfl (zsj rfl) ht) (zsj rfl) rfl rfl rfl (lb':=[⟨g1,29,(lP b1 x1 y1 b2 x2 y2)⟩,⟨g2,29,(lP b3 x3 y3 b4 x4 y4)⟩,⟨g3,29,(lP b5 x5 y5 b6 x6 y6)⟩]) rfl (fun V5 S=>?_)
  refine hK2 _ _ ?_
  refine wp_ret ?_
  exact za2 rfl S (S.at 1 rfl) (i:=2) rfl Tryz.underlying29 rfl zam ⟨_,rfl,((show PT 349 (q1+q2) ((q1')+(q2')) ((aP b5 x5 y5 b6 x6 y6)) _ from⟨b5,x5,y5,b6,x6,y6,rfl,hq5,hq6,⟨hk9,hk10⟩,⟨hk11,hk12⟩,⟨(S.num 3 rfl),(S.num 2 rfl)⟩,(S.num 1 rfl),(S.num 0 rfl)⟩)).to rfl rfl (by omega),S.below⟩
end Go.Proofs.YtdeelcoipmdoiaaGreatDoor
