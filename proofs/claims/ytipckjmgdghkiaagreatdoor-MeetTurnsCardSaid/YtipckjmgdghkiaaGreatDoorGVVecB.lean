/- A part. -/
import Derived.Test.YtipckjmgdghkiaaGreatDoorGVVec
set_option maxHeartbeats 4000000
set_option maxRecDepth 100000
namespace Go.Proofs.YtipckjmgdghkiaaGreatDoor
open Go Go.RowKit
variable {v v1 v2:Value}{V:World}{K K':Nat}{q q' q1 q1' q2 q2':Rat}
theorem zgL {q1 q1' q2 q2':Rat}{v1 v2:Value}{V:World}(h1:P1 349 (q1) (q1') v1 V)(h2:P1 349 (q2) (q2') v2 V)(hs0:Sm 349 (q1+q2))(hs1:Sm 349 (q1'+q2')):
  Calls Tryz.prog 24 #[v1,v2] V (zag V (PT 349 (q1+q2) (q1'+q2'))):=by
 obtain⟨b1,x1,y1,b2,x2,y2,rfl,hq1,hq2,⟨hk1,hk2⟩,⟨hk3,hk4⟩,⟨ok1,ok2⟩,ok3,ok4⟩:=h1
 obtain⟨b3,x3,y3,b4,x4,y4,rfl,hq3,hq4,⟨hk5,hk6⟩,⟨hk7,hk8⟩,⟨ok5,ok6⟩,ok7,ok8⟩:=h2
 refine fb Tryz.func24 Tryz.ntmps24 (zaa ok5 (zaa ok6 (zaa ok7 (zaa ok8 (zaa ok1 (zaa ok2 (zaa ok3 (zaa ok4 zav)))))))) (fun a S=>?_)
 refine wsp fun K1 hK1=>?_
 refine tb S 0 (lP b1 x1 y1 b2 x2 y2) fun g1 a V1 hgg1 S=>?_
 refine tb S 2 (lP b3 x3 y3 b4 x4 y4) fun g2 a V2 hgg2 S=>?_
 refine ti S (cs:=lY) (zam rfl (Tryz.zeroValue29 _) rfl) (fun g3=>[⟨g1,29,(lP b1 x1 y1 b2 x2 y2)⟩,⟨g2,29,(lP b3 x3 y3 b4 x4 y4)⟩,⟨g3,29,lY⟩]) fun g3 a V3 hgg3 S=>?_
 refine hK1 _ _ ?_
 refine wp_seq_k fun K2 hK2=>?_
 obtain⟨W1,hW1⟩:∃W,W=V3:=⟨_,rfl⟩
 rw[<-hW1]at S ⊢
 have S0:=S
 refine fr 13 [5,6,7,8,9,10,11,12,13,14,15,16,17] [IsV (pT g1 0),IsV ((aG b1 x1 y1)),IsV (pT g2 0),IsV ((aG b3 x3 y3)),QL 349 6 ([q1,q2]),QT 349 (q1+q2),IsV (pT g1 3),IsV ((aG b2 x2 y2)),IsV (pT g2 3),IsV ((aG b4 x4 y4)),QL 349 6 ([q1',q2']),QT 349 ((q1')+(q2')),PT 349 (q1+q2) ((q1')+(q2'))] S ?_ ?_
 ·refine sc (fun _ _ S _ _=>sv rfl (zab rfl (S.at 2 rfl) (zaS _))) ?_
  refine sc (fun _ _ S _ hd=>sv rfl (zad rfl (hd.v 0 rfl rfl) (S.bx 0 rfl) Tryz.underlying27 rfl (vs:=(aL b1 x1 y1)) zak rfl)) ?_
  refine sc (fun _ _ S _ _=>sv rfl (zab rfl (S.at 1 rfl) (zaS _))) ?_
  refine sc (fun _ _ S _ hd=>sv rfl (zad rfl (hd.v 2 rfl rfl) (S.bx 1 rfl) Tryz.underlying27 rfl (vs:=(aL b3 x3 y3)) zak rfl)) ?_
  refine sc (fun _ _ S _ hd=>sy rfl (zcq rfl (hd.v 1 rfl rfl) (hd.v 3 rfl rfl) (q2m S 4 hq1 hk1 hk2) (q2m S 0 hq3 hk5 hk6))) ?_
  refine sc (fun _ _ _ _ hd=>sl rfl (rc1 Tryz.func43 rfl) (zmq ((hd.r 4 rfl rfl)).row (by decide) (by assumption))) ?_
  refine sc (fun _ _ S _ _=>sv rfl (zab rfl (S.at 2 rfl) (za0 _))) ?_
  refine sc (fun _ _ S _ hd=>sv rfl (zad rfl (hd.v 6 rfl rfl) (S.bx 0 rfl) Tryz.underlying27 rfl (vs:=(aL b2 x2 y2)) zak rfl)) ?_
  refine sc (fun _ _ S _ _=>sv rfl (zab rfl (S.at 1 rfl) (za0 _))) ?_
  refine sc (fun _ _ S _ hd=>sv rfl (zad rfl (hd.v 8 rfl rfl) (S.bx 1 rfl) Tryz.underlying27 rfl (vs:=(aL b4 x4 y4)) zak rfl)) ?_
  refine sc (fun _ _ S _ hd=>sy rfl (zcq rfl (hd.v 7 rfl rfl) (hd.v 9 rfl rfl) (q2m S 6 hq2 hk3 hk4) (q2m S 2 hq4 hk7 hk8))) ?_
  refine sc (fun _ _ _ _ hd=>sl rfl (rc1 Tryz.func43 rfl) (zmq ((hd.r 10 rfl rfl)).row (by decide) (by assumption))) ?_
  refine sc (fun _ _ _ _ hd=>by
   obtain⟨v,hv,hq⟩:=ztG (hd.r 5 rfl rfl) (hd.r 11 rfl rfl)
   exact sv rfl (zaW rfl rfl rfl hv) hq) ?_
  exact sn
 ·intro a1 V4 S hB hf
  obtain⟨b5,x5,y5,b6,x6,y6,hv1,hq5,hq6,⟨hk9,hk10⟩,⟨hk11,hk12⟩,⟨ok9,ok10⟩,ok11,ok12⟩:=hf.r 12 rfl rfl
  have S:=S.add hv1
  have S:=S.know ok9
  have S:=S.know ok10
  have S:=S.know ok11
  have S:=S.know ok12
  clear hf S0
  show wpList _ _ _ [_] _ _
  refine sto S 2 (fun ht=>zai rfl (S.at 1 rfl) (S.at 0 rfl) zbb rfl (zv5 rfl) ht) fun V5 S=>?_
  refine hK2 _ _ ?_
  refine wp_ret ?_
  exact zas rfl S (S.at 1 rfl) (i:=2) rfl Tryz.underlying29 rfl zbb ⟨_,rfl,((zcz S 0 hq5 hq6 hk9 hk10 hk11 hk12)).to rfl rfl (by omega),S.below⟩
theorem zrS {q1 q1' q2 q2':Rat}{v1 v2:Value}{V:World}(h1:P1 349 (q1) (q1') v1 V)(h2:P1 349 (q2) (q2') v2 V)(hs0:Sm 349 (q1 - q2))(hs1:Sm 349 (q1' - q2')):
  Calls Tryz.prog 34 #[v1,v2] V (zag V (PT 349 (q1 - q2) (q1' - q2'))):=by
 obtain⟨b1,x1,y1,b2,x2,y2,rfl,hq1,hq2,⟨hk1,hk2⟩,⟨hk3,hk4⟩,⟨ok1,ok2⟩,ok3,ok4⟩:=h1
 obtain⟨b3,x3,y3,b4,x4,y4,rfl,hq3,hq4,⟨hk5,hk6⟩,⟨hk7,hk8⟩,⟨ok5,ok6⟩,ok7,ok8⟩:=h2
 refine fb Tryz.func34 Tryz.ntmps34 (zaa ok5 (zaa ok6 (zaa ok7 (zaa ok8 (zaa ok1 (zaa ok2 (zaa ok3 (zaa ok4 zav)))))))) (fun a S=>?_)
 refine wsp fun K1 hK1=>?_
 refine tb S 0 (lP b1 x1 y1 b2 x2 y2) fun g1 a V1 hgg1 S=>?_
 refine tb S 2 (lP b3 x3 y3 b4 x4 y4) fun g2 a V2 hgg2 S=>?_
 refine ti S (cs:=lY) (zam rfl (Tryz.zeroValue29 _) rfl) (fun g3=>[⟨g1,29,(lP b1 x1 y1 b2 x2 y2)⟩,⟨g2,29,(lP b3 x3 y3 b4 x4 y4)⟩,⟨g3,29,lY⟩]) fun g3 a V3 hgg3 S=>?_
 refine hK1 _ _ ?_
 refine wp_seq_k fun K2 hK2=>?_
 obtain⟨W1,hW1⟩:∃W,W=V3:=⟨_,rfl⟩
 rw[<-hW1]at S ⊢
 have S0:=S
 refine fr 11 [5,6,7,8,9,10,11,12,13,14,15] [IsV (pT g1 0),IsV ((aG b1 x1 y1)),IsV (pT g2 0),IsV ((aG b3 x3 y3)),QT 349 (q1 - q2),IsV (pT g1 3),IsV ((aG b2 x2 y2)),IsV (pT g2 3),IsV ((aG b4 x4 y4)),QT 349 ((q1') - (q2')),PT 349 (q1 - q2) ((q1') - (q2'))] S ?_ ?_
 ·refine sc (fun _ _ S _ _=>sv rfl (zab rfl (S.at 2 rfl) (zaS _))) ?_
  refine sc (fun _ _ S _ hd=>sv rfl (zad rfl (hd.v 0 rfl rfl) (S.bx 0 rfl) Tryz.underlying27 rfl (vs:=(aL b1 x1 y1)) zak rfl)) ?_
  refine sc (fun _ _ S _ _=>sv rfl (zab rfl (S.at 1 rfl) (zaS _))) ?_
  refine sc (fun _ _ S _ hd=>sv rfl (zad rfl (hd.v 2 rfl rfl) (S.bx 1 rfl) Tryz.underlying27 rfl (vs:=(aL b3 x3 y3)) zak rfl)) ?_
  refine sc (fun _ _ S _ hd=>sl rfl (rc2 Tryz.func42 (hd.v 1 rfl rfl) (hd.v 3 rfl rfl)) (zqL (q2m S 4 hq1 hk1 hk2) (q2m S 0 hq3 hk5 hk6) (by decide) (by decide) (by assumption))) ?_
  refine sc (fun _ _ S _ _=>sv rfl (zab rfl (S.at 2 rfl) (za0 _))) ?_
  refine sc (fun _ _ S _ hd=>sv rfl (zad rfl (hd.v 5 rfl rfl) (S.bx 0 rfl) Tryz.underlying27 rfl (vs:=(aL b2 x2 y2)) zak rfl)) ?_
  refine sc (fun _ _ S _ _=>sv rfl (zab rfl (S.at 1 rfl) (za0 _))) ?_
  refine sc (fun _ _ S _ hd=>sv rfl (zad rfl (hd.v 7 rfl rfl) (S.bx 1 rfl) Tryz.underlying27 rfl (vs:=(aL b4 x4 y4)) zak rfl)) ?_
  refine sc (fun _ _ S _ hd=>sl rfl (rc2 Tryz.func42 (hd.v 6 rfl rfl) (hd.v 8 rfl rfl)) (zqL (q2m S 6 hq2 hk3 hk4) (q2m S 2 hq4 hk7 hk8) (by decide) (by decide) (by assumption))) ?_
  refine sc (fun _ _ _ _ hd=>by
   obtain⟨v,hv,hq⟩:=ztG (hd.r 4 rfl rfl) (hd.r 9 rfl rfl)
   exact sv rfl (zaW rfl rfl rfl hv) hq) ?_
  exact sn
 ·intro a1 V4 S hB hf
  obtain⟨b5,x5,y5,b6,x6,y6,hv1,hq5,hq6,⟨hk9,hk10⟩,⟨hk11,hk12⟩,⟨ok9,ok10⟩,ok11,ok12⟩:=hf.r 10 rfl rfl
  have S:=S.add hv1
  have S:=S.know ok9
  have S:=S.know ok10
  have S:=S.know ok11
  have S:=S.know ok12
  clear hf S0
  show wpList _ _ _ [_] _ _
  refine sto S 2 (fun ht=>zai rfl (S.at 1 rfl) (S.at 0 rfl) zbb rfl (zv5 rfl) ht) fun V5 S=>?_
  refine hK2 _ _ ?_
  refine wp_ret ?_
  exact zas rfl S (S.at 1 rfl) (i:=2) rfl Tryz.underlying29 rfl zbb ⟨_,rfl,((zcz S 0 hq5 hq6 hk9 hk10 hk11 hk12)).to rfl rfl (by omega),S.below⟩
theorem zth {q1 q1' q2 q2':Rat}{v1 v2:Value}{V:World}(h1:P1 349 (q1) (q1') v1 V)(h2:P1 349 (q2) (q2') v2 V)(hs0:Sm 349 (q1*q2'))(hs1:Sm 349 (q1'*q2))(hs2:Sm 349 (q1*q2' - q1'*q2)):
  Calls Tryz.prog 33 #[v1,v2] V (zag V (QT 349 (q1*q2' - q1'*q2))):=by
 obtain⟨b1,x1,y1,b2,x2,y2,rfl,hq1,hq2,⟨hk1,hk2⟩,⟨hk3,hk4⟩,⟨ok1,ok2⟩,ok3,ok4⟩:=h1
 obtain⟨b3,x3,y3,b4,x4,y4,rfl,hq3,hq4,⟨hk5,hk6⟩,⟨hk7,hk8⟩,⟨ok5,ok6⟩,ok7,ok8⟩:=h2
 refine fb Tryz.func33 Tryz.ntmps33 (zaa ok5 (zaa ok6 (zaa ok7 (zaa ok8 (zaa ok1 (zaa ok2 (zaa ok3 (zaa ok4 zav)))))))) (fun a S=>?_)
 refine wsp fun K1 hK1=>?_
 refine tb S 0 (lP b1 x1 y1 b2 x2 y2) fun g1 a V1 hgg1 S=>?_
 refine tb S 2 (lP b3 x3 y3 b4 x4 y4) fun g2 a V2 hgg2 S=>?_
 refine ti S (cs:=lZ) (zam rfl (Tryz.zeroValue27 _) rfl) (fun g3=>[⟨g1,29,(lP b1 x1 y1 b2 x2 y2)⟩,⟨g2,29,(lP b3 x3 y3 b4 x4 y4)⟩,⟨g3,27,lZ⟩]) fun g3 a V3 hgg3 S=>?_
 refine hK1 _ _ ?_
 refine wp_seq_k fun K2 hK2=>?_
 obtain⟨W1,hW1⟩:∃W,W=V3:=⟨_,rfl⟩
 rw[<-hW1]at S ⊢
 have S0:=S
 refine fr 13 [5,6,7,8,9,10,11,12,13,14,15,16,17] [IsV (pT g1 0),IsV ((aG b1 x1 y1)),IsV (pT g2 3),IsV ((aG b4 x4 y4)),QL 349 6 ([q1,q2']),QT 349 (q1*(q2')),IsV (pT g1 3),IsV ((aG b2 x2 y2)),IsV (pT g2 0),IsV ((aG b3 x3 y3)),QL 349 6 ([q1',q2]),QT 349 ((q1')*q2),QT 349 ((q1*(q2')) - ((q1')*q2))] S ?_ ?_
 ·refine sc (fun _ _ S _ _=>sv rfl (zab rfl (S.at 2 rfl) (zaS _))) ?_
  refine sc (fun _ _ S _ hd=>sv rfl (zad rfl (hd.v 0 rfl rfl) (S.bx 0 rfl) Tryz.underlying27 rfl (vs:=(aL b1 x1 y1)) zak rfl)) ?_
  refine sc (fun _ _ S _ _=>sv rfl (zab rfl (S.at 1 rfl) (za0 _))) ?_
  refine sc (fun _ _ S _ hd=>sv rfl (zad rfl (hd.v 2 rfl rfl) (S.bx 1 rfl) Tryz.underlying27 rfl (vs:=(aL b4 x4 y4)) zak rfl)) ?_
  refine sc (fun _ _ S _ hd=>sy rfl (zcq rfl (hd.v 1 rfl rfl) (hd.v 3 rfl rfl) (q2m S 4 hq1 hk1 hk2) (q2m S 2 hq4 hk7 hk8))) ?_
  refine sc (fun _ _ _ _ hd=>sl rfl (rc1 Tryz.func44 rfl) (zqJ ((hd.r 4 rfl rfl)).row (by decide) (by assumption))) ?_
  refine sc (fun _ _ S _ _=>sv rfl (zab rfl (S.at 2 rfl) (za0 _))) ?_
  refine sc (fun _ _ S _ hd=>sv rfl (zad rfl (hd.v 6 rfl rfl) (S.bx 0 rfl) Tryz.underlying27 rfl (vs:=(aL b2 x2 y2)) zak rfl)) ?_
  refine sc (fun _ _ S _ _=>sv rfl (zab rfl (S.at 1 rfl) (zaS _))) ?_
  refine sc (fun _ _ S _ hd=>sv rfl (zad rfl (hd.v 8 rfl rfl) (S.bx 1 rfl) Tryz.underlying27 rfl (vs:=(aL b3 x3 y3)) zak rfl)) ?_
  refine sc (fun _ _ S _ hd=>sy rfl (zcq rfl (hd.v 7 rfl rfl) (hd.v 9 rfl rfl) (q2m S 6 hq2 hk3 hk4) (q2m S 0 hq3 hk5 hk6))) ?_
  refine sc (fun _ _ _ _ hd=>sl rfl (rc1 Tryz.func44 rfl) (zqJ ((hd.r 10 rfl rfl)).row (by decide) (by assumption))) ?_
  refine sc (fun _ _ _ _ hd=>sl rfl (rc2 Tryz.func42 rfl rfl) (zqL ((hd.r 5 rfl rfl)).any ((hd.r 11 rfl rfl)).any (by decide) (by decide) (by assumption))) ?_
  exact sn
 ·intro a1 V4 S hB hf
  obtain⟨b5,x5,y5,hv1,hq5,hk9,hk10,ok9,ok10⟩:=hf.r 12 rfl rfl
  have S:=S.add hv1
  have S:=S.know ok9
  have S:=S.know ok10
  clear hf S0
  show wpList _ _ _ [_] _ _
  refine sto S 2 (fun ht=>zai rfl (S.at 1 rfl) (S.at 0 rfl) zak rfl (zv5 rfl) ht) fun V5 S=>?_
  refine hK2 _ _ ?_
  refine wp_ret ?_
  exact zas rfl S (S.at 1 rfl) (i:=2) rfl Tryz.underlying27 rfl zak ⟨_,rfl,((show QT 349 ((q1*(q2')) - ((q1')*q2)) ((aG b5 x5 y5)) _ from⟨b5,x5,y5,rfl,hq5,hk9,hk10,(S.num 1 rfl),(S.num 0 rfl)⟩)).to rfl (by omega),S.below⟩
end Go.Proofs.YtipckjmgdghkiaaGreatDoor
