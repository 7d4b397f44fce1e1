/- A part. -/
import Derived.Test.YtipckjmgdghkiaaGreatDoorGVVec
set_option maxHeartbeats 4000000
set_option maxRecDepth 100000
namespace Go.Proofs.YtipckjmgdghkiaaGreatDoor
open Go Go.RowKit
variable {v v1 v2:Value}{V:World}{K K':Nat}{q q' q1 q1' q2 q2':Rat}
theorem zuE {q1 q1' q2 q2':Rat}{v1 v2:Value}{V:World}(h1:P1 349 (q1) (q1') v1 V)(h2:P1 349 (q2) (q2') v2 V)(hs0:Sm 349 (q1+q2))(hs1:Sm 349 (q1'+q2')):
  Calls Tryz.prog 24 #[v1,v2] V (zaf V (PT 349 (q1+q2) (q1'+q2'))):=by
 obtain⟨b1,x1,y1,b2,x2,y2,rfl,hq1,hq2,⟨hk1,hk2⟩,⟨hk3,hk4⟩,⟨ok1,ok2⟩,ok3,ok4⟩:=h1
 obtain⟨b3,x3,y3,b4,x4,y4,rfl,hq3,hq4,⟨hk5,hk6⟩,⟨hk7,hk8⟩,⟨ok5,ok6⟩,ok7,ok8⟩:=h2
 refine fb Tryz.func24 Tryz.ntmps24 (zaa ok5 (zaa ok6 (zaa ok7 (zaa ok8 (zaa ok1 (zaa ok2 (zaa ok3 (zaa ok4 zau)))))))) (fun a S=>?_)
 refine wsp fun K1 hK1=>?_
 refine tb S 0 (lP b1 x1 y1 b2 x2 y2) fun g1 a V1 hgg1 S=>?_
 refine tb S 2 (lP b3 x3 y3 b4 x4 y4) fun g2 a V2 hgg2 S=>?_
 refine ti S (cs:=lY) (zam rfl (Tryz.zeroValue29 _) rfl) (fun g3=>[⟨g1,29,(lP b1 x1 y1 b2 x2 y2)⟩,⟨g2,29,(lP b3 x3 y3 b4 x4 y4)⟩,⟨g3,29,lY⟩]) fun g3 a V3 hgg3 S=>?_
 refine hK1 _ _ ?_
 refine wp_seq_k fun K2 hK2=>?_
 obtain⟨W1,hW1⟩:∃W,W=V3:=⟨_,rfl⟩
 rw[<-hW1]at S ⊢
 have S0:=S
 refine fr 13 [5,6,7,8,9,10,11,12,13,14,15,16,17] [IsV (pT g1 0),IsV ((aG b1 x1 y1)),IsV (pT g2 0),IsV ((aG b3 x3 y3)),QL 349 6 ([q1,q2]),QT 349 (q1+q2),IsV (pT g1 3),IsV ((aG b2 x2 y2)),IsV (pT g2 3),IsV ((aG b4 x4 y4)),QL 349 6 ([q1',q2']),QT 349 ((q1')+(q2')),PT 349 (q1+q2) ((q1')+(q2'))] S ?_ ?_
 ·refine sc (fun _ _ S _ _=>sv rfl (zab rfl (S.at 2 rfl) (zaV _))) ?_
  refine sc (fun _ _ S _ hd=>sv rfl (zad rfl (hd.v 0 rfl rfl) (S.bx 0 rfl) Tryz.underlying27 rfl (vs:=(aL b1 x1 y1)) zah rfl)) ?_
  refine sc (fun _ _ S _ _=>sv rfl (zab rfl (S.at 1 rfl) (zaV _))) ?_
  refine sc (fun _ _ S _ hd=>sv rfl (zad rfl (hd.v 2 rfl rfl) (S.bx 1 rfl) Tryz.underlying27 rfl (vs:=(aL b3 x3 y3)) zah rfl)) ?_
  refine sc (fun _ _ S _ hd=>sy rfl (zbW rfl (hd.v 1 rfl rfl) (hd.v 3 rfl rfl) (q2m S 4 hq1 hk1 hk2) (q2m S 0 hq3 hk5 hk6))) ?_
  refine sc (fun _ _ _ _ hd=>sl rfl (rc1 Tryz.func43 rfl) (zgl ((hd.r 4 rfl rfl)).row (by decide) (by assumption))) ?_
  refine sc (fun _ _ S _ _=>sv rfl (zab rfl (S.at 2 rfl) (za3 _))) ?_
  refine sc (fun _ _ S _ hd=>sv rfl (zad rfl (hd.v 6 rfl rfl) (S.bx 0 rfl) Tryz.underlying27 rfl (vs:=(aL b2 x2 y2)) zah rfl)) ?_
  refine sc (fun _ _ S _ _=>sv rfl (zab rfl (S.at 1 rfl) (za3 _))) ?_
  refine sc (fun _ _ S _ hd=>sv rfl (zad rfl (hd.v 8 rfl rfl) (S.bx 1 rfl) Tryz.underlying27 rfl (vs:=(aL b4 x4 y4)) zah rfl)) ?_
  refine sc (fun _ _ S _ hd=>sy rfl (zbW rfl (hd.v 7 rfl rfl) (hd.v 9 rfl rfl) (q2m S 6 hq2 hk3 hk4) (q2m S 2 hq4 hk7 hk8))) ?_
  refine sc (fun _ _ _ _ hd=>sl rfl (rc1 Tryz.func43 rfl) (zgl ((hd.r 10 rfl rfl)).row (by decide) (by assumption))) ?_
  refine sc (fun _ _ _ _ hd=>by
   obtain⟨v,hv,hq⟩:=zrq (hd.r 5 rfl rfl) (hd.r 11 rfl rfl)
   exact sv rfl (zaU rfl rfl rfl hv) hq) ?_
  exact sn
 ·intro a1 V4 S hB hf
  obtain⟨b5,x5,y5,b6,x6,y6,hv1,hq5,hq6,⟨hk9,hk10⟩,⟨hk11,hk12⟩,⟨ok9,ok10⟩,ok11,ok12⟩:=hf.r 12 rfl rfl
  have S:=S.add hv1
  have S:=S.know ok9
  have S:=S.know ok10
  have S:=S.know ok11
  have S:=S.know ok12
  clear hf S0
  show wpList _ _ _ [_] _ _
  refine sto S 2 (fun ht=>zaj rfl (S.at 1 rfl) (S.at 0 rfl) zaR rfl (zvZ rfl) ht) fun V5 S=>?_
  refine hK2 _ _ ?_
  refine wp_ret ?_
  exact zar rfl S (S.at 1 rfl) (i:=2) rfl Tryz.underlying29 rfl zaR ⟨_,rfl,((zby S 0 hq5 hq6 hk9 hk10 hk11 hk12)).to rfl rfl (by omega),S.below⟩
theorem zjW {q1 q1' q2 q2':Rat}{v1 v2:Value}{V:World}(h1:P1 349 (q1) (q1') v1 V)(h2:P1 349 (q2) (q2') v2 V)(hs0:Sm 349 (q1 - q2))(hs1:Sm 349 (q1' - q2')):
  Calls Tryz.prog 34 #[v1,v2] V (zaf V (PT 349 (q1 - q2) (q1' - q2'))):=by
 obtain⟨b1,x1,y1,b2,x2,y2,rfl,hq1,hq2,⟨hk1,hk2⟩,⟨hk3,hk4⟩,⟨ok1,ok2⟩,ok3,ok4⟩:=h1
 obtain⟨b3,x3,y3,b4,x4,y4,rfl,hq3,hq4,⟨hk5,hk6⟩,⟨hk7,hk8⟩,⟨ok5,ok6⟩,ok7,ok8⟩:=h2
 refine fb Tryz.func34 Tryz.ntmps34 (zaa ok5 (zaa ok6 (zaa ok7 (zaa ok8 (zaa ok1 (zaa ok2 (zaa ok3 (zaa ok4 zau)))))))) (fun a S=>?_)
 refine wsp fun K1 hK1=>?_
 refine tb S 0 (lP b1 x1 y1 b2 x2 y2) fun g1 a V1 hgg1 S=>?_
 refine tb S 2 (lP b3 x3 y3 b4 x4 y4) fun g2 a V2 hgg2 S=>?_
 refine ti S (cs:=lY) (zam rfl (Tryz.zeroValue29 _) rfl) (fun g3=>[⟨g1,29,(lP b1 x1 y1 b2 x2 y2)⟩,⟨g2,29,(lP b3 x3 y3 b4 x4 y4)⟩,⟨g3,29,lY⟩]) fun g3 a V3 hgg3 S=>?_
 refine hK1 _ _ ?_
 refine wp_seq_k fun K2 hK2=>?_
 obtain⟨W1,hW1⟩:∃W,W=V3:=⟨_,rfl⟩
 rw[<-hW1]at S ⊢
 have S0:=S
 refine fr 11 [5,6,7,8,9,10,11,12,13,14,15] [IsV (pT g1 0),IsV ((aG b1 x1 y1)),IsV (pT g2 0),IsV ((aG b3 x3 y3)),QT 349 (q1 - q2),IsV (pT g1 3),IsV ((aG b2 x2 y2)),IsV (pT g2 3),IsV ((aG b4 x4 y4)),QT 349 ((q1') - (q2')),PT 349 (q1 - q2) ((q1') - (q2'))] S ?_ ?_
 ·refine sc (fun _ _ S _ _=>sv rfl (zab rfl (S.at 2 rfl) (zaV _))) ?_
  refine sc (fun _ _ S _ hd=>sv rfl (zad rfl (hd.v 0 rfl rfl) (S.bx 0 rfl) Tryz.underlying27 rfl (vs:=(aL b1 x1 y1)) zah rfl)) ?_
  refine sc (fun _ _ S _ _=>sv rfl (zab rfl (S.at 1 rfl) (zaV _))) ?_
  refine sc (fun _ _ S _ hd=>sv rfl (zad rfl (hd.v 2 rfl rfl) (S.bx 1 rfl) Tryz.underlying27 rfl (vs:=(aL b3 x3 y3)) zah rfl)) ?_
  refine sc (fun _ _ S _ hd=>sl rfl (rc2 Tryz.func42 (hd.v 1 rfl rfl) (hd.v 3 rfl rfl)) (zm6 (q2m S 4 hq1 hk1 hk2) (q2m S 0 hq3 hk5 hk6) (by decide) (by decide) (by assumption))) ?_
  refine sc (fun _ _ S _ _=>sv rfl (zab rfl (S.at 2 rfl) (za3 _))) ?_
  refine sc (fun _ _ S _ hd=>sv rfl (zad rfl (hd.v 5 rfl rfl) (S.bx 0 rfl) Tryz.underlying27 rfl (vs:=(aL b2 x2 y2)) zah rfl)) ?_
  refine sc (fun _ _ S _ _=>sv rfl (zab rfl (S.at 1 rfl) (za3 _))) ?_
  refine sc (fun _ _ S _ hd=>sv rfl (zad rfl (hd.v 7 rfl rfl) (S.bx 1 rfl) Tryz.underlying27 rfl (vs:=(aL b4 x4 y4)) zah rfl)) ?_
  refine sc (fun _ _ S _ hd=>sl rfl (rc2 Tryz.func42 (hd.v 6 rfl rfl) (hd.v 8 rfl rfl)) (zm6 (q2m S 6 hq2 hk3 hk4) (q2m S 2 hq4 hk7 hk8) (by decide) (by decide) (by assumption))) ?_
  refine sc (fun _ _ _ _ hd=>by
   obtain⟨v,hv,hq⟩:=zrq (hd.r 4 rfl rfl) (hd.r 9 rfl rfl)
   exact sv rfl (zaU rfl rfl rfl hv) hq) ?_
  exact sn
 ·intro a1 V4 S hB hf
  obtain⟨b5,x5,y5,b6,x6,y6,hv1,hq5,hq6,⟨hk9,hk10⟩,⟨hk11,hk12⟩,⟨ok9,ok10⟩,ok11,ok12⟩:=hf.r 10 rfl rfl
  have S:=S.add hv1
  have S:=S.know ok9
  have S:=S.know ok10
  have S:=S.know ok11
  have S:=S.know ok12
  clear hf S0
  show wpList _ _ _ [_] _ _
  refine sto S 2 (fun ht=>zaj rfl (S.at 1 rfl) (S.at 0 rfl) zaR rfl (zvZ rfl) ht) fun V5 S=>?_
  refine hK2 _ _ ?_
  refine wp_ret ?_
  exact zar rfl S (S.at 1 rfl) (i:=2) rfl Tryz.underlying29 rfl zaR ⟨_,rfl,((zby S 0 hq5 hq6 hk9 hk10 hk11 hk12)).to rfl rfl (by omega),S.below⟩
theorem zs0 {q1 q1' q2:Rat}{v1 v2:Value}{V:World}(h1:P1 349 (q1) (q1') v1 V)(h2:Q1 349 (q2) v2 V)(hs0:Sm 349 (q1*q2))(hs1:Sm 349 (q1'*q2)):
  Calls Tryz.prog 74 #[v1,v2] V (zaf V (PT 349 (q1*q2) (q1'*q2))):=by
 obtain⟨b1,x1,y1,b2,x2,y2,rfl,hq1,hq2,⟨hk1,hk2⟩,⟨hk3,hk4⟩,⟨ok1,ok2⟩,ok3,ok4⟩:=h1
 obtain⟨b3,x3,y3,rfl,hq3,hk5,hk6,ok5,ok6⟩:=h2
 refine fb Tryz.func74 Tryz.ntmps74 (zaa ok5 (zaa ok6 (zaa ok1 (zaa ok2 (zaa ok3 (zaa ok4 zau)))))) (fun a S=>?_)
 refine wsp fun K1 hK1=>?_
 refine tb S 0 (lP b1 x1 y1 b2 x2 y2) fun g1 a V1 hgg1 S=>?_
 refine tb S 2 (aL b3 x3 y3) fun g2 a V2 hgg2 S=>?_
 refine ti S (cs:=lY) (zam rfl (Tryz.zeroValue29 _) rfl) (fun g3=>[⟨g1,29,(lP b1 x1 y1 b2 x2 y2)⟩,⟨g2,27,(aL b3 x3 y3)⟩,⟨g3,29,lY⟩]) fun g3 a V3 hgg3 S=>?_
 refine hK1 _ _ ?_
 refine wp_seq_k fun K2 hK2=>?_
 obtain⟨W1,hW1⟩:∃W,W=V3:=⟨_,rfl⟩
 rw[<-hW1]at S ⊢
 have S0:=S
 refine fr 11 [5,6,7,8,9,10,11,12,13,14,15] [IsV (pT g1 0),IsV ((aG b1 x1 y1)),IsV ((aG b3 x3 y3)),QL 349 6 ([q1,q2]),QT 349 (q1*q2),IsV (pT g1 3),IsV ((aG b2 x2 y2)),IsV ((aG b3 x3 y3)),QL 349 6 ([q1',q2]),QT 349 ((q1')*q2),PT 349 (q1*q2) ((q1')*q2)] S ?_ ?_
 ·refine sc (fun _ _ S _ _=>sv rfl (zab rfl (S.at 2 rfl) (zaV _))) ?_
  refine sc (fun _ _ S _ hd=>sv rfl (zad rfl (hd.v 0 rfl rfl) (S.bx 0 rfl) Tryz.underlying27 rfl (vs:=(aL b1 x1 y1)) zah rfl)) ?_
  refine sc (fun _ _ S _ _=>sv rfl (zad rfl (S.at 1 rfl) (S.bx 1 rfl) Tryz.underlying27 rfl (vs:=(aL b3 x3 y3)) zah rfl)) ?_
  refine sc (fun _ _ S _ hd=>sy rfl (zbW rfl (hd.v 1 rfl rfl) (hd.v 2 rfl rfl) (q2m S 2 hq1 hk1 hk2) (q2m S 0 hq3 hk5 hk6))) ?_
  refine sc (fun _ _ _ _ hd=>sl rfl (rc1 Tryz.func44 rfl) (zjB ((hd.r 3 rfl rfl)).row (by decide) (by assumption))) ?_
  refine sc (fun _ _ S _ _=>sv rfl (zab rfl (S.at 2 rfl) (za3 _))) ?_
  refine sc (fun _ _ S _ hd=>sv rfl (zad rfl (hd.v 5 rfl rfl) (S.bx 0 rfl) Tryz.underlying27 rfl (vs:=(aL b2 x2 y2)) zah rfl)) ?_
  refine sc (fun _ _ S _ _=>sv rfl (zad rfl (S.at 1 rfl) (S.bx 1 rfl) Tryz.underlying27 rfl (vs:=(aL b3 x3 y3)) zah rfl)) ?_
  refine sc (fun _ _ S _ hd=>sy rfl (zbW rfl (hd.v 6 rfl rfl) (hd.v 7 rfl rfl) (q2m S 4 hq2 hk3 hk4) (q2m S 0 hq3 hk5 hk6))) ?_
  refine sc (fun _ _ _ _ hd=>sl rfl (rc1 Tryz.func44 rfl) (zjB ((hd.r 8 rfl rfl)).row (by decide) (by assumption))) ?_
  refine sc (fun _ _ _ _ hd=>by
   obtain⟨v,hv,hq⟩:=zrq (hd.r 4 rfl rfl) (hd.r 9 rfl rfl)
   exact sv rfl (zaU rfl rfl rfl hv) hq) ?_
  exact sn
 ·intro a1 V4 S hB hf
  obtain⟨b4,x4,y4,b5,x5,y5,hv1,hq4,hq5,⟨hk7,hk8⟩,⟨hk9,hk10⟩,⟨ok7,ok8⟩,ok9,ok10⟩:=hf.r 10 rfl rfl
  have S:=S.add hv1
  have S:=S.know ok7
  have S:=S.know ok8
  have S:=S.know ok9
  have S:=S.know ok10
  clear hf S0
  show wpList _ _ _ [_] _ _
  refine sto S 2 (fun ht=>zaj rfl (S.at 1 rfl) (S.at 0 rfl) zaR rfl (zvZ rfl) ht) fun V5 S=>?_
  refine hK2 _ _ ?_
  refine wp_ret ?_
  exact zar rfl S (S.at 1 rfl) (i:=2) rfl Tryz.underlying29 rfl zaR ⟨_,rfl,((zby S 0 hq4 hq5 hk7 hk8 hk9 hk10)).to rfl rfl (by omega),S.below⟩
theorem zs1 {q1 q1' q2 q2':Rat}{v1 v2:Value}{V:World}(h1:P1 349 (q1) (q1') v1 V)(h2:P1 349 (q2) (q2') v2 V)(hs0:Sm 349 (q1*q2'))(hs1:Sm 349 (q1'*q2))(hs2:Sm 349 (q1*q2' - q1'*q2)):
  Calls Tryz.prog 33 #[v1,v2] V (zaf V (QT 349 (q1*q2' - q1'*q2))):=by
 obtain⟨b1,x1,y1,b2,x2,y2,rfl,hq1,hq2,⟨hk1,hk2⟩,⟨hk3,hk4⟩,⟨ok1,ok2⟩,ok3,ok4⟩:=h1
 obtain⟨b3,x3,y3,b4,x4,y4,rfl,hq3,hq4,⟨hk5,hk6⟩,⟨hk7,hk8⟩,⟨ok5,ok6⟩,ok7,ok8⟩:=h2
 refine fb Tryz.func33 Tryz.ntmps33 (zaa ok5 (zaa ok6 (zaa ok7 (zaa ok8 (zaa ok1 (zaa ok2 (zaa ok3 (zaa ok4 zau)))))))) (fun a S=>?_)
 refine wsp fun K1 hK1=>?_
 refine tb S 0 (lP b1 x1 y1 b2 x2 y2) fun g1 a V1 hgg1 S=>?_
 refine tb S 2 (lP b3 x3 y3 b4 x4 y4) fun g2 a V2 hgg2 S=>?_
 refine ti S (cs:=lZ) (zam rfl (Tryz.zeroValue27 _) rfl) (fun g3=>[⟨g1,29,(lP b1 x1 y1 b2 x2 y2)⟩,⟨g2,29,(lP b3 x3 y3 b4 x4 y4)⟩,⟨g3,27,lZ⟩]) fun g3 a V3 hgg3 S=>?_
 refine hK1 _ _ ?_
 refine wp_seq_k fun K2 hK2=>?_
 obtain⟨W1,hW1⟩:∃W,W=V3:=⟨_,rfl⟩
 rw[<-hW1]at S ⊢
 have S0:=S
 refine fr 13 [5,6,7,8,9,10,11,12,13,14,15,16,17] [IsV (pT g1 0),IsV ((aG b1 x1 y1)),IsV (pT g2 3),IsV ((aG b4 x4 y4)),QL 349 6 ([q1,q2']),QT 349 (q1*(q2')),IsV (pT g1 3),IsV ((aG b2 x2 y2)),IsV (pT g2 0),IsV ((aG b3 x3 y3)),QL 349 6 ([q1',q2]),QT 349 ((q1')*q2),QT 349 ((q1*(q2')) - ((q1')*q2))] S ?_ ?_
 ·refine sc (fun _ _ S _ _=>sv rfl (zab rfl (S.at 2 rfl) (zaV _))) ?_
  refine sc (fun _ _ S _ hd=>sv rfl (zad rfl (hd.v 0 rfl rfl) (S.bx 0 rfl) Tryz.underlying27 rfl (vs:=(aL b1 x1 y1)) zah rfl)) ?_
  refine sc (fun _ _ S _ _=>sv rfl (zab rfl (S.at 1 rfl) (za3 _))) ?_
  refine sc (fun _ _ S _ hd=>sv rfl (zad rfl (hd.v 2 rfl rfl) (S.bx 1 rfl) Tryz.underlying27 rfl (vs:=(aL b4 x4 y4)) zah rfl)) ?_
  refine sc (fun _ _ S _ hd=>sy rfl (zbW rfl (hd.v 1 rfl rfl) (hd.v 3 rfl rfl) (q2m S 4 hq1 hk1 hk2) (q2m S 2 hq4 hk7 hk8))) ?_
  refine sc (fun _ _ _ _ hd=>sl rfl (rc1 Tryz.func44 rfl) (zjB ((hd.r 4 rfl rfl)).row (by decide) (by assumption))) ?_
  refine sc (fun _ _ S _ _=>sv rfl (zab rfl (S.at 2 rfl) (za3 _))) ?_
  refine sc (fun _ _ S _ hd=>sv rfl (zad rfl (hd.v 6 rfl rfl) (S.bx 0 rfl) Tryz.underlying27 rfl (vs:=(aL b2 x2 y2)) zah rfl)) ?_
  refine sc (fun _ _ S _ _=>sv rfl (zab rfl (S.at 1 rfl) (zaV _))) ?_
  refine sc (fun _ _ S _ hd=>sv rfl (zad rfl (hd.v 8 rfl rfl) (S.bx 1 rfl) Tryz.underlying27 rfl (vs:=(aL b3 x3 y3)) zah rfl)) ?_
  refine sc (fun _ _ S _ hd=>sy rfl (zbW rfl (hd.v 7 rfl rfl) (hd.v 9 rfl rfl) (q2m S 6 hq2 hk3 hk4) (q2m S 0 hq3 hk5 hk6))) ?_
  refine sc (fun _ _ _ _ hd=>sl rfl (rc1 Tryz.func44 rfl) (zjB ((hd.r 10 rfl rfl)).row (by decide) (by assumption))) ?_
  refine sc (fun _ _ _ _ hd=>sl rfl (rc2 Tryz.func42 rfl rfl) (zm6 ((hd.r 5 rfl rfl)).any ((hd.r 11 rfl rfl)).any (by decide) (by decide) (by assumption))) ?_
  exact sn
 ·intro a1 V4 S hB hf
  obtain⟨b5,x5,y5,hv1,hq5,hk9,hk10,ok9,ok10⟩:=hf.r 12 rfl rfl
  have S:=S.add hv1
  have S:=S.know ok9
  have S:=S.know ok10
  clear hf S0
  show wpList _ _ _ [_] _ _
  refine sto S 2 (fun ht=>zaj rfl (S.at 1 rfl) (S.at 0 rfl) zah rfl (zvZ rfl) ht) fun V5 S=>?_
  refine hK2 _ _ ?_
  refine wp_ret ?_
  exact zar rfl S (S.at 1 rfl) (i:=2) rfl Tryz.underlying27 rfl zah ⟨_,rfl,((show QT 349 ((q1*(q2')) - ((q1')*q2)) ((aG b5 x5 y5)) _ from⟨b5,x5,y5,rfl,hq5,hk9,hk10,(S.num 1 rfl),(S.num 0 rfl)⟩)).to rfl (by omega),S.below⟩
theorem zvR {q1 q1' q2 q2' r:Rat}{v1 v2 v3:Value}{V:World}(h1:P1 349 (q1) (q1') v1 V)(h2:P1 349 (q2) (q2') v2 V)(h3:Q1 349 (r) v3 V)(hs0:Sm 349 (q2 - q1))(hs1:Sm 349 (q2' - q1'))(hs2:Sm 349 ((q2 - q1)*r))(hs3:Sm 349 ((q2' - q1')*r))(hs4:Sm 349 (q1+(q2 - q1)*r))(hs5:Sm 349 (q1'+(q2' - q1')*r)):
  Calls Tryz.prog 29 #[v1,v2,v3] V (zaf V (PT 349 (q1+(q2 - q1)*r) (q1'+(q2' - q1')*r))):=by
 obtain⟨b1,x1,y1,b2,x2,y2,rfl,hq1,hq2,⟨hk1,hk2⟩,⟨hk3,hk4⟩,⟨ok1,ok2⟩,ok3,ok4⟩:=h1
 obtain⟨b3,x3,y3,b4,x4,y4,rfl,hq3,hq4,⟨hk5,hk6⟩,⟨hk7,hk8⟩,⟨ok5,ok6⟩,ok7,ok8⟩:=h2
 obtain⟨b5,x5,y5,rfl,hq5,hk9,hk10,ok9,ok10⟩:=h3
 refine fb Tryz.func29 Tryz.ntmps29 (zaa ok9 (zaa ok10 (zaa ok5 (zaa ok6 (zaa ok7 (zaa ok8 (zaa ok1 (zaa ok2 (zaa ok3 (zaa ok4 zau)))))))))) (fun a S=>?_)
 refine wsp fun K1 hK1=>?_
 refine tb S 0 (lP b1 x1 y1 b2 x2 y2) fun g1 a V1 hgg1 S=>?_
 refine tb S 2 (lP b3 x3 y3 b4 x4 y4) fun g2 a V2 hgg2 S=>?_
 refine tb S 4 (aL b5 x5 y5) fun g3 a V3 hgg3 S=>?_
 refine ti S (cs:=lY) (zam rfl (Tryz.zeroValue29 _) rfl) (fun g4=>[⟨g1,29,(lP b1 x1 y1 b2 x2 y2)⟩,⟨g2,29,(lP b3 x3 y3 b4 x4 y4)⟩,⟨g3,27,(aL b5 x5 y5)⟩,⟨g4,29,lY⟩]) fun g4 a V4 hgg4 S=>?_
 refine hK1 _ _ ?_
 refine wp_seq_k fun K2 hK2=>?_
 obtain⟨W1,hW1⟩:∃W,W=V4:=⟨_,rfl⟩
 rw[<-hW1]at S ⊢
 have S0:=S
 refine fr 7 [7,8,9,10,11,12,13] [IsV ((aP b1 x1 y1 b2 x2 y2)),IsV ((aP b3 x3 y3 b4 x4 y4)),IsV ((aP b1 x1 y1 b2 x2 y2)),PT 349 (q2 - q1) ((q2') - (q1')),IsV ((aG b5 x5 y5)),PT 349 ((q2 - q1)*r) (((q2') - (q1'))*r),PT 349 (q1+((q2 - q1)*r)) ((q1')+(((q2') - (q1'))*r))] S ?_ ?_
 ·refine sc (fun _ _ S _ _=>sv rfl (zad rfl (S.at 3 rfl) (S.bx 0 rfl) Tryz.underlying29 rfl (vs:=(lP b1 x1 y1 b2 x2 y2)) zaR rfl)) ?_
  refine sc (fun _ _ S _ _=>sv rfl (zad rfl (S.at 2 rfl) (S.bx 1 rfl) Tryz.underlying29 rfl (vs:=(lP b3 x3 y3 b4 x4 y4)) zaR rfl)) ?_
  refine sc (fun _ _ S _ _=>sv rfl (zad rfl (S.at 3 rfl) (S.bx 0 rfl) Tryz.underlying29 rfl (vs:=(lP b1 x1 y1 b2 x2 y2)) zaR rfl)) ?_
  refine sc (fun _ _ S _ hd=>sl rfl (rc2 Tryz.func34 (hd.v 1 rfl rfl) (hd.v 2 rfl rfl)) (zjW (zcS S 2 hq3 hq4 hk5 hk6 hk7 hk8) (zcS S 6 hq1 hq2 hk1 hk2 hk3 hk4) (by assumption) (by assumption))) ?_
  refine sc (fun _ _ S _ _=>sv rfl (zad rfl (S.at 1 rfl) (S.bx 2 rfl) Tryz.underlying27 rfl (vs:=(aL b5 x5 y5)) zah rfl)) ?_
  refine sc (fun _ _ S _ hd=>sl rfl (rc2 Tryz.func74 rfl (hd.v 4 rfl rfl)) (zs0 ((hd.r 3 rfl rfl)).any (q2m S 0 hq5 hk9 hk10) (by assumption) (by assumption))) ?_
  refine sc (fun _ _ S _ hd=>sl rfl (rc2 Tryz.func24 (hd.v 0 rfl rfl) rfl) (zuE (zcS S 6 hq1 hq2 hk1 hk2 hk3 hk4) ((hd.r 5 rfl rfl)).any (by assumption) (by assumption))) ?_
  exact sn
 ·intro a1 V5 S hB hf
  obtain⟨b6,x6,y6,b7,x7,y7,hv1,hq6,hq7,⟨hk11,hk12⟩,⟨hk13,hk14⟩,⟨ok11,ok12⟩,ok13,ok14⟩:=hf.r 6 rfl rfl
  have S:=S.add hv1
  have S:=S.know ok11
  have S:=S.know ok12
  have S:=S.know ok13
  have S:=S.know ok14
  clear hf S0
  show wpList _ _ _ [_] _ _
  refine sto S 3 (fun ht=>zaj rfl (S.at 1 rfl) (S.at 0 rfl) zaR rfl (zvZ rfl) ht) fun V6 S=>?_
  refine hK2 _ _ ?_
  refine wp_ret ?_
  exact zar rfl S (S.at 1 rfl) (i:=3) rfl Tryz.underlying29 rfl zaR ⟨_,rfl,((zby S 0 hq6 hq7 hk11 hk12 hk13 hk14)).to rfl rfl (by omega),S.below⟩
theorem zvG {q:Rat}{v1:Value}{V:World}(h1:Q1 349 (q) v1 V)(hs0:Sm 349 (((0:Int):Rat) - q)):
  Calls Tryz.prog 112 #[v1] V (zaf V (QT 349 (absR q))):=by
 obtain⟨b1,x1,y1,rfl,hq1,hk1,hk2,ok1,ok2⟩:=h1
 refine fb Tryz.func112 Tryz.ntmps112 (zaa ok1 (zaa ok2 zau)) (fun a S=>?_)
 refine wsp fun K1 hK1=>?_
 refine tb S 0 (aL b1 x1 y1) fun g1 a V1 hgg1 S=>?_
 refine ti S (cs:=lZ) (zam rfl (Tryz.zeroValue27 _) rfl) (fun g2=>[⟨g1,27,(aL b1 x1 y1)⟩,⟨g2,27,lZ⟩]) fun g2 a V2 hgg2 S=>?_
 refine hK1 _ _ ?_
 refine wp_seq_k fun K2 hK2=>?_
 refine wsp fun K3 hK3=>?_
 refine tv S (zad rfl (S.at 1 rfl) (S.bx 0 rfl) Tryz.underlying27 rfl (vs:=(aL b1 x1 y1)) zah rfl) fun a S=>?_
 refine tc S (rc1 Tryz.func26 (S.at 0 rfl)) (zhO (q2m S 0 hq1 hk1 hk2)) fun v a V3 hF hb S=>?_
 subst hF
 refine tv S (zc9 rfl (S.at 0 rfl) rfl) fun a S=>?_
 refine hK3 _ _ ?_
 rcases zv9 (decide (zan q 0<0))with hc5|hc5
 ·refine wp_cond_true ((S.at 0 rfl).trans (congrArg Value.bool hc5)) ?_
  refine wp_seq_k fun K4 hK4=>?_
  obtain⟨W1,hW1⟩:∃W,W=V3:=⟨_,rfl⟩
  rw[<-hW1]at S ⊢
  have S0:=S
  refine fr 3 [6,7,8] [QT 2 ((0:Int)),IsV ((aG b1 x1 y1)),QT 349 ((0:Int) - q)] S ?_ ?_
  ·refine sc (fun _ _ _ _ _=>sl rfl (rcc Tryz.func28) (zmn (n:=0) (by decide))) ?_
   refine sc (fun _ _ S _ _=>sv rfl (zad rfl (S.at 4 rfl) (S.bx 0 rfl) Tryz.underlying27 rfl (vs:=(aL b1 x1 y1)) zah rfl)) ?_
   refine sc (fun _ _ S _ hd=>sl rfl (rc2 Tryz.func42 rfl (hd.v 1 rfl rfl)) (zm6 ((hd.r 0 rfl rfl)).any (q2m S 0 hq1 hk1 hk2) (by decide) (by decide) (by assumption))) ?_
   exact sn
  ·intro a1 V4 S hB hf
   obtain⟨b2,x2,y2,hv1,hq2,hk3,hk4,ok3,ok4⟩:=hf.r 2 rfl rfl
   have S:=S.add hv1
   have S:=S.know ok3
   have S:=S.know ok4
   clear hf S0
   show wpList _ _ _ [_] _ _
   refine sto S 1 (fun ht=>zaj rfl (S.at 4 rfl) (S.at 0 rfl) zah rfl (zvZ rfl) ht) fun V5 S=>?_
   refine hK4 _ _ ?_
   refine wp_ret ?_
   exact zar rfl S (S.at 4 rfl) (i:=1) rfl Tryz.underlying27 rfl zah ⟨_,rfl,((show QT 349 ((0:Int) - q) ((aG b2 x2 y2)) _ from⟨b2,x2,y2,rfl,hq2,hk3,hk4,(S.num 1 rfl),(S.num 0 rfl)⟩)).to ((show _= -q by grind).trans (zrx hc5)) (by omega),S.below⟩
 ·refine wp_cond_false ((S.at 0 rfl).trans (congrArg Value.bool hc5)) ?_
  refine wp_skip ?_
  refine hK2 _ _ ?_
  refine wsp fun K5 hK5=>?_
  refine tv S (zad rfl (S.at 4 rfl) (S.bx 0 rfl) Tryz.underlying27 rfl (vs:=(aL b1 x1 y1)) zah rfl) fun a S=>?_
  refine tc S (F:=QT 349 (q)) (rc1 Tryz.func69 (S.at 0 rfl)) (zgu (q2m S 0 hq1 hk1 hk2)) fun v a V6 hF hb S=>?_
  obtain⟨b3,x3,y3,rfl,hq3,hk5,hk6,ok5,ok6⟩:=hF
  have S:=S.know ok5
  have S:=S.know ok6
  refine sto S 1 (fun ht=>zaj rfl (S.at 5 rfl) (S.at 0 rfl) zah rfl (zvZ rfl) ht) fun V7 S=>?_
  refine hK5 _ _ ?_
  refine wp_ret ?_
  exact zar rfl S (S.at 5 rfl) (i:=1) rfl Tryz.underlying27 rfl zah ⟨_,rfl,((show QT 349 (q) ((aG b3 x3 y3)) _ from⟨b3,x3,y3,rfl,hq3,hk5,hk6,(S.num 1 rfl),(S.num 0 rfl)⟩)).to (zry hc5) (by omega),S.below⟩
theorem Sm.nought_sub (h:Sm K q):Sm K (((0:Int):Rat) - q):=by
 rw[show(((0:Int):Rat) - q)= -q by grind];exact h.neg
theorem Sm.absR (h:Sm K q):Sm K (absR q):=by
 unfold Go.Proofs.YtipckjmgdghkiaaGreatDoor.absR
 split
 ·exact h.neg
 ·exact h
theorem zts (h:Q1 K q v V)(b:K<=349:=by omega):Calls Tryz.prog 112 #[v] V (zaf V (QT 349 (absR q))):=
 zvG (h.to rfl b) (h.sm.nought_sub.mono (by omega))
theorem zi0 {q1 q1' q2 q2':Rat}{v1 v2:Value}{V:World}(h1:P1 349 (q1) (q1') v1 V)(h2:P1 349 (q2) (q2') v2 V)(hs0:Sm 349 (q1 - q2))(hs1:Sm 349 (q1' - q2'))(hs2:Sm 349 (absR (q1 - q2)+absR (q1' - q2'))):
  Calls Tryz.prog 76 #[v1,v2] V (zaf V (QT 349 (absR (q1 - q2)+absR (q1' - q2')))):=by
 obtain⟨b1,x1,y1,b2,x2,y2,rfl,hq1,hq2,⟨hk1,hk2⟩,⟨hk3,hk4⟩,⟨ok1,ok2⟩,ok3,ok4⟩:=h1
 obtain⟨b3,x3,y3,b4,x4,y4,rfl,hq3,hq4,⟨hk5,hk6⟩,⟨hk7,hk8⟩,⟨ok5,ok6⟩,ok7,ok8⟩:=h2
 refine fb Tryz.func76 Tryz.ntmps76 (zaa ok5 (zaa ok6 (zaa ok7 (zaa ok8 (zaa ok1 (zaa ok2 (zaa ok3 (zaa ok4 zau)))))))) (fun a S=>?_)
 refine wsp fun K1 hK1=>?_
 refine tb S 0 (lP b1 x1 y1 b2 x2 y2) fun g1 a V1 hgg1 S=>?_
 refine tb S 2 (lP b3 x3 y3 b4 x4 y4) fun g2 a V2 hgg2 S=>?_
 refine ti S (cs:=lZ) (zam rfl (Tryz.zeroValue27 _) rfl) (fun g3=>[⟨g1,29,(lP b1 x1 y1 b2 x2 y2)⟩,⟨g2,29,(lP b3 x3 y3 b4 x4 y4)⟩,⟨g3,27,lZ⟩]) fun g3 a V3 hgg3 S=>?_
 refine hK1 _ _ ?_
 refine wsp fun K2 hK2=>?_
 refine tv S (zad rfl (S.at 2 rfl) (S.bx 0 rfl) Tryz.underlying29 rfl (vs:=(lP b1 x1 y1 b2 x2 y2)) zaR rfl) fun a S=>?_
 refine tv S (zad rfl (S.at 2 rfl) (S.bx 1 rfl) Tryz.underlying29 rfl (vs:=(lP b3 x3 y3 b4 x4 y4)) zaR rfl) fun a S=>?_
 refine tc S (F:=PT 349 (q1 - q2) ((q1') - (q2'))) (rc2 Tryz.func34 (S.at 1 rfl) (S.at 0 rfl)) (zjW (zcS S 4 hq1 hq2 hk1 hk2 hk3 hk4) (zcS S 0 hq3 hq4 hk5 hk6 hk7 hk8) (by assumption) (by assumption)) fun v a V4 hF hb S=>?_
 obtain⟨b5,x5,y5,b6,x6,y6,rfl,hq5,hq6,⟨hk9,hk10⟩,⟨hk11,hk12⟩,⟨ok9,ok10⟩,ok11,ok12⟩:=hF
 have S:=S.know ok9
 have S:=S.know ok10
 have S:=S.know ok11
 have S:=S.know ok12
 refine ti S (cs:=lY) (zam rfl (Tryz.zeroValue29 _) rfl) (fun g4=>[⟨g1,29,(lP b1 x1 y1 b2 x2 y2)⟩,⟨g2,29,(lP b3 x3 y3 b4 x4 y4)⟩,⟨g3,27,lZ⟩,⟨g4,29,lY⟩]) fun g4 a V5 hgg4 S=>?_
 refine sto S 3 (fun ht=>zaj rfl (S.at 0 rfl) (S.at 1 rfl) zaR rfl (zvZ rfl) ht) fun V6 S=>?_
 refine hK2 _ _ ?_
 refine wp_seq_k fun K3 hK3=>?_
 obtain⟨W1,hW1⟩:∃W,W=V6:=⟨_,rfl⟩
 rw[<-hW1]at S ⊢
 have S0:=S
 refine fr 8 [9,10,11,12,13,14,15,16] [IsV (pT g4 0),IsV ((aG b5 x5 y5)),QT 349 (absR (q1 - q2)),IsV (pT g4 3),IsV ((aG b6 x6 y6)),QT 349 (absR ((q1') - (q2'))),QL 349 6 ([absR (q1 - q2),absR ((q1') - (q2'))]),QT 349 ((absR (q1 - q2))+(absR ((q1') - (q2'))))] S ?_ ?_
 ·refine sc (fun _ _ S _ _=>sv rfl (zab rfl (S.at 0 rfl) (zaV _))) ?_
  refine sc (fun _ _ S _ hd=>sv rfl (zad rfl (hd.v 0 rfl rfl) (S.bx 3 rfl) Tryz.underlying27 rfl (vs:=(aL b5 x5 y5)) zah rfl)) ?_
  refine sc (fun _ _ S _ hd=>sl rfl (rc1 Tryz.func112 (hd.v 1 rfl rfl)) (zts (show QT 349 (q1 - q2) ((aG b5 x5 y5)) _ from⟨b5,x5,y5,rfl,hq5,hk9,hk10,(S.num 3 rfl),(S.num 2 rfl)⟩).any)) ?_
  refine sc (fun _ _ S _ _=>sv rfl (zab rfl (S.at 0 rfl) (za3 _))) ?_
  refine sc (fun _ _ S _ hd=>sv rfl (zad rfl (hd.v 3 rfl rfl) (S.bx 3 rfl) Tryz.underlying27 rfl (vs:=(aL b6 x6 y6)) zah rfl)) ?_
  refine sc (fun _ _ S _ hd=>sl rfl (rc1 Tryz.func112 (hd.v 4 rfl rfl)) (zts (show QT 349 ((q1') - (q2')) ((aG b6 x6 y6)) _ from⟨b6,x6,y6,rfl,hq6,hk11,hk12,(S.num 1 rfl),(S.num 0 rfl)⟩).any)) ?_
  refine sc (fun _ _ _ _ hd=>sy rfl (zbW rfl rfl rfl ((hd.r 2 rfl rfl)).any ((hd.r 5 rfl rfl)).any)) ?_
  refine sc (fun _ _ _ _ hd=>sl rfl (rc1 Tryz.func43 rfl) (zgl ((hd.r 6 rfl rfl)).row (by decide) (by assumption))) ?_
  exact sn
 ·intro a1 V7 S hB hf
  obtain⟨b7,x7,y7,hv1,hq7,hk13,hk14,ok13,ok14⟩:=hf.r 7 rfl rfl
  have S:=S.add hv1
  have S:=S.know ok13
  have S:=S.know ok14
  clear hf S0
  show wpList _ _ _ [_] _ _
  refine sto S 2 (fun ht=>zaj rfl (S.at 5 rfl) (S.at 0 rfl) zah rfl (zvZ rfl) ht) fun V8 S=>?_
  refine hK3 _ _ ?_
  refine wp_ret ?_
  exact zar rfl S (S.at 5 rfl) (i:=2) rfl Tryz.underlying27 rfl zah ⟨_,rfl,((show QT 349 ((absR (q1 - q2))+(absR ((q1') - (q2')))) ((aG b7 x7 y7)) _ from⟨b7,x7,y7,rfl,hq7,hk13,hk14,(S.num 1 rfl),(S.num 0 rfl)⟩)).to rfl (by omega),S.below⟩
theorem zrC {q1 q1' q2 q2':Rat}{v1 v2:Value}{V:World}(h1:P1 349 (q1) (q1') v1 V)(h2:P1 349 (q2) (q2') v2 V):
  Calls Tryz.prog 31 #[v1,v2] V (zaf V (fun v _=>v= .int .i64 (za0 q1 q1' q2 q2'))):=by
 obtain⟨b1,x1,y1,b2,x2,y2,rfl,hq1,hq2,⟨hk1,hk2⟩,⟨hk3,hk4⟩,⟨ok1,ok2⟩,ok3,ok4⟩:=h1
 obtain⟨b3,x3,y3,b4,x4,y4,rfl,hq3,hq4,⟨hk5,hk6⟩,⟨hk7,hk8⟩,⟨ok5,ok6⟩,ok7,ok8⟩:=h2
 refine fb Tryz.func31 Tryz.ntmps31 (zaa ok5 (zaa ok6 (zaa ok7 (zaa ok8 (zaa ok1 (zaa ok2 (zaa ok3 (zaa ok4 zau)))))))) (fun a S=>?_)
 refine wsp fun K1 hK1=>?_
 refine tb S 0 (lP b1 x1 y1 b2 x2 y2) fun g1 a V1 hgg1 S=>?_
 refine tb S 2 (lP b3 x3 y3 b4 x4 y4) fun g2 a V2 hgg2 S=>?_
 refine ac S fun a S=>?_
 refine hK1 _ _ ?_
 refine wsp fun K2 hK2=>?_
 refine tv S (zab rfl (S.at 2 rfl) (zaV _)) fun a S=>?_
 refine tv S (zad rfl (S.at 0 rfl) (S.bx 0 rfl) Tryz.underlying27 rfl (vs:=(aL b1 x1 y1)) zah rfl) fun a S=>?_
 refine tv S (zab rfl (S.at 3 rfl) (zaV _)) fun a S=>?_
 refine tv S (zad rfl (S.at 0 rfl) (S.bx 1 rfl) Tryz.underlying27 rfl (vs:=(aL b3 x3 y3)) zah rfl) fun a S=>?_
 refine tc S (rc2 Tryz.func27 (S.at 2 rfl) (S.at 0 rfl)) (zkU (q2m S 4 hq1 hk1 hk2) (q2m S 0 hq3 hk5 hk6) (by decide) (by decide)) fun v a V3 hF hb S=>?_
 subst hF
 refine tv S (zak rfl (S.at 0 rfl)) fun a S=>?_
 refine hK2 _ _ ?_
 refine wp_seq_k fun K3 hK3=>?_
 refine wsp fun K4 hK4=>?_
 refine mv S 0 fun a S=>?_
 refine tv S (zgp _ (by decide) rfl (S.at 0 rfl) rfl) fun a S=>?_
 refine hK4 _ _ ?_
 rcases zv9 (!decide (zan q1 q2=0))with hc12|hc12
 ·refine wp_cond_true ((S.at 0 rfl).trans (congrArg Value.bool hc12)) ?_
  refine wsp fun K5 hK5=>?_
  refine mv S 2 fun a S=>?_
  refine av S (zak rfl (S.at 0 rfl)) fun a S=>?_
  refine hK5 _ _ ?_
  refine wp_ret ?_
  exact zay rfl S (S.at 0 rfl) ⟨_,rfl,congrArg (Value.int .i64) (zrz hc12),S.below⟩
 ·refine wp_cond_false ((S.at 0 rfl).trans (congrArg Value.bool hc12)) ?_
  refine wp_skip ?_
  refine hK3 _ _ ?_
  refine wsp fun K6 hK6=>?_
  refine tv S (zab rfl (S.at 10 rfl) (za3 _)) fun a S=>?_
  refine tv S (zad rfl (S.at 0 rfl) (S.bx 0 rfl) Tryz.underlying27 rfl (vs:=(aL b2 x2 y2)) zah rfl) fun a S=>?_
  refine tv S (zab rfl (S.at 11 rfl) (za3 _)) fun a S=>?_
  refine tv S (zad rfl (S.at 0 rfl) (S.bx 1 rfl) Tryz.underlying27 rfl (vs:=(aL b4 x4 y4)) zah rfl) fun a S=>?_
  refine tc S (rc2 Tryz.func27 (S.at 2 rfl) (S.at 0 rfl)) (zkU (q2m S 6 hq2 hk3 hk4) (q2m S 2 hq4 hk7 hk8) (by decide) (by decide)) fun v a V4 hF hb S=>?_
  subst hF
  refine av S (zak rfl (S.at 0 rfl)) fun a S=>?_
  refine hK6 _ _ ?_
  refine wp_ret ?_
  exact zay rfl S (S.at 0 rfl) ⟨_,rfl,congrArg (Value.int .i64) (zrA hc12),S.below⟩
theorem zs2 {q1 q1' q2 q2':Rat}{v1 v2:Value}{V:World}(h1:P1 349 (q1) (q1') v1 V)(h2:P1 349 (q2) (q2') v2 V):
  Calls Tryz.prog 32 #[v1,v2] V (zaf V (fun v _=>v= .bool (decide (za0 q1 q1' q2 q2'=0)))):=by
 obtain⟨b1,x1,y1,b2,x2,y2,rfl,hq1,hq2,⟨hk1,hk2⟩,⟨hk3,hk4⟩,⟨ok1,ok2⟩,ok3,ok4⟩:=h1
 obtain⟨b3,x3,y3,b4,x4,y4,rfl,hq3,hq4,⟨hk5,hk6⟩,⟨hk7,hk8⟩,⟨ok5,ok6⟩,ok7,ok8⟩:=h2
 refine fb Tryz.func32 Tryz.ntmps32 (zaa ok5 (zaa ok6 (zaa ok7 (zaa ok8 (zaa ok1 (zaa ok2 (zaa ok3 (zaa ok4 zau)))))))) (fun a S=>?_)
 refine wsp fun K1 hK1=>?_
 refine tb S 0 (lP b1 x1 y1 b2 x2 y2) fun g1 a V1 hgg1 S=>?_
 refine tb S 2 (lP b3 x3 y3 b4 x4 y4) fun g2 a V2 hgg2 S=>?_
 refine ac S fun a S=>?_
 refine hK1 _ _ ?_
 refine wsp fun K2 hK2=>?_
 refine tv S (zad rfl (S.at 2 rfl) (S.bx 0 rfl) Tryz.underlying29 rfl (vs:=(lP b1 x1 y1 b2 x2 y2)) zaR rfl) fun a S=>?_
 refine tv S (zad rfl (S.at 2 rfl) (S.bx 1 rfl) Tryz.underlying29 rfl (vs:=(lP b3 x3 y3 b4 x4 y4)) zaR rfl) fun a S=>?_
 refine tc S (rc2 Tryz.func31 (S.at 1 rfl) (S.at 0 rfl)) (zrC (zcS S 4 hq1 hq2 hk1 hk2 hk3 hk4) (zcS S 0 hq3 hq4 hk5 hk6 hk7 hk8)) fun v a V3 hF hb S=>?_
 subst hF
 refine tv S (zdx _ (by decide) rfl (S.at 0 rfl) rfl) fun a S=>?_
 refine av S (zak rfl (S.at 0 rfl)) fun a S=>?_
 refine hK2 _ _ ?_
 refine wp_ret ?_
 exact zay rfl S (S.at 0 rfl) ⟨_,rfl,rfl,S.below⟩
end Go.Proofs.YtipckjmgdghkiaaGreatDoor
