/- A part. -/
import Derived.Test.YtafokgknenienaaGreatDoorGVVecP
set_option maxHeartbeats 4000000
set_option maxRecDepth 100000
namespace Go.Proofs.YtafokgknenienaaGreatDoor
open Go Go.RowKit
theorem zrO {n m:Int}{V:World}(hn:(-9223372036854775808≤n∧n≤9223372036854775807)∧ -9223372036854775808≤m∧m≤9223372036854775807):
  Calls Tryz.prog 60 #[.int .i64 n,.int .i64 m] V (zai V (PT 2 ((n:Int):Rat) ((m:Int):Rat))):=by
 refine zao (e:=[]) Tryz.func60 rfl Tryz.ntmps60 (zta rfl) [(0,.int .i64 n),(1,.int .i64 m)] rfl zaz (fun a S=>?_)
 refine wp_seq_k fun K1 hK1=>?_
 refine zab ?_
 refine ti S (cs:=[.bool false,.slice none 0 0,.slice none 0 0,.bool false,.slice none 0 0,.slice none 0 0]) (zas rfl (Tryz.zeroValue53 _) rfl) (fun g1=>[⟨g1,53,[.bool false,.slice none 0 0,.slice none 0 0,.bool false,.slice none 0 0,.slice none 0 0]⟩]) fun g1 a V1 hgg1 S=>?_
 refine hK1 _ _ ?_
 refine wp_seq_k fun K2 hK2=>?_
 refine zab ?_
 refine tv S (zad rfl (S.at 1 rfl)) fun a S=>?_
 refine tc S (F:=QT 2 ((n:Int))) (rc1 Tryz.func23 (S.at 0 rfl)) (zg4 (n:=n) (by omega)) fun v a V2 hF hb S=>?_
 obtain⟨b1,x1,y1,rfl,hq1,hk1,hk2,ok1,ok2⟩:=hF
 have S:=S.know ok1
 have S:=S.know ok2
 refine tv S (zad rfl (S.at 4 rfl)) fun a S=>?_
 refine tc S (F:=QT 2 ((m:Int))) (rc1 Tryz.func23 (S.at 0 rfl)) (zg4 (n:=m) (by omega)) fun v a V3 hF hb S=>?_
 obtain⟨b2,x2,y2,rfl,hq2,hk3,hk4,ok3,ok4⟩:=hF
 have S:=S.know ok3
 have S:=S.know ok4
 refine tv S (za2 rfl (S.at 2 rfl) (S.at 0 rfl) (zlw _ _ _ _ _ _ _ _ _ _ _ _ _ _)) fun a S=>?_
 refine zap S (i:=0) (vs:=(lP b1 x1 y1 b2 x2 y2)) rfl (fun ht=>zal rfl (S.at 5 rfl) (S.at 0 rfl) zaq rfl (zta rfl) ht) (zta rfl) rfl rfl rfl (lb':=[⟨g1,53,(lP b1 x1 y1 b2 x2 y2)⟩]) rfl (fun V4 S=>?_)
 refine hK2 _ _ ?_
 refine wp_ret ?_
 exact zaw rfl S (S.at 5 rfl) (i:=0) rfl Tryz.underlying53 rfl zaq ⟨_,rfl,((show PT 2 ((n:Int)) ((m:Int)) ((aP b1 x1 y1 b2 x2 y2)) _ from⟨b1,x1,y1,b2,x2,y2,rfl,hq1,hq2,⟨hk1,hk2⟩,⟨hk3,hk4⟩,⟨(S.num 3 rfl),(S.num 2 rfl)⟩,(S.num 1 rfl),(S.num 0 rfl)⟩)).to rfl rfl (by omega),S.below⟩
theorem zcT {K K':Nat}{q q' r r':Rat}{v1 v2:Value}{V:World}(h1:PT K (q) (q') v1 V)(h2:PT K' (r) (r') v2 V)(e1:q=r)(e2:q'=r'):
  Calls Tryz.prog 48 #[v1,v2] V (zai V (fun v _=>v= .bool true)):=by
 obtain⟨b1,x1,y1,b2,x2,y2,rfl,hq1,hq2,⟨hk1,hk2⟩,⟨hk3,hk4⟩,⟨ok1,ok2⟩,ok3,ok4⟩:=h1
 obtain⟨b3,x3,y3,b4,x4,y4,rfl,hq3,hq4,⟨hk5,hk6⟩,⟨hk7,hk8⟩,⟨ok5,ok6⟩,ok7,ok8⟩:=h2
 refine zao (e:=[x3,y3,x4,y4,x1,y1,x2,y2]) Tryz.func48 rfl Tryz.ntmps48 (zta rfl) [(0,(aP b1 x1 y1 b2 x2 y2)),(1,(aP b3 x3 y3 b4 x4 y4))] rfl (zaa ok5 (zaa ok6 (zaa ok7 (zaa ok8 (zaa ok1 (zaa ok2 (zaa ok3 (zaa ok4 zaz)))))))) (fun a S=>?_)
 refine wp_seq_k fun K1 hK1=>?_
 refine zab ?_
 refine ti S (cs:=(lP b1 x1 y1 b2 x2 y2)) (zar rfl (S.at 0 rfl) rfl) (fun g1=>[⟨g1,53,(lP b1 x1 y1 b2 x2 y2)⟩]) fun g1 a V1 hgg1 S=>?_
 refine ti S (cs:=(lP b3 x3 y3 b4 x4 y4)) (zar rfl (S.at 2 rfl) rfl) (fun g2=>[⟨g1,53,(lP b1 x1 y1 b2 x2 y2)⟩,⟨g2,53,(lP b3 x3 y3 b4 x4 y4)⟩]) fun g2 a V2 hgg2 S=>?_
 refine tv S (zav rfl) fun a S=>?_
 refine hK1 _ _ ?_
 refine wp_seq_k fun K2 hK2=>?_
 refine zab ?_
 refine tv S (zae rfl (S.at 2 rfl) (zaQ _)) fun a S=>?_
 refine tv S (zac rfl (S.at 0 rfl) (S.bx 0 rfl) Tryz.underlying27 rfl (vs:=(aL b1 x1 y1)) zag rfl) fun a S=>?_
 refine tv S (zae rfl (S.at 3 rfl) (zaQ _)) fun a S=>?_
 refine tv S (zac rfl (S.at 0 rfl) (S.bx 1 rfl) Tryz.underlying27 rfl (vs:=(aL b3 x3 y3)) zag rfl) fun a S=>?_
 refine tc S (F:=(fun v _=>v= .bool true)) (rc2 Tryz.func61 (S.at 2 rfl) (S.at 0 rfl)) (zgC (show QT K (q) ((aG b1 x1 y1)) _ from⟨b1,x1,y1,rfl,hq1,hk1,hk2,(S.num 4 rfl),(S.num 5 rfl)⟩) (show QT K' (r) ((aG b3 x3 y3)) _ from⟨b3,x3,y3,rfl,hq3,hk5,hk6,(S.num 0 rfl),(S.num 1 rfl)⟩) e1) fun v a V3 hF hb S=>?_
 subst hF
 refine tv S (zad rfl (S.at 0 rfl)) fun a S=>?_
 refine tvg S (S.at 0 rfl) (zae rfl (S.at 8 rfl) (zaT _)) fun a S=>?_
 refine tvg S (S.at 1 rfl) (zac rfl (S.at 0 rfl) (S.bx 0 rfl) Tryz.underlying27 rfl (vs:=(aL b2 x2 y2)) zag rfl) fun a S=>?_
 refine tvg S (S.at 2 rfl) (zae rfl (S.at 9 rfl) (zaT _)) fun a S=>?_
 refine tvg S (S.at 3 rfl) (zac rfl (S.at 0 rfl) (S.bx 1 rfl) Tryz.underlying27 rfl (vs:=(aL b4 x4 y4)) zag rfl) fun a S=>?_
 refine tcg S (S.at 4 rfl) (F:=(fun v _=>v= .bool true)) (rc2 Tryz.func61 (S.at 2 rfl) (S.at 0 rfl)) (zgC (show QT K (q') ((aG b2 x2 y2)) _ from⟨b2,x2,y2,rfl,hq2,hk3,hk4,(S.num 6 rfl),(S.num 7 rfl)⟩) (show QT K' (r') ((aG b4 x4 y4)) _ from⟨b4,x4,y4,rfl,hq4,hk7,hk8,(S.num 2 rfl),(S.num 3 rfl)⟩) e2) fun v a V4 hF hb S=>?_
 subst hF
 refine tv S (zau true rfl (S.at 5 rfl) (S.at 0 rfl)) fun a S=>?_
 refine za5 S (v:= .bool true) (zan rfl (S.at 0 rfl)) rfl rfl (by decide) (ls':=[(16,.bool true),(15,.bool true),(14,(aG b4 x4 y4)),(13,pT g2 3),(12,(aG b2 x2 y2)),(11,pT g1 3),(10,.bool true),(9,.bool true),(8,(aG b3 x3 y3)),(7,pT g2 0),(6,(aG b1 x1 y1)),(5,pT g1 0),(3,pT g2 0),(2,pT g1 0),(0,(aP b1 x1 y1 b2 x2 y2)),(1,(aP b3 x3 y3 b4 x4 y4))]) rfl (fun a S=>?_)
 refine hK2 _ _ ?_
 refine wp_ret ?_
 exact zaH rfl S (S.at 0 rfl) ⟨_,rfl,rfl,S.below⟩
theorem zqL {q1 q1' q2 q2':Rat}{v1 v2:Value}{V:World}(h1:P1 26 (q1) (q1') v1 V)(h2:P1 26 (q2) (q2') v2 V):
  Calls Tryz.prog 50 #[v1,v2] V (zai V (PT 53 (q1+q2) (q1'+q2'))):=by
 obtain⟨b1,x1,y1,b2,x2,y2,rfl,hq1,hq2,⟨hk1,hk2⟩,⟨hk3,hk4⟩,⟨ok1,ok2⟩,ok3,ok4⟩:=h1
 obtain⟨b3,x3,y3,b4,x4,y4,rfl,hq3,hq4,⟨hk5,hk6⟩,⟨hk7,hk8⟩,⟨ok5,ok6⟩,ok7,ok8⟩:=h2
 refine zao (e:=[x3,y3,x4,y4,x1,y1,x2,y2]) Tryz.func50 rfl Tryz.ntmps50 (zta rfl) [(0,(aP b1 x1 y1 b2 x2 y2)),(1,(aP b3 x3 y3 b4 x4 y4))] rfl (zaa ok5 (zaa ok6 (zaa ok7 (zaa ok8 (zaa ok1 (zaa ok2 (zaa ok3 (zaa ok4 zaz)))))))) (fun a S=>?_)
 refine wp_seq_k fun K1 hK1=>?_
 refine zab ?_
 refine ti S (cs:=(lP b1 x1 y1 b2 x2 y2)) (zar rfl (S.at 0 rfl) rfl) (fun g1=>[⟨g1,53,(lP b1 x1 y1 b2 x2 y2)⟩]) fun g1 a V1 hgg1 S=>?_
 refine ti S (cs:=(lP b3 x3 y3 b4 x4 y4)) (zar rfl (S.at 2 rfl) rfl) (fun g2=>[⟨g1,53,(lP b1 x1 y1 b2 x2 y2)⟩,⟨g2,53,(lP b3 x3 y3 b4 x4 y4)⟩]) fun g2 a V2 hgg2 S=>?_
 refine ti S (cs:=[.bool false,.slice none 0 0,.slice none 0 0,.bool false,.slice none 0 0,.slice none 0 0]) (zas rfl (Tryz.zeroValue53 _) rfl) (fun g3=>[⟨g1,53,(lP b1 x1 y1 b2 x2 y2)⟩,⟨g2,53,(lP b3 x3 y3 b4 x4 y4)⟩,⟨g3,53,[.bool false,.slice none 0 0,.slice none 0 0,.bool false,.slice none 0 0,.slice none 0 0]⟩]) fun g3 a V3 hgg3 S=>?_
 refine hK1 _ _ ?_
 refine wp_seq_k fun K2 hK2=>?_
 obtain⟨W1,hW1⟩:∃W,W=V3:=⟨_,rfl⟩
 rw[←hW1]at S ⊢
 have S0:=S
 refine fr 13 [5,6,7,8,9,10,11,12,13,14,15,16,17] [IsV (pT g1 0),IsV ((aG b1 x1 y1)),IsV (pT g2 0),IsV ((aG b3 x3 y3)),QL 26 6 ([q1,q2]),QT 53 (q1+q2),IsV (pT g1 3),IsV ((aG b2 x2 y2)),IsV (pT g2 3),IsV ((aG b4 x4 y4)),QL 26 6 ([q1',q2']),QT 53 ((q1')+(q2')),PT 53 (q1+q2) ((q1')+(q2'))] S ?_ ?_
 ·refine sc (fun _ _ S _ _=>sv rfl (zae rfl (S.at 2 rfl) (zaQ _))) ?_
  refine sc (fun _ _ S _ hd=>sv rfl (zac rfl (hd.v 0 rfl rfl) (S.bx 0 rfl) Tryz.underlying27 rfl (vs:=(aL b1 x1 y1)) zag rfl)) ?_
  refine sc (fun _ _ S _ _=>sv rfl (zae rfl (S.at 1 rfl) (zaQ _))) ?_
  refine sc (fun _ _ S _ hd=>sv rfl (zac rfl (hd.v 2 rfl rfl) (S.bx 1 rfl) Tryz.underlying27 rfl (vs:=(aL b3 x3 y3)) zag rfl)) ?_
  refine sc (fun _ _ S _ hd=>sy rfl (zbc rfl (hd.v 1 rfl rfl) (hd.v 3 rfl rfl) (show Q1 26 (q1) ((aG b1 x1 y1)) _ from⟨b1,x1,y1,rfl,hq1,hk1,hk2,(S.num 4 rfl),(S.num 5 rfl)⟩) (show Q1 26 (q2) ((aG b3 x3 y3)) _ from⟨b3,x3,y3,rfl,hq3,hk5,hk6,(S.num 0 rfl),(S.num 1 rfl)⟩))) ?_
  refine sc (fun _ _ _ _ hd=>sl rfl (rc1 Tryz.func29 rfl) (zfu ((hd.r 4 rfl rfl)).row (by decide))) ?_
  refine sc (fun _ _ S _ _=>sv rfl (zae rfl (S.at 2 rfl) (zaT _))) ?_
  refine sc (fun _ _ S _ hd=>sv rfl (zac rfl (hd.v 6 rfl rfl) (S.bx 0 rfl) Tryz.underlying27 rfl (vs:=(aL b2 x2 y2)) zag rfl)) ?_
  refine sc (fun _ _ S _ _=>sv rfl (zae rfl (S.at 1 rfl) (zaT _))) ?_
  refine sc (fun _ _ S _ hd=>sv rfl (zac rfl (hd.v 8 rfl rfl) (S.bx 1 rfl) Tryz.underlying27 rfl (vs:=(aL b4 x4 y4)) zag rfl)) ?_
  refine sc (fun _ _ S _ hd=>sy rfl (zbc rfl (hd.v 7 rfl rfl) (hd.v 9 rfl rfl) (show Q1 26 (q1') ((aG b2 x2 y2)) _ from⟨b2,x2,y2,rfl,hq2,hk3,hk4,(S.num 6 rfl),(S.num 7 rfl)⟩) (show Q1 26 (q2') ((aG b4 x4 y4)) _ from⟨b4,x4,y4,rfl,hq4,hk7,hk8,(S.num 2 rfl),(S.num 3 rfl)⟩))) ?_
  refine sc (fun _ _ _ _ hd=>sl rfl (rc1 Tryz.func29 rfl) (zfu ((hd.r 10 rfl rfl)).row (by decide))) ?_
  refine sc (fun _ _ _ _ hd=>by
   obtain⟨v,hv,hq⟩:=zlx (hd.r 5 rfl rfl) (hd.r 11 rfl rfl)
   exact sv rfl (za2 rfl rfl rfl hv) hq) ?_
  exact sn
 ·intro a1 V4 S hB hf
  obtain⟨b5,x5,y5,b6,x6,y6,hv1,hq5,hq6,⟨hk9,hk10⟩,⟨hk11,hk12⟩,⟨ok9,ok10⟩,ok11,ok12⟩:=hf.r 12 rfl rfl
  have S:=S.add hv1
  have S:=S.know ok9
  have S:=S.know ok10
  have S:=S.know ok11
  have S:=S.know ok12
  clear hf S0
  show wpList _ _ _ [_] _ _
  refine zap S (i:=2) (vs:=(lP b5 x5 y5 b6 x6 y6)) rfl (fun ht=>zal rfl (S.at 1 rfl) (S.at 0 rfl) zaq rfl (zta rfl) ht) (zta rfl) rfl rfl rfl (lb':=[⟨g1,53,(lP b1 x1 y1 b2 x2 y2)⟩,⟨g2,53,(lP b3 x3 y3 b4 x4 y4)⟩,⟨g3,53,(lP b5 x5 y5 b6 x6 y6)⟩]) rfl (fun V5 S=>?_)
  refine hK2 _ _ ?_
  refine wp_ret ?_
  exact zaw rfl S (S.at 1 rfl) (i:=2) rfl Tryz.underlying53 rfl zaq ⟨_,rfl,((show PT 53 (q1+q2) ((q1')+(q2')) ((aP b5 x5 y5 b6 x6 y6)) _ from⟨b5,x5,y5,b6,x6,y6,rfl,hq5,hq6,⟨hk9,hk10⟩,⟨hk11,hk12⟩,⟨(S.num 3 rfl),(S.num 2 rfl)⟩,(S.num 1 rfl),(S.num 0 rfl)⟩)).to rfl rfl (by omega),S.below⟩
theorem zlA {q1 q1' q2 q2':Rat}{v1 v2:Value}{V:World}(h1:P1 6 (q1) (q1') v1 V)(h2:P1 6 (q2) (q2') v2 V):
  Calls Tryz.prog 52 #[v1,v2] V (zai V (PT 13 (q1 - q2) (q1' - q2'))):=by
 obtain⟨b1,x1,y1,b2,x2,y2,rfl,hq1,hq2,⟨hk1,hk2⟩,⟨hk3,hk4⟩,⟨ok1,ok2⟩,ok3,ok4⟩:=h1
 obtain⟨b3,x3,y3,b4,x4,y4,rfl,hq3,hq4,⟨hk5,hk6⟩,⟨hk7,hk8⟩,⟨ok5,ok6⟩,ok7,ok8⟩:=h2
 refine zao (e:=[x3,y3,x4,y4,x1,y1,x2,y2]) Tryz.func52 rfl Tryz.ntmps52 (zta rfl) [(0,(aP b1 x1 y1 b2 x2 y2)),(1,(aP b3 x3 y3 b4 x4 y4))] rfl (zaa ok5 (zaa ok6 (zaa ok7 (zaa ok8 (zaa ok1 (zaa ok2 (zaa ok3 (zaa ok4 zaz)))))))) (fun a S=>?_)
 refine wp_seq_k fun K1 hK1=>?_
 refine zab ?_
 refine ti S (cs:=(lP b1 x1 y1 b2 x2 y2)) (zar rfl (S.at 0 rfl) rfl) (fun g1=>[⟨g1,53,(lP b1 x1 y1 b2 x2 y2)⟩]) fun g1 a V1 hgg1 S=>?_
 refine ti S (cs:=(lP b3 x3 y3 b4 x4 y4)) (zar rfl (S.at 2 rfl) rfl) (fun g2=>[⟨g1,53,(lP b1 x1 y1 b2 x2 y2)⟩,⟨g2,53,(lP b3 x3 y3 b4 x4 y4)⟩]) fun g2 a V2 hgg2 S=>?_
 refine ti S (cs:=[.bool false,.slice none 0 0,.slice none 0 0,.bool false,.slice none 0 0,.slice none 0 0]) (zas rfl (Tryz.zeroValue53 _) rfl) (fun g3=>[⟨g1,53,(lP b1 x1 y1 b2 x2 y2)⟩,⟨g2,53,(lP b3 x3 y3 b4 x4 y4)⟩,⟨g3,53,[.bool false,.slice none 0 0,.slice none 0 0,.bool false,.slice none 0 0,.slice none 0 0]⟩]) fun g3 a V3 hgg3 S=>?_
 refine hK1 _ _ ?_
 refine wp_seq_k fun K2 hK2=>?_
 obtain⟨W1,hW1⟩:∃W,W=V3:=⟨_,rfl⟩
 rw[←hW1]at S ⊢
 have S0:=S
 refine fr 11 [5,6,7,8,9,10,11,12,13,14,15] [IsV (pT g1 0),IsV ((aG b1 x1 y1)),IsV (pT g2 0),IsV ((aG b3 x3 y3)),QT 13 (q1 - q2),IsV (pT g1 3),IsV ((aG b2 x2 y2)),IsV (pT g2 3),IsV ((aG b4 x4 y4)),QT 13 ((q1') - (q2')),PT 13 (q1 - q2) ((q1') - (q2'))] S ?_ ?_
 ·refine sc (fun _ _ S _ _=>sv rfl (zae rfl (S.at 2 rfl) (zaQ _))) ?_
  refine sc (fun _ _ S _ hd=>sv rfl (zac rfl (hd.v 0 rfl rfl) (S.bx 0 rfl) Tryz.underlying27 rfl (vs:=(aL b1 x1 y1)) zag rfl)) ?_
  refine sc (fun _ _ S _ _=>sv rfl (zae rfl (S.at 1 rfl) (zaQ _))) ?_
  refine sc (fun _ _ S _ hd=>sv rfl (zac rfl (hd.v 2 rfl rfl) (S.bx 1 rfl) Tryz.underlying27 rfl (vs:=(aL b3 x3 y3)) zag rfl)) ?_
  refine sc (fun _ _ S _ hd=>sl rfl (rc2 Tryz.func35 (hd.v 1 rfl rfl) (hd.v 3 rfl rfl)) (zlg (show Q1 6 (q1) ((aG b1 x1 y1)) _ from⟨b1,x1,y1,rfl,hq1,hk1,hk2,(S.num 4 rfl),(S.num 5 rfl)⟩) (show Q1 6 (q2) ((aG b3 x3 y3)) _ from⟨b3,x3,y3,rfl,hq3,hk5,hk6,(S.num 0 rfl),(S.num 1 rfl)⟩) (by decide) (by decide))) ?_
  refine sc (fun _ _ S _ _=>sv rfl (zae rfl (S.at 2 rfl) (zaT _))) ?_
  refine sc (fun _ _ S _ hd=>sv rfl (zac rfl (hd.v 5 rfl rfl) (S.bx 0 rfl) Tryz.underlying27 rfl (vs:=(aL b2 x2 y2)) zag rfl)) ?_
  refine sc (fun _ _ S _ _=>sv rfl (zae rfl (S.at 1 rfl) (zaT _))) ?_
  refine sc (fun _ _ S _ hd=>sv rfl (zac rfl (hd.v 7 rfl rfl) (S.bx 1 rfl) Tryz.underlying27 rfl (vs:=(aL b4 x4 y4)) zag rfl)) ?_
  refine sc (fun _ _ S _ hd=>sl rfl (rc2 Tryz.func35 (hd.v 6 rfl rfl) (hd.v 8 rfl rfl)) (zlg (show Q1 6 (q1') ((aG b2 x2 y2)) _ from⟨b2,x2,y2,rfl,hq2,hk3,hk4,(S.num 6 rfl),(S.num 7 rfl)⟩) (show Q1 6 (q2') ((aG b4 x4 y4)) _ from⟨b4,x4,y4,rfl,hq4,hk7,hk8,(S.num 2 rfl),(S.num 3 rfl)⟩) (by decide) (by decide))) ?_
  refine sc (fun _ _ _ _ hd=>by
   obtain⟨v,hv,hq⟩:=zlx (hd.r 4 rfl rfl) (hd.r 9 rfl rfl)
   exact sv rfl (za2 rfl rfl rfl hv) hq) ?_
  exact sn
 ·intro a1 V4 S hB hf
  obtain⟨b5,x5,y5,b6,x6,y6,hv1,hq5,hq6,⟨hk9,hk10⟩,⟨hk11,hk12⟩,⟨ok9,ok10⟩,ok11,ok12⟩:=hf.r 10 rfl rfl
  have S:=S.add hv1
  have S:=S.know ok9
  have S:=S.know ok10
  have S:=S.know ok11
  have S:=S.know ok12
  clear hf S0
  show wpList _ _ _ [_] _ _
  refine zap S (i:=2) (vs:=(lP b5 x5 y5 b6 x6 y6)) rfl (fun ht=>zal rfl (S.at 1 rfl) (S.at 0 rfl) zaq rfl (zta rfl) ht) (zta rfl) rfl rfl rfl (lb':=[⟨g1,53,(lP b1 x1 y1 b2 x2 y2)⟩,⟨g2,53,(lP b3 x3 y3 b4 x4 y4)⟩,⟨g3,53,(lP b5 x5 y5 b6 x6 y6)⟩]) rfl (fun V5 S=>?_)
  refine hK2 _ _ ?_
  refine wp_ret ?_
  exact zaw rfl S (S.at 1 rfl) (i:=2) rfl Tryz.underlying53 rfl zaq ⟨_,rfl,((show PT 13 (q1 - q2) ((q1') - (q2')) ((aP b5 x5 y5 b6 x6 y6)) _ from⟨b5,x5,y5,b6,x6,y6,rfl,hq5,hq6,⟨hk9,hk10⟩,⟨hk11,hk12⟩,⟨(S.num 3 rfl),(S.num 2 rfl)⟩,(S.num 1 rfl),(S.num 0 rfl)⟩)).to rfl rfl (by omega),S.below⟩
theorem zlB {q1 q1' q2:Rat}{v1 v2:Value}{V:World}(h1:P1 13 (q1) (q1') v1 V)(h2:Q1 13 (q2) v2 V):
  Calls Tryz.prog 56 #[v1,v2] V (zai V (PT 26 (q1*q2) (q1'*q2))):=by
 obtain⟨b1,x1,y1,b2,x2,y2,rfl,hq1,hq2,⟨hk1,hk2⟩,⟨hk3,hk4⟩,⟨ok1,ok2⟩,ok3,ok4⟩:=h1
 obtain⟨b3,x3,y3,rfl,hq3,hk5,hk6,ok5,ok6⟩:=h2
 refine zao (e:=[x3,y3,x1,y1,x2,y2]) Tryz.func56 rfl Tryz.ntmps56 (zta rfl) [(0,(aP b1 x1 y1 b2 x2 y2)),(1,(aG b3 x3 y3))] rfl (zaa ok5 (zaa ok6 (zaa ok1 (zaa ok2 (zaa ok3 (zaa ok4 zaz)))))) (fun a S=>?_)
 refine wp_seq_k fun K1 hK1=>?_
 refine zab ?_
 refine ti S (cs:=(lP b1 x1 y1 b2 x2 y2)) (zar rfl (S.at 0 rfl) rfl) (fun g1=>[⟨g1,53,(lP b1 x1 y1 b2 x2 y2)⟩]) fun g1 a V1 hgg1 S=>?_
 refine ti S (cs:=(aL b3 x3 y3)) (zar rfl (S.at 2 rfl) rfl) (fun g2=>[⟨g1,53,(lP b1 x1 y1 b2 x2 y2)⟩,⟨g2,27,(aL b3 x3 y3)⟩]) fun g2 a V2 hgg2 S=>?_
 refine ti S (cs:=[.bool false,.slice none 0 0,.slice none 0 0,.bool false,.slice none 0 0,.slice none 0 0]) (zas rfl (Tryz.zeroValue53 _) rfl) (fun g3=>[⟨g1,53,(lP b1 x1 y1 b2 x2 y2)⟩,⟨g2,27,(aL b3 x3 y3)⟩,⟨g3,53,[.bool false,.slice none 0 0,.slice none 0 0,.bool false,.slice none 0 0,.slice none 0 0]⟩]) fun g3 a V3 hgg3 S=>?_
 refine hK1 _ _ ?_
 refine wp_seq_k fun K2 hK2=>?_
 obtain⟨W1,hW1⟩:∃W,W=V3:=⟨_,rfl⟩
 rw[←hW1]at S ⊢
 have S0:=S
 refine fr 11 [5,6,7,8,9,10,11,12,13,14,15] [IsV (pT g1 0),IsV ((aG b1 x1 y1)),IsV ((aG b3 x3 y3)),QL 13 6 ([q1,q2]),QT 26 (q1*q2),IsV (pT g1 3),IsV ((aG b2 x2 y2)),IsV ((aG b3 x3 y3)),QL 13 6 ([q1',q2]),QT 26 ((q1')*q2),PT 26 (q1*q2) ((q1')*q2)] S ?_ ?_
 ·refine sc (fun _ _ S _ _=>sv rfl (zae rfl (S.at 2 rfl) (zaQ _))) ?_
  refine sc (fun _ _ S _ hd=>sv rfl (zac rfl (hd.v 0 rfl rfl) (S.bx 0 rfl) Tryz.underlying27 rfl (vs:=(aL b1 x1 y1)) zag rfl)) ?_
  refine sc (fun _ _ S _ _=>sv rfl (zac rfl (S.at 1 rfl) (S.bx 1 rfl) Tryz.underlying27 rfl (vs:=(aL b3 x3 y3)) zag rfl)) ?_
  refine sc (fun _ _ S _ hd=>sy rfl (zbc rfl (hd.v 1 rfl rfl) (hd.v 2 rfl rfl) (show Q1 13 (q1) ((aG b1 x1 y1)) _ from⟨b1,x1,y1,rfl,hq1,hk1,hk2,(S.num 2 rfl),(S.num 3 rfl)⟩) (show Q1 13 (q2) ((aG b3 x3 y3)) _ from⟨b3,x3,y3,rfl,hq3,hk5,hk6,(S.num 0 rfl),(S.num 1 rfl)⟩))) ?_
  refine sc (fun _ _ _ _ hd=>sl rfl (rc1 Tryz.func31 rfl) (zfv ((hd.r 3 rfl rfl)).row (by decide))) ?_
  refine sc (fun _ _ S _ _=>sv rfl (zae rfl (S.at 2 rfl) (zaT _))) ?_
  refine sc (fun _ _ S _ hd=>sv rfl (zac rfl (hd.v 5 rfl rfl) (S.bx 0 rfl) Tryz.underlying27 rfl (vs:=(aL b2 x2 y2)) zag rfl)) ?_
  refine sc (fun _ _ S _ _=>sv rfl (zac rfl (S.at 1 rfl) (S.bx 1 rfl) Tryz.underlying27 rfl (vs:=(aL b3 x3 y3)) zag rfl)) ?_
  refine sc (fun _ _ S _ hd=>sy rfl (zbc rfl (hd.v 6 rfl rfl) (hd.v 7 rfl rfl) (show Q1 13 (q1') ((aG b2 x2 y2)) _ from⟨b2,x2,y2,rfl,hq2,hk3,hk4,(S.num 4 rfl),(S.num 5 rfl)⟩) (show Q1 13 (q2) ((aG b3 x3 y3)) _ from⟨b3,x3,y3,rfl,hq3,hk5,hk6,(S.num 0 rfl),(S.num 1 rfl)⟩))) ?_
  refine sc (fun _ _ _ _ hd=>sl rfl (rc1 Tryz.func31 rfl) (zfv ((hd.r 8 rfl rfl)).row (by decide))) ?_
  refine sc (fun _ _ _ _ hd=>by
   obtain⟨v,hv,hq⟩:=zlx (hd.r 4 rfl rfl) (hd.r 9 rfl rfl)
   exact sv rfl (za2 rfl rfl rfl hv) hq) ?_
  exact sn
 ·intro a1 V4 S hB hf
  obtain⟨b4,x4,y4,b5,x5,y5,hv1,hq4,hq5,⟨hk7,hk8⟩,⟨hk9,hk10⟩,⟨ok7,ok8⟩,ok9,ok10⟩:=hf.r 10 rfl rfl
  have S:=S.add hv1
  have S:=S.know ok7
  have S:=S.know ok8
  have S:=S.know ok9
  have S:=S.know ok10
  clear hf S0
  show wpList _ _ _ [_] _ _
  refine zap S (i:=2) (vs:=(lP b4 x4 y4 b5 x5 y5)) rfl (fun ht=>zal rfl (S.at 1 rfl) (S.at 0 rfl) zaq rfl (zta rfl) ht) (zta rfl) rfl rfl rfl (lb':=[⟨g1,53,(lP b1 x1 y1 b2 x2 y2)⟩,⟨g2,27,(aL b3 x3 y3)⟩,⟨g3,53,(lP b4 x4 y4 b5 x5 y5)⟩]) rfl (fun V5 S=>?_)
  refine hK2 _ _ ?_
  refine wp_ret ?_
  exact zaw rfl S (S.at 1 rfl) (i:=2) rfl Tryz.underlying53 rfl zaq ⟨_,rfl,((show PT 26 (q1*q2) ((q1')*q2) ((aP b4 x4 y4 b5 x5 y5)) _ from⟨b4,x4,y4,b5,x5,y5,rfl,hq4,hq5,⟨hk7,hk8⟩,⟨hk9,hk10⟩,⟨(S.num 3 rfl),(S.num 2 rfl)⟩,(S.num 1 rfl),(S.num 0 rfl)⟩)).to rfl rfl (by omega),S.below⟩
theorem zsN {q1 q1':Rat}{v1:Value}{V:World}(h1:P1 6 (q1) (q1') v1 V):
  Calls Tryz.prog 54 #[v1] V (zai V (PT 13 (-q1) (-q1'))):=by
 obtain⟨b1,x1,y1,b2,x2,y2,rfl,hq1,hq2,⟨hk1,hk2⟩,⟨hk3,hk4⟩,⟨ok1,ok2⟩,ok3,ok4⟩:=h1
 refine zao (e:=[x1,y1,x2,y2]) Tryz.func54 rfl Tryz.ntmps54 (zta rfl) [(0,(aP b1 x1 y1 b2 x2 y2))] rfl (zaa ok1 (zaa ok2 (zaa ok3 (zaa ok4 zaz)))) (fun a S=>?_)
 refine wp_seq_k fun K1 hK1=>?_
 refine zab ?_
 refine ti S (cs:=(lP b1 x1 y1 b2 x2 y2)) (zar rfl (S.at 0 rfl) rfl) (fun g1=>[⟨g1,53,(lP b1 x1 y1 b2 x2 y2)⟩]) fun g1 a V1 hgg1 S=>?_
 refine ti S (cs:=[.bool false,.slice none 0 0,.slice none 0 0,.bool false,.slice none 0 0,.slice none 0 0]) (zas rfl (Tryz.zeroValue53 _) rfl) (fun g2=>[⟨g1,53,(lP b1 x1 y1 b2 x2 y2)⟩,⟨g2,53,[.bool false,.slice none 0 0,.slice none 0 0,.bool false,.slice none 0 0,.slice none 0 0]⟩]) fun g2 a V2 hgg2 S=>?_
 refine hK1 _ _ ?_
 refine wp_seq_k fun K2 hK2=>?_
 obtain⟨W1,hW1⟩:∃W,W=V2:=⟨_,rfl⟩
 rw[←hW1]at S ⊢
 have S0:=S
 refine fr 3 [3,4,5] [PT 2 (((0:Int):Rat)) (((0:Int):Rat)),IsV ((aP b1 x1 y1 b2 x2 y2)),PT 13 (((0:Int):Rat) - q1) (((0:Int):Rat) - (q1'))] S ?_ ?_
 ·refine sc (fun _ _ _ _ _=>sl rfl (zfW Tryz.func60) (zrO (n:=0) (m:=0) (by decide))) ?_
  refine sc (fun _ _ S _ _=>sv rfl (zac rfl (S.at 1 rfl) (S.bx 0 rfl) Tryz.underlying53 rfl (vs:=(lP b1 x1 y1 b2 x2 y2)) zaq rfl)) ?_
  refine sc (fun _ _ S _ hd=>sl rfl (rc2 Tryz.func52 rfl (hd.v 1 rfl rfl)) (zlA ((((hd.r 0 rfl rfl)).any).to rfl rfl (by decide)) (show P1 6 (q1) (q1') ((aP b1 x1 y1 b2 x2 y2)) _ from⟨b1,x1,y1,b2,x2,y2,rfl,hq1,hq2,⟨hk1,hk2⟩,⟨hk3,hk4⟩,⟨(S.num 0 rfl),(S.num 1 rfl)⟩,(S.num 2 rfl),(S.num 3 rfl)⟩))) ?_
  exact sn
 ·intro a1 V3 S hB hf
  obtain⟨b3,x3,y3,b4,x4,y4,hv1,hq3,hq4,⟨hk5,hk6⟩,⟨hk7,hk8⟩,⟨ok5,ok6⟩,ok7,ok8⟩:=hf.r 2 rfl rfl
  have S:=S.add hv1
  have S:=S.know ok5
  have S:=S.know ok6
  have S:=S.know ok7
  have S:=S.know ok8
  clear hf S0
  show wpList _ _ _ [_] _ _
  refine zap S (i:=1) (vs:=(lP b3 x3 y3 b4 x4 y4)) rfl (fun ht=>zal rfl (S.at 1 rfl) (S.at 0 rfl) zaq rfl (zta rfl) ht) (zta rfl) rfl rfl rfl (lb':=[⟨g1,53,(lP b1 x1 y1 b2 x2 y2)⟩,⟨g2,53,(lP b3 x3 y3 b4 x4 y4)⟩]) rfl (fun V4 S=>?_)
  refine hK2 _ _ ?_
  refine wp_ret ?_
  exact zaw rfl S (S.at 1 rfl) (i:=1) rfl Tryz.underlying53 rfl zaq ⟨_,rfl,((show PT 13 (((0:Int):Rat) - q1) (((0:Int):Rat) - (q1')) ((aP b3 x3 y3 b4 x4 y4)) _ from⟨b3,x3,y3,b4,x4,y4,rfl,hq3,hq4,⟨hk5,hk6⟩,⟨hk7,hk8⟩,⟨(S.num 3 rfl),(S.num 2 rfl)⟩,(S.num 1 rfl),(S.num 0 rfl)⟩)).to (by grind) (by grind) (by omega),S.below⟩
theorem zqo {q1 q1' q2 q2':Rat}{v1 v2:Value}{V:World}(h1:P1 6 (q1) (q1') v1 V)(h2:P1 6 (q2) (q2') v2 V):
  Calls Tryz.prog 63 #[v1,v2] V (zai V (QT 25 (q1*q2' - q1'*q2))):=by
 obtain⟨b1,x1,y1,b2,x2,y2,rfl,hq1,hq2,⟨hk1,hk2⟩,⟨hk3,hk4⟩,⟨ok1,ok2⟩,ok3,ok4⟩:=h1
 obtain⟨b3,x3,y3,b4,x4,y4,rfl,hq3,hq4,⟨hk5,hk6⟩,⟨hk7,hk8⟩,⟨ok5,ok6⟩,ok7,ok8⟩:=h2
 refine zao (e:=[x3,y3,x4,y4,x1,y1,x2,y2]) Tryz.func63 rfl Tryz.ntmps63 (zta rfl) [(0,(aP b1 x1 y1 b2 x2 y2)),(1,(aP b3 x3 y3 b4 x4 y4))] rfl (zaa ok5 (zaa ok6 (zaa ok7 (zaa ok8 (zaa ok1 (zaa ok2 (zaa ok3 (zaa ok4 zaz)))))))) (fun a S=>?_)
 refine wp_seq_k fun K1 hK1=>?_
 refine zab ?_
 refine ti S (cs:=(lP b1 x1 y1 b2 x2 y2)) (zar rfl (S.at 0 rfl) rfl) (fun g1=>[⟨g1,53,(lP b1 x1 y1 b2 x2 y2)⟩]) fun g1 a V1 hgg1 S=>?_
 refine ti S (cs:=(lP b3 x3 y3 b4 x4 y4)) (zar rfl (S.at 2 rfl) rfl) (fun g2=>[⟨g1,53,(lP b1 x1 y1 b2 x2 y2)⟩,⟨g2,53,(lP b3 x3 y3 b4 x4 y4)⟩]) fun g2 a V2 hgg2 S=>?_
 refine ti S (cs:=[.bool false,.slice none 0 0,.slice none 0 0]) (zas rfl (Tryz.zeroValue27 _) rfl) (fun g3=>[⟨g1,53,(lP b1 x1 y1 b2 x2 y2)⟩,⟨g2,53,(lP b3 x3 y3 b4 x4 y4)⟩,⟨g3,27,[.bool false,.slice none 0 0,.slice none 0 0]⟩]) fun g3 a V3 hgg3 S=>?_
 refine hK1 _ _ ?_
 refine wp_seq_k fun K2 hK2=>?_
 obtain⟨W1,hW1⟩:∃W,W=V3:=⟨_,rfl⟩
 rw[←hW1]at S ⊢
 have S0:=S
 refine fr 13 [5,6,7,8,9,10,11,12,13,14,15,16,17] [IsV (pT g1 0),IsV ((aG b1 x1 y1)),IsV (pT g2 3),IsV ((aG b4 x4 y4)),QL 6 6 ([q1,q2']),QT 12 (q1*(q2')),IsV (pT g1 3),IsV ((aG b2 x2 y2)),IsV (pT g2 0),IsV ((aG b3 x3 y3)),QL 6 6 ([q1',q2]),QT 12 ((q1')*q2),QT 25 ((q1*(q2')) - ((q1')*q2))] S ?_ ?_
 ·refine sc (fun _ _ S _ _=>sv rfl (zae rfl (S.at 2 rfl) (zaQ _))) ?_
  refine sc (fun _ _ S _ hd=>sv rfl (zac rfl (hd.v 0 rfl rfl) (S.bx 0 rfl) Tryz.underlying27 rfl (vs:=(aL b1 x1 y1)) zag rfl)) ?_
  refine sc (fun _ _ S _ _=>sv rfl (zae rfl (S.at 1 rfl) (zaT _))) ?_
  refine sc (fun _ _ S _ hd=>sv rfl (zac rfl (hd.v 2 rfl rfl) (S.bx 1 rfl) Tryz.underlying27 rfl (vs:=(aL b4 x4 y4)) zag rfl)) ?_
  refine sc (fun _ _ S _ hd=>sy rfl (zbc rfl (hd.v 1 rfl rfl) (hd.v 3 rfl rfl) (show Q1 6 (q1) ((aG b1 x1 y1)) _ from⟨b1,x1,y1,rfl,hq1,hk1,hk2,(S.num 4 rfl),(S.num 5 rfl)⟩) (show Q1 6 (q2') ((aG b4 x4 y4)) _ from⟨b4,x4,y4,rfl,hq4,hk7,hk8,(S.num 2 rfl),(S.num 3 rfl)⟩))) ?_
  refine sc (fun _ _ _ _ hd=>sl rfl (rc1 Tryz.func31 rfl) (zfv ((hd.r 4 rfl rfl)).row (by decide))) ?_
  refine sc (fun _ _ S _ _=>sv rfl (zae rfl (S.at 2 rfl) (zaT _))) ?_
  refine sc (fun _ _ S _ hd=>sv rfl (zac rfl (hd.v 6 rfl rfl) (S.bx 0 rfl) Tryz.underlying27 rfl (vs:=(aL b2 x2 y2)) zag rfl)) ?_
  refine sc (fun _ _ S _ _=>sv rfl (zae rfl (S.at 1 rfl) (zaQ _))) ?_
  refine sc (fun _ _ S _ hd=>sv rfl (zac rfl (hd.v 8 rfl rfl) (S.bx 1 rfl) Tryz.underlying27 rfl (vs:=(aL b3 x3 y3)) zag rfl)) ?_
  refine sc (fun _ _ S _ hd=>sy rfl (zbc rfl (hd.v 7 rfl rfl) (hd.v 9 rfl rfl) (show Q1 6 (q1') ((aG b2 x2 y2)) _ from⟨b2,x2,y2,rfl,hq2,hk3,hk4,(S.num 6 rfl),(S.num 7 rfl)⟩) (show Q1 6 (q2) ((aG b3 x3 y3)) _ from⟨b3,x3,y3,rfl,hq3,hk5,hk6,(S.num 0 rfl),(S.num 1 rfl)⟩))) ?_
  refine sc (fun _ _ _ _ hd=>sl rfl (rc1 Tryz.func31 rfl) (zfv ((hd.r 10 rfl rfl)).row (by decide))) ?_
  refine sc (fun _ _ _ _ hd=>sl rfl (rc2 Tryz.func35 rfl rfl) (zlg ((hd.r 5 rfl rfl)).any ((hd.r 11 rfl rfl)).any (by decide) (by decide))) ?_
  exact sn
 ·intro a1 V4 S hB hf
  obtain⟨b5,x5,y5,hv1,hq5,hk9,hk10,ok9,ok10⟩:=hf.r 12 rfl rfl
  have S:=S.add hv1
  have S:=S.know ok9
  have S:=S.know ok10
  clear hf S0
  show wpList _ _ _ [_] _ _
  refine zap S (i:=2) (vs:=(aL b5 x5 y5)) rfl (fun ht=>zal rfl (S.at 1 rfl) (S.at 0 rfl) zag rfl (zta rfl) ht) (zta rfl) rfl rfl rfl (lb':=[⟨g1,53,(lP b1 x1 y1 b2 x2 y2)⟩,⟨g2,53,(lP b3 x3 y3 b4 x4 y4)⟩,⟨g3,27,(aL b5 x5 y5)⟩]) rfl (fun V5 S=>?_)
  refine hK2 _ _ ?_
  refine wp_ret ?_
  exact zaw rfl S (S.at 1 rfl) (i:=2) rfl Tryz.underlying27 rfl zag ⟨_,rfl,((show QT 25 ((q1*(q2')) - ((q1')*q2)) ((aG b5 x5 y5)) _ from⟨b5,x5,y5,rfl,hq5,hk9,hk10,(S.num 1 rfl),(S.num 0 rfl)⟩)).to rfl (by omega),S.below⟩
theorem zsO {q1 q1' q2 q2':Rat}{v1 v2:Value}{V:World}(h1:P1 6 (q1) (q1') v1 V)(h2:P1 6 (q2) (q2') v2 V):
  Calls Tryz.prog 65 #[v1,v2] V (zai V (QT 25 (q1*q2+q1'*q2'))):=by
 obtain⟨b1,x1,y1,b2,x2,y2,rfl,hq1,hq2,⟨hk1,hk2⟩,⟨hk3,hk4⟩,⟨ok1,ok2⟩,ok3,ok4⟩:=h1
 obtain⟨b3,x3,y3,b4,x4,y4,rfl,hq3,hq4,⟨hk5,hk6⟩,⟨hk7,hk8⟩,⟨ok5,ok6⟩,ok7,ok8⟩:=h2
 refine zao (e:=[x3,y3,x4,y4,x1,y1,x2,y2]) Tryz.func65 rfl Tryz.ntmps65 (zta rfl) [(0,(aP b1 x1 y1 b2 x2 y2)),(1,(aP b3 x3 y3 b4 x4 y4))] rfl (zaa ok5 (zaa ok6 (zaa ok7 (zaa ok8 (zaa ok1 (zaa ok2 (zaa ok3 (zaa ok4 zaz)))))))) (fun a S=>?_)
 refine wp_seq_k fun K1 hK1=>?_
 refine zab ?_
 refine ti S (cs:=(lP b1 x1 y1 b2 x2 y2)) (zar rfl (S.at 0 rfl) rfl) (fun g1=>[⟨g1,53,(lP b1 x1 y1 b2 x2 y2)⟩]) fun g1 a V1 hgg1 S=>?_
 refine ti S (cs:=(lP b3 x3 y3 b4 x4 y4)) (zar rfl (S.at 2 rfl) rfl) (fun g2=>[⟨g1,53,(lP b1 x1 y1 b2 x2 y2)⟩,⟨g2,53,(lP b3 x3 y3 b4 x4 y4)⟩]) fun g2 a V2 hgg2 S=>?_
 refine ti S (cs:=[.bool false,.slice none 0 0,.slice none 0 0]) (zas rfl (Tryz.zeroValue27 _) rfl) (fun g3=>[⟨g1,53,(lP b1 x1 y1 b2 x2 y2)⟩,⟨g2,53,(lP b3 x3 y3 b4 x4 y4)⟩,⟨g3,27,[.bool false,.slice none 0 0,.slice none 0 0]⟩]) fun g3 a V3 hgg3 S=>?_
 refine hK1 _ _ ?_
 refine wp_seq_k fun K2 hK2=>?_
 obtain⟨W1,hW1⟩:∃W,W=V3:=⟨_,rfl⟩
 rw[←hW1]at S ⊢
 have S0:=S
 refine fr 14 [5,6,7,8,9,10,11,12,13,14,15,16,17,18] [IsV (pT g1 0),IsV ((aG b1 x1 y1)),IsV (pT g2 0),IsV ((aG b3 x3 y3)),QL 6 6 ([q1,q2]),QT 12 (q1*q2),IsV (pT g1 3),IsV ((aG b2 x2 y2)),IsV (pT g2 3),IsV ((aG b4 x4 y4)),QL 6 6 ([q1',q2']),QT 12 ((q1')*(q2')),QL 12 6 ([q1*q2,(q1')*(q2')]),QT 25 ((q1*q2)+((q1')*(q2')))] S ?_ ?_
 ·refine sc (fun _ _ S _ _=>sv rfl (zae rfl (S.at 2 rfl) (zaQ _))) ?_
  refine sc (fun _ _ S _ hd=>sv rfl (zac rfl (hd.v 0 rfl rfl) (S.bx 0 rfl) Tryz.underlying27 rfl (vs:=(aL b1 x1 y1)) zag rfl)) ?_
  refine sc (fun _ _ S _ _=>sv rfl (zae rfl (S.at 1 rfl) (zaQ _))) ?_
  refine sc (fun _ _ S _ hd=>sv rfl (zac rfl (hd.v 2 rfl rfl) (S.bx 1 rfl) Tryz.underlying27 rfl (vs:=(aL b3 x3 y3)) zag rfl)) ?_
  refine sc (fun _ _ S _ hd=>sy rfl (zbc rfl (hd.v 1 rfl rfl) (hd.v 3 rfl rfl) (show Q1 6 (q1) ((aG b1 x1 y1)) _ from⟨b1,x1,y1,rfl,hq1,hk1,hk2,(S.num 4 rfl),(S.num 5 rfl)⟩) (show Q1 6 (q2) ((aG b3 x3 y3)) _ from⟨b3,x3,y3,rfl,hq3,hk5,hk6,(S.num 0 rfl),(S.num 1 rfl)⟩))) ?_
  refine sc (fun _ _ _ _ hd=>sl rfl (rc1 Tryz.func31 rfl) (zfv ((hd.r 4 rfl rfl)).row (by decide))) ?_
  refine sc (fun _ _ S _ _=>sv rfl (zae rfl (S.at 2 rfl) (zaT _))) ?_
  refine sc (fun _ _ S _ hd=>sv rfl (zac rfl (hd.v 6 rfl rfl) (S.bx 0 rfl) Tryz.underlying27 rfl (vs:=(aL b2 x2 y2)) zag rfl)) ?_
  refine sc (fun _ _ S _ _=>sv rfl (zae rfl (S.at 1 rfl) (zaT _))) ?_
  refine sc (fun _ _ S _ hd=>sv rfl (zac rfl (hd.v 8 rfl rfl) (S.bx 1 rfl) Tryz.underlying27 rfl (vs:=(aL b4 x4 y4)) zag rfl)) ?_
  refine sc (fun _ _ S _ hd=>sy rfl (zbc rfl (hd.v 7 rfl rfl) (hd.v 9 rfl rfl) (show Q1 6 (q1') ((aG b2 x2 y2)) _ from⟨b2,x2,y2,rfl,hq2,hk3,hk4,(S.num 6 rfl),(S.num 7 rfl)⟩) (show Q1 6 (q2') ((aG b4 x4 y4)) _ from⟨b4,x4,y4,rfl,hq4,hk7,hk8,(S.num 2 rfl),(S.num 3 rfl)⟩))) ?_
  refine sc (fun _ _ _ _ hd=>sl rfl (rc1 Tryz.func31 rfl) (zfv ((hd.r 10 rfl rfl)).row (by decide))) ?_
  refine sc (fun _ _ _ _ hd=>sy rfl (zbc rfl rfl rfl ((hd.r 5 rfl rfl)).any ((hd.r 11 rfl rfl)).any)) ?_
  refine sc (fun _ _ _ _ hd=>sl rfl (rc1 Tryz.func29 rfl) (zfu ((hd.r 12 rfl rfl)).row (by decide))) ?_
  exact sn
 ·intro a1 V4 S hB hf
  obtain⟨b5,x5,y5,hv1,hq5,hk9,hk10,ok9,ok10⟩:=hf.r 13 rfl rfl
  have S:=S.add hv1
  have S:=S.know ok9
  have S:=S.know ok10
  clear hf S0
  show wpList _ _ _ [_] _ _
  refine zap S (i:=2) (vs:=(aL b5 x5 y5)) rfl (fun ht=>zal rfl (S.at 1 rfl) (S.at 0 rfl) zag rfl (zta rfl) ht) (zta rfl) rfl rfl rfl (lb':=[⟨g1,53,(lP b1 x1 y1 b2 x2 y2)⟩,⟨g2,53,(lP b3 x3 y3 b4 x4 y4)⟩,⟨g3,27,(aL b5 x5 y5)⟩]) rfl (fun V5 S=>?_)
  refine hK2 _ _ ?_
  refine wp_ret ?_
  exact zaw rfl S (S.at 1 rfl) (i:=2) rfl Tryz.underlying27 rfl zag ⟨_,rfl,((show QT 25 ((q1*q2)+((q1')*(q2'))) ((aG b5 x5 y5)) _ from⟨b5,x5,y5,rfl,hq5,hk9,hk10,(S.num 1 rfl),(S.num 0 rfl)⟩)).to rfl (by omega),S.below⟩
theorem zs2 {q1 q1' q2 q2' r:Rat}{v1 v2 v3:Value}{V:World}(h1:P1 6 (q1) (q1') v1 V)(h2:P1 6 (q2) (q2') v2 V)(h3:Q1 6 (r) v3 V):
  Calls Tryz.prog 58 #[v1,v2,v3] V (zai V (PT 53 (q1+(q2 - q1)*r) (q1'+(q2' - q1')*r))):=by
 obtain⟨b1,x1,y1,b2,x2,y2,rfl,hq1,hq2,⟨hk1,hk2⟩,⟨hk3,hk4⟩,⟨ok1,ok2⟩,ok3,ok4⟩:=h1
 obtain⟨b3,x3,y3,b4,x4,y4,rfl,hq3,hq4,⟨hk5,hk6⟩,⟨hk7,hk8⟩,⟨ok5,ok6⟩,ok7,ok8⟩:=h2
 obtain⟨b5,x5,y5,rfl,hq5,hk9,hk10,ok9,ok10⟩:=h3
 refine zao (e:=[x5,y5,x3,y3,x4,y4,x1,y1,x2,y2]) Tryz.func58 rfl Tryz.ntmps58 (zta rfl) [(0,(aP b1 x1 y1 b2 x2 y2)),(1,(aP b3 x3 y3 b4 x4 y4)),(2,(aG b5 x5 y5))] rfl (zaa ok9 (zaa ok10 (zaa ok5 (zaa ok6 (zaa ok7 (zaa ok8 (zaa ok1 (zaa ok2 (zaa ok3 (zaa ok4 zaz)))))))))) (fun a S=>?_)
 refine wp_seq_k fun K1 hK1=>?_
 refine zab ?_
 refine ti S (cs:=(lP b1 x1 y1 b2 x2 y2)) (zar rfl (S.at 0 rfl) rfl) (fun g1=>[⟨g1,53,(lP b1 x1 y1 b2 x2 y2)⟩]) fun g1 a V1 hgg1 S=>?_
 refine ti S (cs:=(lP b3 x3 y3 b4 x4 y4)) (zar rfl (S.at 2 rfl) rfl) (fun g2=>[⟨g1,53,(lP b1 x1 y1 b2 x2 y2)⟩,⟨g2,53,(lP b3 x3 y3 b4 x4 y4)⟩]) fun g2 a V2 hgg2 S=>?_
 refine ti S (cs:=(aL b5 x5 y5)) (zar rfl (S.at 4 rfl) rfl) (fun g3=>[⟨g1,53,(lP b1 x1 y1 b2 x2 y2)⟩,⟨g2,53,(lP b3 x3 y3 b4 x4 y4)⟩,⟨g3,27,(aL b5 x5 y5)⟩]) fun g3 a V3 hgg3 S=>?_
 refine ti S (cs:=[.bool false,.slice none 0 0,.slice none 0 0,.bool false,.slice none 0 0,.slice none 0 0]) (zas rfl (Tryz.zeroValue53 _) rfl) (fun g4=>[⟨g1,53,(lP b1 x1 y1 b2 x2 y2)⟩,⟨g2,53,(lP b3 x3 y3 b4 x4 y4)⟩,⟨g3,27,(aL b5 x5 y5)⟩,⟨g4,53,[.bool false,.slice none 0 0,.slice none 0 0,.bool false,.slice none 0 0,.slice none 0 0]⟩]) fun g4 a V4 hgg4 S=>?_
 refine hK1 _ _ ?_
 refine wp_seq_k fun K2 hK2=>?_
 obtain⟨W1,hW1⟩:∃W,W=V4:=⟨_,rfl⟩
 rw[←hW1]at S ⊢
 have S0:=S
 refine fr 7 [7,8,9,10,11,12,13] [IsV ((aP b1 x1 y1 b2 x2 y2)),IsV ((aP b3 x3 y3 b4 x4 y4)),IsV ((aP b1 x1 y1 b2 x2 y2)),PT 13 (q2 - q1) ((q2') - (q1')),IsV ((aG b5 x5 y5)),PT 26 ((q2 - q1)*r) (((q2') - (q1'))*r),PT 53 (q1+((q2 - q1)*r)) ((q1')+(((q2') - (q1'))*r))] S ?_ ?_
 ·refine sc (fun _ _ S _ _=>sv rfl (zac rfl (S.at 3 rfl) (S.bx 0 rfl) Tryz.underlying53 rfl (vs:=(lP b1 x1 y1 b2 x2 y2)) zaq rfl)) ?_
  refine sc (fun _ _ S _ _=>sv rfl (zac rfl (S.at 2 rfl) (S.bx 1 rfl) Tryz.underlying53 rfl (vs:=(lP b3 x3 y3 b4 x4 y4)) zaq rfl)) ?_
  refine sc (fun _ _ S _ _=>sv rfl (zac rfl (S.at 3 rfl) (S.bx 0 rfl) Tryz.underlying53 rfl (vs:=(lP b1 x1 y1 b2 x2 y2)) zaq rfl)) ?_
  refine sc (fun _ _ S _ hd=>sl rfl (rc2 Tryz.func52 (hd.v 1 rfl rfl) (hd.v 2 rfl rfl)) (zlA (show P1 6 (q2) (q2') ((aP b3 x3 y3 b4 x4 y4)) _ from⟨b3,x3,y3,b4,x4,y4,rfl,hq3,hq4,⟨hk5,hk6⟩,⟨hk7,hk8⟩,⟨(S.num 2 rfl),(S.num 3 rfl)⟩,(S.num 4 rfl),(S.num 5 rfl)⟩) (show P1 6 (q1) (q1') ((aP b1 x1 y1 b2 x2 y2)) _ from⟨b1,x1,y1,b2,x2,y2,rfl,hq1,hq2,⟨hk1,hk2⟩,⟨hk3,hk4⟩,⟨(S.num 6 rfl),(S.num 7 rfl)⟩,(S.num 8 rfl),(S.num 9 rfl)⟩))) ?_
  refine sc (fun _ _ S _ _=>sv rfl (zac rfl (S.at 1 rfl) (S.bx 2 rfl) Tryz.underlying27 rfl (vs:=(aL b5 x5 y5)) zag rfl)) ?_
  refine sc (fun _ _ S _ hd=>sl rfl (rc2 Tryz.func56 rfl (hd.v 4 rfl rfl)) (zlB ((hd.r 3 rfl rfl)).any (((show Q1 6 (r) ((aG b5 x5 y5)) _ from⟨b5,x5,y5,rfl,hq5,hk9,hk10,(S.num 0 rfl),(S.num 1 rfl)⟩)).to rfl (by decide)))) ?_
  refine sc (fun _ _ S _ hd=>sl rfl (rc2 Tryz.func50 (hd.v 0 rfl rfl) rfl) (zqL (((show P1 6 (q1) (q1') ((aP b1 x1 y1 b2 x2 y2)) _ from⟨b1,x1,y1,b2,x2,y2,rfl,hq1,hq2,⟨hk1,hk2⟩,⟨hk3,hk4⟩,⟨(S.num 6 rfl),(S.num 7 rfl)⟩,(S.num 8 rfl),(S.num 9 rfl)⟩)).to rfl rfl (by decide)) ((hd.r 5 rfl rfl)).any)) ?_
  exact sn
 ·intro a1 V5 S hB hf
  obtain⟨b6,x6,y6,b7,x7,y7,hv1,hq6,hq7,⟨hk11,hk12⟩,⟨hk13,hk14⟩,⟨ok11,ok12⟩,ok13,ok14⟩:=hf.r 6 rfl rfl
  have S:=S.add hv1
  have S:=S.know ok11
  have S:=S.know ok12
  have S:=S.know ok13
  have S:=S.know ok14
  clear hf S0
  show wpList _ _ _ [_] _ _
  refine zap S (i:=3) (vs:=(lP b6 x6 y6 b7 x7 y7)) rfl (fun ht=>zal rfl (S.at 1 rfl) (S.at 0 rfl) zaq rfl (zta rfl) ht) (zta rfl) rfl rfl rfl (lb':=[⟨g1,53,(lP b1 x1 y1 b2 x2 y2)⟩,⟨g2,53,(lP b3 x3 y3 b4 x4 y4)⟩,⟨g3,27,(aL b5 x5 y5)⟩,⟨g4,53,(lP b6 x6 y6 b7 x7 y7)⟩]) rfl (fun V6 S=>?_)
  refine hK2 _ _ ?_
  refine wp_ret ?_
  exact zaw rfl S (S.at 1 rfl) (i:=3) rfl Tryz.underlying53 rfl zaq ⟨_,rfl,((show PT 53 (q1+((q2 - q1)*r)) ((q1')+(((q2') - (q1'))*r)) ((aP b6 x6 y6 b7 x7 y7)) _ from⟨b6,x6,y6,b7,x7,y7,rfl,hq6,hq7,⟨hk11,hk12⟩,⟨hk13,hk14⟩,⟨(S.num 3 rfl),(S.num 2 rfl)⟩,(S.num 1 rfl),(S.num 0 rfl)⟩)).to rfl rfl (by omega),S.below⟩
theorem zqM {q:Rat}{v1:Value}{V:World}(h1:Q1 13 (q) v1 V):
  Calls Tryz.prog 116 #[v1] V (zai V (QT 16 (zbH q))):=by
 obtain⟨b1,x1,y1,rfl,hq1,hk1,hk2,ok1,ok2⟩:=h1
 refine zao (e:=[x1,y1]) Tryz.func116 rfl Tryz.ntmps116 (zta rfl) [(0,(aG b1 x1 y1))] rfl (zaa ok1 (zaa ok2 zaz)) (fun a S=>?_)
 refine wp_seq_k fun K1 hK1=>?_
 refine zab ?_
 refine ti S (cs:=(aL b1 x1 y1)) (zar rfl (S.at 0 rfl) rfl) (fun g1=>[⟨g1,27,(aL b1 x1 y1)⟩]) fun g1 a V1 hgg1 S=>?_
 refine ti S (cs:=[.bool false,.slice none 0 0,.slice none 0 0]) (zas rfl (Tryz.zeroValue27 _) rfl) (fun g2=>[⟨g1,27,(aL b1 x1 y1)⟩,⟨g2,27,[.bool false,.slice none 0 0,.slice none 0 0]⟩]) fun g2 a V2 hgg2 S=>?_
 refine hK1 _ _ ?_
 refine wp_seq_k fun K2 hK2=>?_
 refine wp_seq_k fun K3 hK3=>?_
 refine zab ?_
 refine tv S (zac rfl (S.at 1 rfl) (S.bx 0 rfl) Tryz.underlying27 rfl (vs:=(aL b1 x1 y1)) zag rfl) fun a S=>?_
 refine tc S (F:=(fun v _=>v= .int .i64 (zaI q 0))) (rc1 Tryz.func17 (S.at 0 rfl)) (zrv (show Q1 13 (q) ((aG b1 x1 y1)) _ from⟨b1,x1,y1,rfl,hq1,hk1,hk2,(S.num 0 rfl),(S.num 1 rfl)⟩)) fun v a V3 hF hb S=>?_
 subst hF
 refine tv S (zbY rfl (S.at 0 rfl) rfl) fun a S=>?_
 refine hK3 _ _ ?_
 rcases ztk (decide (zaI q 0<0))with hc5|hc5
 ·refine wp_cond_true ((S.at 0 rfl).trans (congrArg Value.bool hc5)) ?_
  refine wp_seq_k fun K4 hK4=>?_
  obtain⟨W1,hW1⟩:∃W,W=V3:=⟨_,rfl⟩
  rw[←hW1]at S ⊢
  have S0:=S
  refine fr 3 [6,7,8] [QT 2 ((0:Int)),IsV ((aG b1 x1 y1)),QT 16 ((0:Int) - q)] S ?_ ?_
  ·refine sc (fun _ _ _ _ _=>sl rfl (rcc Tryz.func23) (zg4 (n:=0) (by decide))) ?_
   refine sc (fun _ _ S _ _=>sv rfl (zac rfl (S.at 4 rfl) (S.bx 0 rfl) Tryz.underlying27 rfl (vs:=(aL b1 x1 y1)) zag rfl)) ?_
   refine sc (fun _ _ S _ hd=>sl rfl (rc2 Tryz.func35 rfl (hd.v 1 rfl rfl)) (zlg ((hd.r 0 rfl rfl)).any (show Q1 13 (q) ((aG b1 x1 y1)) _ from⟨b1,x1,y1,rfl,hq1,hk1,hk2,(S.num 0 rfl),(S.num 1 rfl)⟩) (by decide) (by decide))) ?_
   exact sn
  ·intro a1 V4 S hB hf
   obtain⟨b2,x2,y2,hv1,hq2,hk3,hk4,ok3,ok4⟩:=hf.r 2 rfl rfl
   have S:=S.add hv1
   have S:=S.know ok3
   have S:=S.know ok4
   clear hf S0
   show wpList _ _ _ [_] _ _
   refine zap S (i:=1) (vs:=(aL b2 x2 y2)) rfl (fun ht=>zal rfl (S.at 4 rfl) (S.at 0 rfl) zag rfl (zta rfl) ht) (zta rfl) rfl rfl rfl (lb':=[⟨g1,27,(aL b1 x1 y1)⟩,⟨g2,27,(aL b2 x2 y2)⟩]) rfl (fun V5 S=>?_)
   refine hK4 _ _ ?_
   refine wp_ret ?_
   exact zaw rfl S (S.at 4 rfl) (i:=1) rfl Tryz.underlying27 rfl zag ⟨_,rfl,((show QT 16 ((0:Int) - q) ((aG b2 x2 y2)) _ from⟨b2,x2,y2,rfl,hq2,hk3,hk4,(S.num 1 rfl),(S.num 0 rfl)⟩)).to ((show _= -q by grind).trans (zjR hc5)) (by omega),S.below⟩
 ·refine wp_cond_false ((S.at 0 rfl).trans (congrArg Value.bool hc5)) ?_
  refine wp_skip ?_
  refine hK2 _ _ ?_
  refine wp_seq_k fun K5 hK5=>?_
  refine zab ?_
  refine tv S (zac rfl (S.at 4 rfl) (S.bx 0 rfl) Tryz.underlying27 rfl (vs:=(aL b1 x1 y1)) zag rfl) fun a S=>?_
  refine tc S (F:=QT 13 (q)) (rc1 Tryz.func25 (S.at 0 rfl)) (zdg (show Q1 13 (q) ((aG b1 x1 y1)) _ from⟨b1,x1,y1,rfl,hq1,hk1,hk2,(S.num 0 rfl),(S.num 1 rfl)⟩) (by decide)) fun v a V6 hF hb S=>?_
  obtain⟨b3,x3,y3,rfl,hq3,hk5,hk6,ok5,ok6⟩:=hF
  have S:=S.know ok5
  have S:=S.know ok6
  refine zap S (i:=1) (vs:=(aL b3 x3 y3)) rfl (fun ht=>zal rfl (S.at 5 rfl) (S.at 0 rfl) zag rfl (zta rfl) ht) (zta rfl) rfl rfl rfl (lb':=[⟨g1,27,(aL b1 x1 y1)⟩,⟨g2,27,(aL b3 x3 y3)⟩]) rfl (fun V7 S=>?_)
  refine hK5 _ _ ?_
  refine wp_ret ?_
  exact zaw rfl S (S.at 5 rfl) (i:=1) rfl Tryz.underlying27 rfl zag ⟨_,rfl,((show QT 13 (q) ((aG b3 x3 y3)) _ from⟨b3,x3,y3,rfl,hq3,hk5,hk6,(S.num 1 rfl),(S.num 0 rfl)⟩)).to (zjS hc5) (by omega),S.below⟩
theorem zsP {q1 q1' q2 q2':Rat}{v1 v2:Value}{V:World}(h1:P1 6 (q1) (q1') v1 V)(h2:P1 6 (q2) (q2') v2 V):
  Calls Tryz.prog 67 #[v1,v2] V (zai V (QT 33 (zbH (q1 - q2)+zbH (q1' - q2')))):=by
 obtain⟨b1,x1,y1,b2,x2,y2,rfl,hq1,hq2,⟨hk1,hk2⟩,⟨hk3,hk4⟩,⟨ok1,ok2⟩,ok3,ok4⟩:=h1
 obtain⟨b3,x3,y3,b4,x4,y4,rfl,hq3,hq4,⟨hk5,hk6⟩,⟨hk7,hk8⟩,⟨ok5,ok6⟩,ok7,ok8⟩:=h2
 refine zao (e:=[x3,y3,x4,y4,x1,y1,x2,y2]) Tryz.func67 rfl Tryz.ntmps67 (zta rfl) [(0,(aP b1 x1 y1 b2 x2 y2)),(1,(aP b3 x3 y3 b4 x4 y4))] rfl (zaa ok5 (zaa ok6 (zaa ok7 (zaa ok8 (zaa ok1 (zaa ok2 (zaa ok3 (zaa ok4 zaz)))))))) (fun a S=>?_)
 refine wp_seq_k fun K1 hK1=>?_
 refine zab ?_
 refine ti S (cs:=(lP b1 x1 y1 b2 x2 y2)) (zar rfl (S.at 0 rfl) rfl) (fun g1=>[⟨g1,53,(lP b1 x1 y1 b2 x2 y2)⟩]) fun g1 a V1 hgg1 S=>?_
 refine ti S (cs:=(lP b3 x3 y3 b4 x4 y4)) (zar rfl (S.at 2 rfl) rfl) (fun g2=>[⟨g1,53,(lP b1 x1 y1 b2 x2 y2)⟩,⟨g2,53,(lP b3 x3 y3 b4 x4 y4)⟩]) fun g2 a V2 hgg2 S=>?_
 refine ti S (cs:=[.bool false,.slice none 0 0,.slice none 0 0]) (zas rfl (Tryz.zeroValue27 _) rfl) (fun g3=>[⟨g1,53,(lP b1 x1 y1 b2 x2 y2)⟩,⟨g2,53,(lP b3 x3 y3 b4 x4 y4)⟩,⟨g3,27,[.bool false,.slice none 0 0,.slice none 0 0]⟩]) fun g3 a V3 hgg3 S=>?_
 refine hK1 _ _ ?_
 refine wp_seq_k fun K2 hK2=>?_
 refine zab ?_
 refine tv S (zac rfl (S.at 2 rfl) (S.bx 0 rfl) Tryz.underlying53 rfl (vs:=(lP b1 x1 y1 b2 x2 y2)) zaq rfl) fun a S=>?_
 refine tv S (zac rfl (S.at 2 rfl) (S.bx 1 rfl) Tryz.underlying53 rfl (vs:=(lP b3 x3 y3 b4 x4 y4)) zaq rfl) fun a S=>?_
 refine tc S (F:=PT 13 (q1 - q2) ((q1') - (q2'))) (rc2 Tryz.func52 (S.at 1 rfl) (S.at 0 rfl)) (zlA (show P1 6 (q1) (q1') ((aP b1 x1 y1 b2 x2 y2)) _ from⟨b1,x1,y1,b2,x2,y2,rfl,hq1,hq2,⟨hk1,hk2⟩,⟨hk3,hk4⟩,⟨(S.num 4 rfl),(S.num 5 rfl)⟩,(S.num 6 rfl),(S.num 7 rfl)⟩) (show P1 6 (q2) (q2') ((aP b3 x3 y3 b4 x4 y4)) _ from⟨b3,x3,y3,b4,x4,y4,rfl,hq3,hq4,⟨hk5,hk6⟩,⟨hk7,hk8⟩,⟨(S.num 0 rfl),(S.num 1 rfl)⟩,(S.num 2 rfl),(S.num 3 rfl)⟩)) fun v a V4 hF hb S=>?_
 obtain⟨b5,x5,y5,b6,x6,y6,rfl,hq5,hq6,⟨hk9,hk10⟩,⟨hk11,hk12⟩,⟨ok9,ok10⟩,ok11,ok12⟩:=hF
 have S:=S.know ok9
 have S:=S.know ok10
 have S:=S.know ok11
 have S:=S.know ok12
 refine ti S (cs:=[.bool false,.slice none 0 0,.slice none 0 0,.bool false,.slice none 0 0,.slice none 0 0]) (zas rfl (Tryz.zeroValue53 _) rfl) (fun g4=>[⟨g1,53,(lP b1 x1 y1 b2 x2 y2)⟩,⟨g2,53,(lP b3 x3 y3 b4 x4 y4)⟩,⟨g3,27,[.bool false,.slice none 0 0,.slice none 0 0]⟩,⟨g4,53,[.bool false,.slice none 0 0,.slice none 0 0,.bool false,.slice none 0 0,.slice none 0 0]⟩]) fun g4 a V5 hgg4 S=>?_
 refine zap S (i:=3) (vs:=(lP b5 x5 y5 b6 x6 y6)) rfl (fun ht=>zal rfl (S.at 0 rfl) (S.at 1 rfl) zaq rfl (zta rfl) ht) (zta rfl) rfl rfl rfl (lb':=[⟨g1,53,(lP b1 x1 y1 b2 x2 y2)⟩,⟨g2,53,(lP b3 x3 y3 b4 x4 y4)⟩,⟨g3,27,[.bool false,.slice none 0 0,.slice none 0 0]⟩,⟨g4,53,(lP b5 x5 y5 b6 x6 y6)⟩]) rfl (fun V6 S=>?_)
 refine hK2 _ _ ?_
 refine wp_seq_k fun K3 hK3=>?_
 obtain⟨W1,hW1⟩:∃W,W=V6:=⟨_,rfl⟩
 rw[←hW1]at S ⊢
 have S0:=S
 refine fr 8 [9,10,11,12,13,14,15,16] [IsV (pT g4 0),IsV ((aG b5 x5 y5)),QT 16 (zbH (q1 - q2)),IsV (pT g4 3),IsV ((aG b6 x6 y6)),QT 16 (zbH ((q1') - (q2'))),QL 16 6 ([zbH (q1 - q2),zbH ((q1') - (q2'))]),QT 33 ((zbH (q1 - q2))+(zbH ((q1') - (q2'))))] S ?_ ?_
 ·refine sc (fun _ _ S _ _=>sv rfl (zae rfl (S.at 0 rfl) (zaQ _))) ?_
  refine sc (fun _ _ S _ hd=>sv rfl (zac rfl (hd.v 0 rfl rfl) (S.bx 3 rfl) Tryz.underlying27 rfl (vs:=(aL b5 x5 y5)) zag rfl)) ?_
  refine sc (fun _ _ S _ hd=>sl rfl (rc1 Tryz.func116 (hd.v 1 rfl rfl)) (zqM (show QT 13 (q1 - q2) ((aG b5 x5 y5)) _ from⟨b5,x5,y5,rfl,hq5,hk9,hk10,(S.num 3 rfl),(S.num 2 rfl)⟩).any)) ?_
  refine sc (fun _ _ S _ _=>sv rfl (zae rfl (S.at 0 rfl) (zaT _))) ?_
  refine sc (fun _ _ S _ hd=>sv rfl (zac rfl (hd.v 3 rfl rfl) (S.bx 3 rfl) Tryz.underlying27 rfl (vs:=(aL b6 x6 y6)) zag rfl)) ?_
  refine sc (fun _ _ S _ hd=>sl rfl (rc1 Tryz.func116 (hd.v 4 rfl rfl)) (zqM (show QT 13 ((q1') - (q2')) ((aG b6 x6 y6)) _ from⟨b6,x6,y6,rfl,hq6,hk11,hk12,(S.num 1 rfl),(S.num 0 rfl)⟩).any)) ?_
  refine sc (fun _ _ _ _ hd=>sy rfl (zbc rfl rfl rfl ((hd.r 2 rfl rfl)).any ((hd.r 5 rfl rfl)).any)) ?_
  refine sc (fun _ _ _ _ hd=>sl rfl (rc1 Tryz.func29 rfl) (zfu ((hd.r 6 rfl rfl)).row (by decide))) ?_
  exact sn
 ·intro a1 V7 S hB hf
  obtain⟨b7,x7,y7,hv1,hq7,hk13,hk14,ok13,ok14⟩:=hf.r 7 rfl rfl
  have S:=S.add hv1
  have S:=S.know ok13
  have S:=S.know ok14
  clear hf S0
  show wpList _ _ _ [_] _ _
  refine zap S (i:=2) (vs:=(aL b7 x7 y7)) rfl (fun ht=>zal rfl (S.at 5 rfl) (S.at 0 rfl) zag rfl (zta rfl) ht) (zta rfl) rfl rfl rfl (lb':=[⟨g1,53,(lP b1 x1 y1 b2 x2 y2)⟩,⟨g2,53,(lP b3 x3 y3 b4 x4 y4)⟩,⟨g3,27,(aL b7 x7 y7)⟩,⟨g4,53,(lP b5 x5 y5 b6 x6 y6)⟩]) rfl (fun V8 S=>?_)
  refine hK3 _ _ ?_
  refine wp_ret ?_
  exact zaw rfl S (S.at 5 rfl) (i:=2) rfl Tryz.underlying27 rfl zag ⟨_,rfl,((show QT 33 ((zbH (q1 - q2))+(zbH ((q1') - (q2')))) ((aG b7 x7 y7)) _ from⟨b7,x7,y7,rfl,hq7,hk13,hk14,(S.num 1 rfl),(S.num 0 rfl)⟩)).to rfl (by omega),S.below⟩
theorem zqN {q1 q1' q2 q2':Rat}{v1 v2:Value}{V:World}(h1:P1 6 (q1) (q1') v1 V)(h2:P1 6 (q2) (q2') v2 V):
  Calls Tryz.prog 69 #[v1,v2] V (zai V (fun v _=>v= .int .i64 (zaS q1 q1' q2 q2'))):=by
 obtain⟨b1,x1,y1,b2,x2,y2,rfl,hq1,hq2,⟨hk1,hk2⟩,⟨hk3,hk4⟩,⟨ok1,ok2⟩,ok3,ok4⟩:=h1
 obtain⟨b3,x3,y3,b4,x4,y4,rfl,hq3,hq4,⟨hk5,hk6⟩,⟨hk7,hk8⟩,⟨ok5,ok6⟩,ok7,ok8⟩:=h2
 refine zao (e:=[x3,y3,x4,y4,x1,y1,x2,y2]) Tryz.func69 rfl Tryz.ntmps69 (zta rfl) [(0,(aP b1 x1 y1 b2 x2 y2)),(1,(aP b3 x3 y3 b4 x4 y4))] rfl (zaa ok5 (zaa ok6 (zaa ok7 (zaa ok8 (zaa ok1 (zaa ok2 (zaa ok3 (zaa ok4 zaz)))))))) (fun a S=>?_)
 refine wp_seq_k fun K1 hK1=>?_
 refine zab ?_
 refine ti S (cs:=(lP b1 x1 y1 b2 x2 y2)) (zar rfl (S.at 0 rfl) rfl) (fun g1=>[⟨g1,53,(lP b1 x1 y1 b2 x2 y2)⟩]) fun g1 a V1 hgg1 S=>?_
 refine ti S (cs:=(lP b3 x3 y3 b4 x4 y4)) (zar rfl (S.at 2 rfl) rfl) (fun g2=>[⟨g1,53,(lP b1 x1 y1 b2 x2 y2)⟩,⟨g2,53,(lP b3 x3 y3 b4 x4 y4)⟩]) fun g2 a V2 hgg2 S=>?_
 refine tv S (zav rfl) fun a S=>?_
 refine hK1 _ _ ?_
 refine wp_seq_k fun K2 hK2=>?_
 refine zab ?_
 refine tv S (zae rfl (S.at 2 rfl) (zaQ _)) fun a S=>?_
 refine tv S (zac rfl (S.at 0 rfl) (S.bx 0 rfl) Tryz.underlying27 rfl (vs:=(aL b1 x1 y1)) zag rfl) fun a S=>?_
 refine tv S (zae rfl (S.at 3 rfl) (zaQ _)) fun a S=>?_
 refine tv S (zac rfl (S.at 0 rfl) (S.bx 1 rfl) Tryz.underlying27 rfl (vs:=(aL b3 x3 y3)) zag rfl) fun a S=>?_
 refine tc S (F:=(fun v _=>v= .int .i64 (zaI q1 q2))) (rc2 Tryz.func19 (S.at 2 rfl) (S.at 0 rfl)) (zoa (show Q1 6 (q1) ((aG b1 x1 y1)) _ from⟨b1,x1,y1,rfl,hq1,hk1,hk2,(S.num 4 rfl),(S.num 5 rfl)⟩) (show Q1 6 (q2) ((aG b3 x3 y3)) _ from⟨b3,x3,y3,rfl,hq3,hk5,hk6,(S.num 0 rfl),(S.num 1 rfl)⟩) (by decide) (by decide)) fun v a V3 hF hb S=>?_
 subst hF
 refine tv S (zan rfl (S.at 0 rfl)) fun a S=>?_
 refine hK2 _ _ ?_
 refine wp_seq_k fun K3 hK3=>?_
 refine wp_seq_k fun K4 hK4=>?_
 refine zab ?_
 refine tv S (zad rfl (S.at 0 rfl)) fun a S=>?_
 refine tv S (zfr _ (by decide) rfl (S.at 0 rfl) rfl) fun a S=>?_
 refine hK4 _ _ ?_
 rcases ztk (!decide (zaI q1 q2=0))with hc12|hc12
 ·refine wp_cond_true ((S.at 0 rfl).trans (congrArg Value.bool hc12)) ?_
  refine wp_seq_k fun K5 hK5=>?_
  refine zab ?_
  refine tv S (zad rfl (S.at 2 rfl)) fun a S=>?_
  refine za5 S (v:= .int .i64 (zaI q1 q2)) (zan rfl (S.at 0 rfl)) rfl rfl (by decide) (ls':=[(13,.int .i64 (zaI q1 q2)),(12,.bool (!decide (zaI q1 q2=0))),(11,.int .i64 (zaI q1 q2)),(5,.int .i64 (zaI q1 q2)),(10,.int .i64 (zaI q1 q2)),(9,(aG b3 x3 y3)),(8,pT g2 0),(7,(aG b1 x1 y1)),(6,pT g1 0),(3,pT g2 0),(2,pT g1 0),(0,(aP b1 x1 y1 b2 x2 y2)),(1,(aP b3 x3 y3 b4 x4 y4))]) rfl (fun a S=>?_)
  refine hK5 _ _ ?_
  refine wp_ret ?_
  exact zaH rfl S (S.at 0 rfl) ⟨_,rfl,congrArg (Value.int .i64) (zpk hc12),S.below⟩
 ·refine wp_cond_false ((S.at 0 rfl).trans (congrArg Value.bool hc12)) ?_
  refine wp_skip ?_
  refine hK3 _ _ ?_
  refine wp_seq_k fun K6 hK6=>?_
  refine zab ?_
  refine tv S (zae rfl (S.at 10 rfl) (zaT _)) fun a S=>?_
  refine tv S (zac rfl (S.at 0 rfl) (S.bx 0 rfl) Tryz.underlying27 rfl (vs:=(aL b2 x2 y2)) zag rfl) fun a S=>?_
  refine tv S (zae rfl (S.at 11 rfl) (zaT _)) fun a S=>?_
  refine tv S (zac rfl (S.at 0 rfl) (S.bx 1 rfl) Tryz.underlying27 rfl (vs:=(aL b4 x4 y4)) zag rfl) fun a S=>?_
  refine tc S (F:=(fun v _=>v= .int .i64 (zaI (q1') (q2')))) (rc2 Tryz.func19 (S.at 2 rfl) (S.at 0 rfl)) (zoa (show Q1 6 (q1') ((aG b2 x2 y2)) _ from⟨b2,x2,y2,rfl,hq2,hk3,hk4,(S.num 6 rfl),(S.num 7 rfl)⟩) (show Q1 6 (q2') ((aG b4 x4 y4)) _ from⟨b4,x4,y4,rfl,hq4,hk7,hk8,(S.num 2 rfl),(S.num 3 rfl)⟩) (by decide) (by decide)) fun v a V4 hF hb S=>?_
  subst hF
  refine za5 S (v:= .int .i64 (zaI (q1') (q2'))) (zan rfl (S.at 0 rfl)) rfl rfl (by decide) (ls':=[(18,.int .i64 (zaI (q1') (q2'))),(17,(aG b4 x4 y4)),(16,pT g2 3),(15,(aG b2 x2 y2)),(14,pT g1 3),(12,.bool (!decide (zaI q1 q2=0))),(11,.int .i64 (zaI q1 q2)),(5,.int .i64 (zaI q1 q2)),(10,.int .i64 (zaI q1 q2)),(9,(aG b3 x3 y3)),(8,pT g2 0),(7,(aG b1 x1 y1)),(6,pT g1 0),(3,pT g2 0),(2,pT g1 0),(0,(aP b1 x1 y1 b2 x2 y2)),(1,(aP b3 x3 y3 b4 x4 y4))]) rfl (fun a S=>?_)
  refine hK6 _ _ ?_
  refine wp_ret ?_
  exact zaH rfl S (S.at 0 rfl) ⟨_,rfl,congrArg (Value.int .i64) (zpl hc12),S.below⟩
theorem zrP {q1 q1' q2 q2':Rat}{v1 v2:Value}{V:World}(h1:P1 6 (q1) (q1') v1 V)(h2:P1 6 (q2) (q2') v2 V):
  Calls Tryz.prog 71 #[v1,v2] V (zai V (fun v _=>v= .bool (decide (zaS q1 q1' q2 q2'=0)))):=by
 obtain⟨b1,x1,y1,b2,x2,y2,rfl,hq1,hq2,⟨hk1,hk2⟩,⟨hk3,hk4⟩,⟨ok1,ok2⟩,ok3,ok4⟩:=h1
 obtain⟨b3,x3,y3,b4,x4,y4,rfl,hq3,hq4,⟨hk5,hk6⟩,⟨hk7,hk8⟩,⟨ok5,ok6⟩,ok7,ok8⟩:=h2
 refine zao (e:=[x3,y3,x4,y4,x1,y1,x2,y2]) Tryz.func71 rfl Tryz.ntmps71 (zta rfl) [(0,(aP b1 x1 y1 b2 x2 y2)),(1,(aP b3 x3 y3 b4 x4 y4))] rfl (zaa ok5 (zaa ok6 (zaa ok7 (zaa ok8 (zaa ok1 (zaa ok2 (zaa ok3 (zaa ok4 zaz)))))))) (fun a S=>?_)
 refine wp_seq_k fun K1 hK1=>?_
 refine zab ?_
 refine ti S (cs:=(lP b1 x1 y1 b2 x2 y2)) (zar rfl (S.at 0 rfl) rfl) (fun g1=>[⟨g1,53,(lP b1 x1 y1 b2 x2 y2)⟩]) fun g1 a V1 hgg1 S=>?_
 refine ti S (cs:=(lP b3 x3 y3 b4 x4 y4)) (zar rfl (S.at 2 rfl) rfl) (fun g2=>[⟨g1,53,(lP b1 x1 y1 b2 x2 y2)⟩,⟨g2,53,(lP b3 x3 y3 b4 x4 y4)⟩]) fun g2 a V2 hgg2 S=>?_
 refine tv S (zav rfl) fun a S=>?_
 refine hK1 _ _ ?_
 refine wp_seq_k fun K2 hK2=>?_
 refine zab ?_
 refine tv S (zac rfl (S.at 2 rfl) (S.bx 0 rfl) Tryz.underlying53 rfl (vs:=(lP b1 x1 y1 b2 x2 y2)) zaq rfl) fun a S=>?_
 refine tv S (zac rfl (S.at 2 rfl) (S.bx 1 rfl) Tryz.underlying53 rfl (vs:=(lP b3 x3 y3 b4 x4 y4)) zaq rfl) fun a S=>?_
 refine tc S (F:=(fun v _=>v= .int .i64 (zaS q1 (q1') q2 (q2')))) (rc2 Tryz.func69 (S.at 1 rfl) (S.at 0 rfl)) (zqN (show P1 6 (q1) (q1') ((aP b1 x1 y1 b2 x2 y2)) _ from⟨b1,x1,y1,b2,x2,y2,rfl,hq1,hq2,⟨hk1,hk2⟩,⟨hk3,hk4⟩,⟨(S.num 4 rfl),(S.num 5 rfl)⟩,(S.num 6 rfl),(S.num 7 rfl)⟩) (show P1 6 (q2) (q2') ((aP b3 x3 y3 b4 x4 y4)) _ from⟨b3,x3,y3,b4,x4,y4,rfl,hq3,hq4,⟨hk5,hk6⟩,⟨hk7,hk8⟩,⟨(S.num 0 rfl),(S.num 1 rfl)⟩,(S.num 2 rfl),(S.num 3 rfl)⟩)) fun v a V3 hF hb S=>?_
 subst hF
 refine tv S (zbZ _ (by decide) rfl (S.at 0 rfl) rfl) fun a S=>?_
 refine za5 S (v:= .bool (decide (zaS q1 (q1') q2 (q2')=0))) (zan rfl (S.at 0 rfl)) rfl rfl (by decide) (ls':=[(8,.bool (decide (zaS q1 (q1') q2 (q2')=0))),(7,.int .i64 (zaS q1 (q1') q2 (q2'))),(6,(aP b3 x3 y3 b4 x4 y4)),(5,(aP b1 x1 y1 b2 x2 y2)),(3,pT g2 0),(2,pT g1 0),(0,(aP b1 x1 y1 b2 x2 y2)),(1,(aP b3 x3 y3 b4 x4 y4))]) rfl (fun a S=>?_)
 refine hK2 _ _ ?_
 refine wp_ret ?_
 exact zaH rfl S (S.at 0 rfl) ⟨_,rfl,rfl,S.below⟩
theorem zcU {V:World}(T:TT V):
  Calls Tryz.prog 47 #[] V (zai V (fun v _=>v= .bool true)):=by
 refine zao (e:=[]) Tryz.func47 rfl Tryz.ntmps47 (zta rfl) [] rfl zaz (fun a S=>?_)
 refine wp_seq_k fun K1 hK1=>?_
 refine zab ?_
 refine tv S (zav rfl) fun a S=>?_
 refine hK1 _ _ ?_
 refine wp_seq_k fun K2 hK2=>?_
 refine zab ?_
 refine tc S (F:=QT 2 ((0:Int))) (rcc Tryz.func23) (zg4 (n:=0) (by decide)) fun v a V1 hF hb S=>?_
 obtain⟨b1,x1,y1,rfl,hq1,hk1,hk2,ok1,ok2⟩:=hF
 have S:=S.know ok1
 have S:=S.know ok2
 refine tc S (F:=QT 2 ((1:Int))) (rcc Tryz.func23) (zg4 (n:=1) (by decide)) fun v a V2 hF hb S=>?_
 obtain⟨b2,x2,y2,rfl,hq2,hk3,hk4,ok3,ok4⟩:=hF
 have S:=S.know ok3
 have S:=S.know ok4
 refine tc S (F:=QT 6 (((0:Int)+(1:Int))/2)) (rc2 Tryz.func37 (S.at 1 rfl) (S.at 0 rfl)) (zsn (show QT 2 ((0:Int)) ((aG b1 x1 y1)) _ from⟨b1,x1,y1,rfl,hq1,hk1,hk2,(S.num 3 rfl),(S.num 2 rfl)⟩).any (show QT 2 ((1:Int)) ((aG b2 x2 y2)) _ from⟨b2,x2,y2,rfl,hq2,hk3,hk4,(S.num 1 rfl),(S.num 0 rfl)⟩).any (by decide) (by decide)) fun v a V3 hF hb S=>?_
 obtain⟨b3,x3,y3,rfl,hq3,hk5,hk6,ok5,ok6⟩:=hF
 have S:=S.know ok5
 have S:=S.know ok6
 refine ti S (cs:=[.bool false,.slice none 0 0,.slice none 0 0]) (zas rfl (Tryz.zeroValue27 _) rfl) (fun g1=>[⟨g1,27,[.bool false,.slice none 0 0,.slice none 0 0]⟩]) fun g1 a V4 hgg1 S=>?_
 refine zap S (i:=0) (vs:=(aL b3 x3 y3)) rfl (fun ht=>zal rfl (S.at 0 rfl) (S.at 1 rfl) zag rfl (zta rfl) ht) (zta rfl) rfl rfl rfl (lb':=[⟨g1,27,(aL b3 x3 y3)⟩]) rfl (fun V5 S=>?_)
 refine hK2 _ _ ?_
 refine wp_seq_k fun K3 hK3=>?_
 have S:=S.keep [1,0] (ls':=[(1,pT g1 0),(0,.bool false)]) rfl
 obtain⟨W1,hW1⟩:∃W,W=V5:=⟨_,rfl⟩
 rw[←hW1]at S ⊢
 have S0:=S
 refine fr 31 [5,6,7,8,9,10,11,12,13,14,15,16,17,18,19,20,21,22,23,24,25,26,27,28,29,30,31,32,33,34,35] [PT 2 (((1:Int):Rat)) (((0:Int):Rat)),PT 2 (((0:Int):Rat)) (((1:Int):Rat)),QT 9 (((1:Int):Rat)*((1:Int):Rat) - ((0:Int):Rat)*((0:Int):Rat)),QT 2 ((1:Int)),IsV (.bool true),IsV (.bool true),PT 2 (((1:Int):Rat)) (((2:Int):Rat)),PT 2 (((4:Int):Rat)) (((-2:Int):Rat)),QT 11 (zbH (((4:Int):Rat) - ((1:Int):Rat))+zbH (((-2:Int):Rat) - ((2:Int):Rat))),QT 2 ((7:Int)),IsV (.bool true),IsV (.bool true),IsV (.bool true),PT 2 (((0:Int):Rat)) (((0:Int):Rat)),PT 2 (((4:Int):Rat)) (((2:Int):Rat)),IsV ((aG b3 x3 y3)),PT 14 (((0:Int):Rat)+(((4:Int):Rat) - ((0:Int):Rat))*(((0:Int)+(1:Int))/2)) (((0:Int):Rat)+(((2:Int):Rat) - ((0:Int):Rat))*(((0:Int)+(1:Int))/2)),PT 2 (((2:Int):Rat)) (((1:Int):Rat)),IsV (.bool true),IsV (.bool true),IsV (.bool true),PT 2 (((2:Int):Rat)) (((1:Int):Rat)),PT 2 (((2:Int):Rat)) (((1:Int):Rat)),IsV (.bool true),IsV (.bool true),IsV (.bool true),PT 2 (((1:Int):Rat)) (((2:Int):Rat)),PT 2 (((1:Int):Rat)) (((3:Int):Rat)),IsV (.int .i64 (zaS ((1:Int):Rat) ((2:Int):Rat) ((1:Int):Rat) ((3:Int):Rat))),IsV (.bool true),IsV (.bool true)] S ?_ ?_
 ·refine sc (fun _ _ _ _ _=>sl rfl (zfW Tryz.func59) (vOf (n:=1) (m:=0) (by decide))) ?_
  refine sc (fun _ _ _ _ _=>sl rfl (zfW Tryz.func59) (vOf (n:=0) (m:=1) (by decide))) ?_
  refine sc (fun _ _ S _ hd=>sl rfl (rc2 Tryz.func62 rfl rfl) (zlH (T.keep S.below) ((hd.r 0 rfl rfl)).any ((hd.r 1 rfl rfl)).any (by omega) (by omega))) ?_
  refine sc (fun _ _ _ _ _=>sl rfl (rcc Tryz.func23) (zg4 (n:=1) (by decide))) ?_
  refine sc (fun _ _ _ _ hd=>sl rfl (rc2 Tryz.func21 rfl rfl) (zbN (zob ((hd.r 2 rfl rfl)).any ((hd.r 3 rfl rfl)).any (by decide) (by decide)) (fun _ _ h=>h.trans (congrArg Value.bool (show(decide (zaI (((1:Int):Rat)*((1:Int):Rat) - ((0:Int):Rat)*((0:Int):Rat)) (1:Int)=0))=true from(by decide+kernel)))))) ?_
  refine sc (fun _ _ _ _ hd=>sv rfl (zad rfl (hd.v 4 rfl rfl))) ?_
  refine sc (fun _ _ _ _ hd=>slg rfl (hd.v 5 rfl rfl) (zfW Tryz.func59) (vOf (n:=1) (m:=2) (by decide))) ?_
  refine sc (fun _ _ _ _ hd=>slg rfl (hd.v 5 rfl rfl) (zfW Tryz.func59) (vOf (n:=4) (m:= -2) (by decide))) ?_
  refine sc (fun _ _ S _ hd=>slg rfl (hd.v 5 rfl rfl) (rc2 Tryz.func66 rfl rfl) (zsU (T.keep S.below) ((hd.r 6 rfl rfl)).any ((hd.r 7 rfl rfl)).any (by omega) (by omega))) ?_
  refine sc (fun _ _ _ _ hd=>slg rfl (hd.v 5 rfl rfl) (rcc Tryz.func23) (zg4 (n:=7) (by decide))) ?_
  refine sc (fun _ _ _ _ hd=>slg rfl (hd.v 5 rfl rfl) (rc2 Tryz.func21 rfl rfl) (zbN (zob ((hd.r 8 rfl rfl)).any ((hd.r 9 rfl rfl)).any (by decide) (by decide)) (fun _ _ h=>h.trans (congrArg Value.bool (show(decide (zaI (zbH (((4:Int):Rat) - ((1:Int):Rat))+zbH (((-2:Int):Rat) - ((2:Int):Rat))) (7:Int)=0))=true from(by decide+kernel)))))) ?_
  refine sc (fun _ _ _ _ hd=>sv rfl (zau true rfl (hd.v 5 rfl rfl) (hd.v 10 rfl rfl))) ?_
  refine sc (fun _ _ _ _ hd=>sv rfl (zad rfl (hd.v 11 rfl rfl))) ?_
  refine sc (fun _ _ _ _ hd=>slg rfl (hd.v 12 rfl rfl) (zfW Tryz.func59) (vOf (n:=0) (m:=0) (by decide))) ?_
  refine sc (fun _ _ _ _ hd=>slg rfl (hd.v 12 rfl rfl) (zfW Tryz.func59) (vOf (n:=4) (m:=2) (by decide))) ?_
  refine sc (fun _ _ S _ hd=>svg rfl (hd.v 12 rfl rfl) (zac rfl (S.at 0 rfl) (S.bx 0 rfl) Tryz.underlying27 rfl (vs:=(aL b3 x3 y3)) zag rfl)) ?_
  refine sc (fun _ _ S _ hd=>slg rfl (hd.v 12 rfl rfl) (rc3 Tryz.func57 rfl rfl (hd.v 15 rfl rfl)) (vAt (T.keep S.below) ((hd.r 13 rfl rfl)).any ((hd.r 14 rfl rfl)).any (show QT 6 (((0:Int)+(1:Int))/2) ((aG b3 x3 y3)) _ from⟨b3,x3,y3,rfl,hq3,hk5,hk6,(S.num 1 rfl),(S.num 0 rfl)⟩).any (by omega) (by omega) (by omega))) ?_
  refine sc (fun _ _ _ _ hd=>slg rfl (hd.v 12 rfl rfl) (zfW Tryz.func59) (vOf (n:=2) (m:=1) (by decide))) ?_
  refine sc (fun _ _ _ _ hd=>slg rfl (hd.v 12 rfl rfl) (rc2 Tryz.func48 rfl rfl) (zcT (hd.r 16 rfl rfl) (hd.r 17 rfl rfl) (by decide+kernel) (by decide+kernel))) ?_
  refine sc (fun _ _ _ _ hd=>sv rfl (zau true rfl (hd.v 12 rfl rfl) (hd.v 18 rfl rfl))) ?_
  refine sc (fun _ _ _ _ hd=>sv rfl (zad rfl (hd.v 19 rfl rfl))) ?_
  refine sc (fun _ _ _ _ hd=>slg rfl (hd.v 20 rfl rfl) (zfW Tryz.func59) (vOf (n:=2) (m:=1) (by decide))) ?_
  refine sc (fun _ _ _ _ hd=>slg rfl (hd.v 20 rfl rfl) (zfW Tryz.func60) (zrO (n:=2) (m:=1) (by decide))) ?_
  refine sc (fun _ _ _ _ hd=>slg rfl (hd.v 20 rfl rfl) (rc2 Tryz.func48 rfl rfl) (zcT (hd.r 21 rfl rfl) (hd.r 22 rfl rfl) (by decide+kernel) (by decide+kernel))) ?_
  refine sc (fun _ _ _ _ hd=>sv rfl (zau true rfl (hd.v 20 rfl rfl) (hd.v 23 rfl rfl))) ?_
  refine sc (fun _ _ _ _ hd=>sv rfl (zad rfl (hd.v 24 rfl rfl))) ?_
  refine sc (fun _ _ _ _ hd=>slg rfl (hd.v 25 rfl rfl) (zfW Tryz.func59) (vOf (n:=1) (m:=2) (by decide))) ?_
  refine sc (fun _ _ _ _ hd=>slg rfl (hd.v 25 rfl rfl) (zfW Tryz.func59) (vOf (n:=1) (m:=3) (by decide))) ?_
  refine sc (fun _ _ S _ hd=>slg rfl (hd.v 25 rfl rfl) (rc2 Tryz.func68 rfl rfl) (ziB (T.keep S.below) ((hd.r 26 rfl rfl)).any ((hd.r 27 rfl rfl)).any (by omega) (by omega))) ?_
  refine sc (fun _ _ _ _ hd=>svg rfl (hd.v 25 rfl rfl) (za9 (zbZ _ (by decide) rfl (hd.v 28 rfl rfl) rfl) (show(decide (zaS ((1:Int):Rat) ((2:Int):Rat) ((1:Int):Rat) ((3:Int):Rat)= -1))=true from(by decide+kernel)))) ?_
  refine sc (fun _ _ _ _ hd=>sv rfl (zau true rfl (hd.v 25 rfl rfl) (hd.v 29 rfl rfl))) ?_
  exact sn
 ·intro a1 V6 S hB hf
  have S:=S.add (hf.v 30 rfl rfl)
  clear hf S0
  show wpList _ _ _ [_] _ _
  refine za5 S (v:= .bool true) (zan rfl (S.at 0 rfl)) rfl rfl (by decide) (ls':=[(35,.bool true),(1,pT g1 0)]) rfl (fun a S=>?_)
  refine hK3 _ _ ?_
  refine wp_ret ?_
  exact zaH rfl S (S.at 0 rfl) ⟨_,rfl,rfl,S.below⟩
end Go.Proofs.YtafokgknenienaaGreatDoor
