/- VecCross: cross turned about is negated, of a vector with itself nought; it goes with sums and factors; a quarter turn of both leaves cross and dot. -/
import Derived.Test.YtafokgknenienaaGreatDoorGVVecL
set_option maxHeartbeats 4000000
set_option maxRecDepth 100000
namespace Go.Proofs.YtafokgknenienaaGreatDoor
open Go Go.RowKit
theorem zm4 (b0_:Bool) (x0_ y0_:Num) (d0_:Bool) (z0_ w0_:Num) (b1_:Bool) (x1_ y1_:Num) (d1_:Bool) (z1_ w1_:Num) (b2_:Bool) (x2_ y2_:Num) (d2_:Bool) (z2_ w2_:Num) (b3_:Bool) (x3_ y3_:Num) {V:World} (T:TT V) (ox0:x0_.ok V V.heap.size) (oy0:y0_.ok V V.heap.size) (oz0:z0_.ok V V.heap.size) (ow0:w0_.ok V V.heap.size) (ox1:x1_.ok V V.heap.size) (oy1:y1_.ok V V.heap.size) (oz1:z1_.ok V V.heap.size) (ow1:w1_.ok V V.heap.size) (ox2:x2_.ok V V.heap.size) (oy2:y2_.ok V V.heap.size) (oz2:z2_.ok V V.heap.size) (ow2:w2_.ok V V.heap.size) (ox3:x3_.ok V V.heap.size) (oy3:y3_.ok V V.heap.size) (hL:zcS [(b0_,x0_,y0_,d0_,z0_,w0_),(b1_,x1_,y1_,d1_,z1_,w1_),(b2_,x2_,y2_,d2_,z2_,w2_)]=false) (hT3:decide ((3:Int)<((max x3_.n y3_.n:Nat):Int))=false):
  Calls Tryz.prog 6 #[(aP b0_ x0_ y0_ d0_ z0_ w0_),(aP b1_ x1_ y1_ d1_ z1_ w1_),(aP b2_ x2_ y2_ d2_ z2_ w2_),(aG b3_ x3_ y3_)] V (zal V (fun v _=>v= .bool true)):=by
 obtain ⟨hL0,hL1,hL2⟩:=zd7 hL
 obtain ⟨hkx0,hky0,hkz0,hkw0⟩:=zbX hL0
 obtain ⟨hkx1,hky1,hkz1,hkw1⟩:=zbX hL1
 obtain ⟨hkx2,hky2,hkz2,hkw2⟩:=zbX hL2
 have hkx3:x3_.n≤3:=by have:=of_decide_eq_false hT3;omega
 have hky3:y3_.n≤3:=by have:=of_decide_eq_false hT3;omega
 obtain ⟨q0,hqa0⟩: ∃q,qOf b0_ x0_.N y0_.N=q:=⟨_,rfl⟩
 obtain ⟨r0,hra0⟩: ∃q,qOf d0_ z0_.N w0_.N=q:=⟨_,rfl⟩
 obtain ⟨q1,hqa1⟩: ∃q,qOf b1_ x1_.N y1_.N=q:=⟨_,rfl⟩
 obtain ⟨r1,hra1⟩: ∃q,qOf d1_ z1_.N w1_.N=q:=⟨_,rfl⟩
 obtain ⟨q2,hqa2⟩: ∃q,qOf b2_ x2_.N y2_.N=q:=⟨_,rfl⟩
 obtain ⟨r2,hra2⟩: ∃q,qOf d2_ z2_.N w2_.N=q:=⟨_,rfl⟩
 obtain ⟨q3,hqa3⟩: ∃q,qOf b3_ x3_.N y3_.N=q:=⟨_,rfl⟩
 refine zar (e:=[x3_,y3_,x2_,y2_,z2_,w2_,x1_,y1_,z1_,w1_,x0_,y0_,z0_,w0_]) Tryz.func6 rfl Tryz.ntmps6 (Nat.le_of_ble_eq_true rfl) [(0,(aP b0_ x0_ y0_ d0_ z0_ w0_)),(1,(aP b1_ x1_ y1_ d1_ z1_ w1_)),(2,(aP b2_ x2_ y2_ d2_ z2_ w2_)),(3,(aG b3_ x3_ y3_))] rfl (zaa ox3 (zaa oy3 (zaa ox2 (zaa oy2 (zaa oz2 (zaa ow2 (zaa ox1 (zaa oy1 (zaa oz1 (zaa ow1 (zaa ox0 (zaa oy0 (zaa oz0 (zaa ow0 zaE)))))))))))))) (fun a S=>?_)
 refine wp_seq_k fun K1 hK1=>?_
 refine zac ?_
 refine ti S (cs:=(lP b0_ x0_ y0_ d0_ z0_ w0_)) (zas rfl (S.at 0 rfl) rfl) (fun g1=>[⟨g1,53,(lP b0_ x0_ y0_ d0_ z0_ w0_)⟩]) fun g1 a V1 hgg1 S=>?_
 refine ti S (cs:=(lP b1_ x1_ y1_ d1_ z1_ w1_)) (zas rfl (S.at 2 rfl) rfl) (fun g2=>[⟨g1,53,(lP b0_ x0_ y0_ d0_ z0_ w0_)⟩,⟨g2,53,(lP b1_ x1_ y1_ d1_ z1_ w1_)⟩]) fun g2 a V2 hgg2 S=>?_
 refine ti S (cs:=(lP b2_ x2_ y2_ d2_ z2_ w2_)) (zas rfl (S.at 4 rfl) rfl) (fun g3=>[⟨g1,53,(lP b0_ x0_ y0_ d0_ z0_ w0_)⟩,⟨g2,53,(lP b1_ x1_ y1_ d1_ z1_ w1_)⟩,⟨g3,53,(lP b2_ x2_ y2_ d2_ z2_ w2_)⟩]) fun g3 a V3 hgg3 S=>?_
 refine ti S (cs:=(aL b3_ x3_ y3_)) (zas rfl (S.at 6 rfl) rfl) (fun g4=>[⟨g1,53,(lP b0_ x0_ y0_ d0_ z0_ w0_)⟩,⟨g2,53,(lP b1_ x1_ y1_ d1_ z1_ w1_)⟩,⟨g3,53,(lP b2_ x2_ y2_ d2_ z2_ w2_)⟩,⟨g4,27,(aL b3_ x3_ y3_)⟩]) fun g4 a V4 hgg4 S=>?_
 refine tv S (zaB rfl) fun a S=>?_
 refine hK1 _ _ ?_
 refine wp_seq_k fun K2 hK2=>?_
 refine wp_seq_k fun K3 hK3=>?_
 refine zac ?_
 refine tv S (zab rfl (S.at 4 rfl) (S.bx 0 rfl) Tryz.underlying53 rfl (vs:=(lP b0_ x0_ y0_ d0_ z0_ w0_)) zak rfl) fun a S=>?_
 refine tv S (zab rfl (S.at 4 rfl) (S.bx 1 rfl) Tryz.underlying53 rfl (vs:=(lP b1_ x1_ y1_ d1_ z1_ w1_)) zak rfl) fun a S=>?_
 refine tv S (zab rfl (S.at 4 rfl) (S.bx 2 rfl) Tryz.underlying53 rfl (vs:=(lP b2_ x2_ y2_ d2_ z2_ w2_)) zak rfl) fun a S=>?_
 refine ty S (F:=GP ([(b0_,x0_,y0_,d0_,z0_,w0_),(b1_,x1_,y1_,d1_,z1_,w1_),(b2_,x2_,y2_,d2_,z2_,w2_)])) (zbZ rfl (S.at 2 rfl) (S.at 1 rfl) (S.at 0 rfl) (S.num 10 rfl) (S.num 11 rfl) (S.num 12 rfl) (S.num 13 rfl) (S.num 6 rfl) (S.num 7 rfl) (S.num 8 rfl) (S.num 9 rfl) (S.num 2 rfl) (S.num 3 rfl) (S.num 4 rfl) (S.num 5 rfl)) fun v a V5 hF hb S=>?_
 obtain ⟨ov1,hov1⟩: ∃z,z=v:=⟨_,rfl⟩
 rw [←hov1] at hF S
 have rov1:=hF
 refine tc S (F:=(fun v _=>v= .bool false)) (rc1 Tryz.func75 (S.at 0 rfl)) (zdh rov1 hL) fun v a V6 hF hb S=>?_
 replace rov1:=rov1.keep hb
 subst hF
 refine tv S (zad rfl (S.at 0 rfl)) fun a S=>?_
 refine tvg S (S.at 0 rfl) (zae rfl (S.at 7 rfl) (za8 _)) fun a S=>?_
 refine tvg S (S.at 1 rfl) (zae rfl (S.at 0 rfl) (zbI _)) fun a S=>?_
 refine tvg S (S.at 2 rfl) (zav rfl (S.at 0 rfl) (S.bx 3 rfl) (Tryz.isAgg23 _) rfl) fun a S=>?_
 refine tvg S (S.at 3 rfl) (zbJ (by decide) rfl (S.at 0 rfl)) fun a S=>?_
 refine tvg S (S.at 4 rfl) (zae rfl (S.at 11 rfl) (za2 _)) fun a S=>?_
 refine tvg S (S.at 5 rfl) (zav rfl (S.at 0 rfl) (S.bx 3 rfl) (Tryz.isAgg23 _) rfl) fun a S=>?_
 refine tvg S (S.at 6 rfl) (zbJ (by decide) rfl (S.at 0 rfl)) fun a S=>?_
 refine tvg S (S.at 7 rfl) (zf7 rfl (S.at 3 rfl) (S.at 0 rfl)) fun a S=>?_
 refine tvg S (S.at 8 rfl) (zaQ (zc6 rfl (S.at 0 rfl) rfl) (show (decide (3<((max x3_.n y3_.n:Nat):Int)))=false from hT3)) fun a S=>?_
 refine tv S (zaq false rfl (S.at 9 rfl) (S.at 0 rfl)) fun a S=>?_
 refine hK3 _ _ ?_
 refine wp_cond_false (S.at 0 rfl) ?_
 refine wp_skip ?_
 refine hK2 _ _ ?_
 refine wp_seq_k fun K4 hK4=>?_
 have S:=S.keep [7,6,5,4] (ls':=[(7,pT g4 0),(6,pT g3 0),(5,pT g2 0),(4,pT g1 0)]) rfl
 refine zac ?_
 refine tv S (zab rfl (S.at 3 rfl) (S.bx 0 rfl) Tryz.underlying53 rfl (vs:=(lP b0_ x0_ y0_ d0_ z0_ w0_)) zak rfl) fun a S=>?_
 refine tv S (zab rfl (S.at 3 rfl) (S.bx 1 rfl) Tryz.underlying53 rfl (vs:=(lP b1_ x1_ y1_ d1_ z1_ w1_)) zak rfl) fun a S=>?_
 refine tc S (F:=QT 13 (q0*r1 - r0*q1)) (rc2 Tryz.func62 (S.at 1 rfl) (S.at 0 rfl)) (zcK (T.keep S.below) (show P1 3 (q0) (r0) ((aP b0_ x0_ y0_ d0_ z0_ w0_)) _ from ⟨b0_,x0_,y0_,d0_,z0_,w0_,rfl,hqa0,hra0,⟨hkx0,hky0⟩,⟨hkz0,hkw0⟩,⟨(S.num 10 rfl),(S.num 11 rfl)⟩,(S.num 12 rfl),(S.num 13 rfl)⟩) (show P1 3 (q1) (r1) ((aP b1_ x1_ y1_ d1_ z1_ w1_)) _ from ⟨b1_,x1_,y1_,d1_,z1_,w1_,rfl,hqa1,hra1,⟨hkx1,hky1⟩,⟨hkz1,hkw1⟩,⟨(S.num 6 rfl),(S.num 7 rfl)⟩,(S.num 8 rfl),(S.num 9 rfl)⟩) (by omega) (by omega)) fun v a V7 hF hb S=>?_
 obtain ⟨b1,x1,y1,rfl,hq1,hk1,hk2,ok1,ok2⟩:=hF
 have S:=S.know ok1
 have S:=S.know ok2
 refine ti S (cs:=[.bool false,.slice none 0 0,.slice none 0 0]) (zau rfl (Tryz.zeroValue27 _) rfl) (fun g5=>[⟨g1,53,(lP b0_ x0_ y0_ d0_ z0_ w0_)⟩,⟨g2,53,(lP b1_ x1_ y1_ d1_ z1_ w1_)⟩,⟨g3,53,(lP b2_ x2_ y2_ d2_ z2_ w2_)⟩,⟨g4,27,(aL b3_ x3_ y3_)⟩,⟨g5,27,[.bool false,.slice none 0 0,.slice none 0 0]⟩]) fun g5 a V8 hgg5 S=>?_
 refine zap S (i:=4) (vs:=(aL b1 x1 y1)) rfl (fun ht=>zao rfl (S.at 0 rfl) (S.at 1 rfl) zah rfl (Nat.le_of_ble_eq_true rfl) ht) (Nat.le_of_ble_eq_true rfl) rfl rfl rfl (lb':=[⟨g1,53,(lP b0_ x0_ y0_ d0_ z0_ w0_)⟩,⟨g2,53,(lP b1_ x1_ y1_ d1_ z1_ w1_)⟩,⟨g3,53,(lP b2_ x2_ y2_ d2_ z2_ w2_)⟩,⟨g4,27,(aL b3_ x3_ y3_)⟩,⟨g5,27,(aL b1 x1 y1)⟩]) rfl (fun V9 S=>?_)
 refine hK4 _ _ ?_
 refine wp_seq_k fun K5 hK5=>?_
 refine wp_seq_k fun K6 hK6=>?_
 obtain ⟨W1,hW1⟩: ∃W,W=V9:=⟨_,rfl⟩
 rw [←hW1] at S ⊢
 have S0:=S
 refine fr 29 [32,33,34,35,36,37,38,39,40,41,42,43,44,45,46,47,48,49,50,51,52,53,54,55,56,57,58,59,60] [IsV ((aG b1 x1 y1)),IsV ((aP b1_ x1_ y1_ d1_ z1_ w1_)),IsV ((aP b0_ x0_ y0_ d0_ z0_ w0_)),QT 13 (q1*r0 - r1*q0),QL 13 6 ([q0*r1 - r0*q1,q1*r0 - r1*q0]),QT 27 ((q0*r1 - r0*q1)+(q1*r0 - r1*q0)),QT 2 ((0:Int)),IsV (.bool true),IsV (.bool false),IsV (.bool false),IsV ((aP b0_ x0_ y0_ d0_ z0_ w0_)),IsV ((aP b0_ x0_ y0_ d0_ z0_ w0_)),QT 13 (q0*r0 - r0*q0),IsV (.int .i64 (zay (q0*r0 - r0*q0) 0)),IsV (.bool false),IsV (.bool false),IsV (.bool false),IsV ((aP b0_ x0_ y0_ d0_ z0_ w0_)),IsV ((aG b3_ x3_ y3_)),PT 6 (q0*q3) (r0*q3),IsV ((aP b1_ x1_ y1_ d1_ z1_ w1_)),QT 19 ((q0*q3)*r1 - (r0*q3)*q1),IsV ((aG b1 x1 y1)),IsV ((aG b3_ x3_ y3_)),QL 13 6 ([q0*r1 - r0*q1,q3]),QT 26 ((q0*r1 - r0*q1)*q3),IsV (.bool true),IsV (.bool false),IsV (.bool false)] S ?_ ?_
 ·refine sc (fun _ _ S _ _=>sv rfl (zab rfl (S.at 0 rfl) (S.bx 4 rfl) Tryz.underlying27 rfl (vs:=(aL b1 x1 y1)) zah rfl)) ?_
  refine sc (fun _ _ S _ _=>sv rfl (zab rfl (S.at 6 rfl) (S.bx 1 rfl) Tryz.underlying53 rfl (vs:=(lP b1_ x1_ y1_ d1_ z1_ w1_)) zak rfl)) ?_
  refine sc (fun _ _ S _ _=>sv rfl (zab rfl (S.at 7 rfl) (S.bx 0 rfl) Tryz.underlying53 rfl (vs:=(lP b0_ x0_ y0_ d0_ z0_ w0_)) zak rfl)) ?_
  refine sc (fun _ _ S _ hd=>sl rfl (rc2 Tryz.func62 (hd.v 1 rfl rfl) (hd.v 2 rfl rfl)) (zcK (T.keep S.below) (show P1 3 (q1) (r1) ((aP b1_ x1_ y1_ d1_ z1_ w1_)) _ from ⟨b1_,x1_,y1_,d1_,z1_,w1_,rfl,hqa1,hra1,⟨hkx1,hky1⟩,⟨hkz1,hkw1⟩,⟨(S.num 8 rfl),(S.num 9 rfl)⟩,(S.num 10 rfl),(S.num 11 rfl)⟩) (show P1 3 (q0) (r0) ((aP b0_ x0_ y0_ d0_ z0_ w0_)) _ from ⟨b0_,x0_,y0_,d0_,z0_,w0_,rfl,hqa0,hra0,⟨hkx0,hky0⟩,⟨hkz0,hkw0⟩,⟨(S.num 12 rfl),(S.num 13 rfl)⟩,(S.num 14 rfl),(S.num 15 rfl)⟩) (by omega) (by omega))) ?_
  refine sc (fun _ _ S _ hd=>sy rfl (zbt rfl (hd.v 0 rfl rfl) rfl (show QT 13 (q0*r1 - r0*q1) ((aG b1 x1 y1)) _ from ⟨b1,x1,y1,rfl,hq1,hk1,hk2,(S.num 1 rfl),(S.num 0 rfl)⟩).any ((hd.r 3 rfl rfl)).any)) ?_
  refine sc (fun _ _ _ _ hd=>sl rfl (rc1 Tryz.func29 rfl) (zeI ((hd.r 4 rfl rfl)).row (by decide))) ?_
  refine sc (fun _ _ _ _ _=>sl rfl (rcc Tryz.func23) (zeq (n:=0) (by decide))) ?_
  refine sc (fun _ _ _ _ hd=>sl rfl (rc2 Tryz.func21 rfl rfl) (zbb (zcU ((hd.r 5 rfl rfl)).any ((hd.r 6 rfl rfl)).any (by decide) (by decide)) (fun _ _ h=>h.trans (congrArg Value.bool (show (decide (zay ((q0*r1 - r0*q1)+(q1*r0 - r1*q0)) (0:Int)=0))=true from (zbS (by grind))))))) ?_
  refine sc (fun _ _ _ _ hd=>sv rfl (zb3 (b:=true) rfl (hd.v 7 rfl rfl))) ?_
  refine sc (fun _ _ _ _ hd=>sv rfl (zad rfl (hd.v 8 rfl rfl))) ?_
  refine sc (fun _ _ S _ hd=>svg rfl (hd.v 9 rfl rfl) (zab rfl (S.at 7 rfl) (S.bx 0 rfl) Tryz.underlying53 rfl (vs:=(lP b0_ x0_ y0_ d0_ z0_ w0_)) zak rfl)) ?_
  refine sc (fun _ _ S _ hd=>svg rfl (hd.v 9 rfl rfl) (zab rfl (S.at 7 rfl) (S.bx 0 rfl) Tryz.underlying53 rfl (vs:=(lP b0_ x0_ y0_ d0_ z0_ w0_)) zak rfl)) ?_
  refine sc (fun _ _ S _ hd=>slg rfl (hd.v 9 rfl rfl) (rc2 Tryz.func62 (hd.v 10 rfl rfl) (hd.v 11 rfl rfl)) (zcK (T.keep S.below) (show P1 3 (q0) (r0) ((aP b0_ x0_ y0_ d0_ z0_ w0_)) _ from ⟨b0_,x0_,y0_,d0_,z0_,w0_,rfl,hqa0,hra0,⟨hkx0,hky0⟩,⟨hkz0,hkw0⟩,⟨(S.num 12 rfl),(S.num 13 rfl)⟩,(S.num 14 rfl),(S.num 15 rfl)⟩) (show P1 3 (q0) (r0) ((aP b0_ x0_ y0_ d0_ z0_ w0_)) _ from ⟨b0_,x0_,y0_,d0_,z0_,w0_,rfl,hqa0,hra0,⟨hkx0,hky0⟩,⟨hkz0,hkw0⟩,⟨(S.num 12 rfl),(S.num 13 rfl)⟩,(S.num 14 rfl),(S.num 15 rfl)⟩) (by omega) (by omega))) ?_
  refine sc (fun _ _ _ _ hd=>slg rfl (hd.v 9 rfl rfl) (rc1 Tryz.func17 rfl) (zeH ((hd.r 12 rfl rfl)).any)) ?_
  refine sc (fun _ _ _ _ hd=>svg rfl (hd.v 9 rfl rfl) (zaQ (zeF _ (by decide) rfl (hd.v 13 rfl rfl) rfl) (show (!decide (zay (q0*r0 - r0*q0) 0=0))=false from (zlG (by grind))))) ?_
  refine sc (fun _ _ _ _ hd=>sv rfl (zaq false rfl (hd.v 9 rfl rfl) (hd.v 14 rfl rfl))) ?_
  refine sc (fun _ _ _ _ hd=>sv rfl (zad rfl (hd.v 15 rfl rfl))) ?_
  refine sc (fun _ _ S _ hd=>svg rfl (hd.v 16 rfl rfl) (zab rfl (S.at 7 rfl) (S.bx 0 rfl) Tryz.underlying53 rfl (vs:=(lP b0_ x0_ y0_ d0_ z0_ w0_)) zak rfl)) ?_
  refine sc (fun _ _ S _ hd=>svg rfl (hd.v 16 rfl rfl) (zab rfl (S.at 4 rfl) (S.bx 3 rfl) Tryz.underlying27 rfl (vs:=(aL b3_ x3_ y3_)) zah rfl)) ?_
  refine sc (fun _ _ S _ hd=>slg rfl (hd.v 16 rfl rfl) (rc2 Tryz.func55 (hd.v 17 rfl rfl) (hd.v 18 rfl rfl)) (zlI (T.keep S.below) (show P1 3 (q0) (r0) ((aP b0_ x0_ y0_ d0_ z0_ w0_)) _ from ⟨b0_,x0_,y0_,d0_,z0_,w0_,rfl,hqa0,hra0,⟨hkx0,hky0⟩,⟨hkz0,hkw0⟩,⟨(S.num 12 rfl),(S.num 13 rfl)⟩,(S.num 14 rfl),(S.num 15 rfl)⟩) (show Q1 3 (q3) ((aG b3_ x3_ y3_)) _ from ⟨b3_,x3_,y3_,rfl,hqa3,hkx3,hky3,(S.num 2 rfl),(S.num 3 rfl)⟩) (by omega) (by omega))) ?_
  refine sc (fun _ _ S _ hd=>svg rfl (hd.v 16 rfl rfl) (zab rfl (S.at 6 rfl) (S.bx 1 rfl) Tryz.underlying53 rfl (vs:=(lP b1_ x1_ y1_ d1_ z1_ w1_)) zak rfl)) ?_
  refine sc (fun _ _ S _ hd=>slg rfl (hd.v 16 rfl rfl) (rc2 Tryz.func62 rfl (hd.v 20 rfl rfl)) (zcK (T.keep S.below) ((hd.r 19 rfl rfl)).any (show P1 3 (q1) (r1) ((aP b1_ x1_ y1_ d1_ z1_ w1_)) _ from ⟨b1_,x1_,y1_,d1_,z1_,w1_,rfl,hqa1,hra1,⟨hkx1,hky1⟩,⟨hkz1,hkw1⟩,⟨(S.num 8 rfl),(S.num 9 rfl)⟩,(S.num 10 rfl),(S.num 11 rfl)⟩) (by omega) (by omega))) ?_
  refine sc (fun _ _ S _ hd=>svg rfl (hd.v 16 rfl rfl) (zab rfl (S.at 0 rfl) (S.bx 4 rfl) Tryz.underlying27 rfl (vs:=(aL b1 x1 y1)) zah rfl)) ?_
  refine sc (fun _ _ S _ hd=>svg rfl (hd.v 16 rfl rfl) (zab rfl (S.at 4 rfl) (S.bx 3 rfl) Tryz.underlying27 rfl (vs:=(aL b3_ x3_ y3_)) zah rfl)) ?_
  refine sc (fun _ _ S _ hd=>syg rfl (hd.v 16 rfl rfl) (zbt rfl (hd.v 22 rfl rfl) (hd.v 23 rfl rfl) (show QT 13 (q0*r1 - r0*q1) ((aG b1 x1 y1)) _ from ⟨b1,x1,y1,rfl,hq1,hk1,hk2,(S.num 1 rfl),(S.num 0 rfl)⟩).any (((show Q1 3 (q3) ((aG b3_ x3_ y3_)) _ from ⟨b3_,x3_,y3_,rfl,hqa3,hkx3,hky3,(S.num 2 rfl),(S.num 3 rfl)⟩)).to rfl (by omega)))) ?_
  refine sc (fun _ _ _ _ hd=>slg rfl (hd.v 16 rfl rfl) (rc1 Tryz.func31 rfl) (zrs ((hd.r 24 rfl rfl)).row (by decide))) ?_
  refine sc (fun _ _ _ _ hd=>slg rfl (hd.v 16 rfl rfl) (rc2 Tryz.func21 rfl rfl) (zbb (zcU ((hd.r 21 rfl rfl)).any ((hd.r 25 rfl rfl)).any (by decide) (by decide)) (fun _ _ h=>h.trans (congrArg Value.bool (show (decide (zay ((q0*q3)*r1 - (r0*q3)*q1) ((q0*r1 - r0*q1)*q3)=0))=true from (zbS (by grind))))))) ?_
  refine sc (fun _ _ _ _ hd=>svg rfl (hd.v 16 rfl rfl) (zb3 (b:=true) rfl (hd.v 26 rfl rfl))) ?_
  refine sc (fun _ _ _ _ hd=>sv rfl (zaq false rfl (hd.v 16 rfl rfl) (hd.v 27 rfl rfl))) ?_
  exact sn
 ·intro a1 V10 S hB hf
  have S:=S.add (hf.v 28 rfl rfl)
  clear hf S0
  show wpList _ _ _ [] _ _
  refine hK6 _ _ ?_
  refine wp_cond_false (S.at 0 rfl) ?_
  refine wp_skip ?_
  refine hK5 _ _ ?_
  refine wp_seq_k fun K7 hK7=>?_
  refine wp_seq_k fun K8 hK8=>?_
  obtain ⟨W2,hW2⟩: ∃W,W=V10:=⟨_,rfl⟩
  rw [←hW2] at S ⊢
  have S0:=S
  refine fr 40 [61,62,63,64,65,66,67,68,69,70,71,72,73,74,75,76,77,78,79,80,81,82,83,84,85,86,87,88,89,90,91,92,93,94,95,96,97,98,99,100] [IsV ((aP b0_ x0_ y0_ d0_ z0_ w0_)),IsV ((aP b1_ x1_ y1_ d1_ z1_ w1_)),IsV ((aP b2_ x2_ y2_ d2_ z2_ w2_)),PT 7 (q1+q2) (r1+r2),QT 21 (q0*(r1+r2) - r0*(q1+q2)),IsV ((aG b1 x1 y1)),IsV ((aP b0_ x0_ y0_ d0_ z0_ w0_)),IsV ((aP b2_ x2_ y2_ d2_ z2_ w2_)),QT 13 (q0*r2 - r0*q2),QL 13 6 ([q0*r1 - r0*q1,q0*r2 - r0*q2]),QT 27 ((q0*r1 - r0*q1)+(q0*r2 - r0*q2)),IsV (.bool true),IsV (.bool false),IsV (.bool false),IsV ((aP b0_ x0_ y0_ d0_ z0_ w0_)),IsV ((aP b1_ x1_ y1_ d1_ z1_ w1_)),IsV ((aP b2_ x2_ y2_ d2_ z2_ w2_)),PT 7 (q1+q2) (r1+r2),QT 21 (q0*(q1+q2)+r0*(r1+r2)),IsV ((aP b0_ x0_ y0_ d0_ z0_ w0_)),IsV ((aP b1_ x1_ y1_ d1_ z1_ w1_)),QT 13 (q0*q1+r0*r1),IsV ((aP b0_ x0_ y0_ d0_ z0_ w0_)),IsV ((aP b2_ x2_ y2_ d2_ z2_ w2_)),QT 13 (q0*q2+r0*r2),QL 13 6 ([q0*q1+r0*r1,q0*q2+r0*r2]),QT 27 ((q0*q1+r0*r1)+(q0*q2+r0*r2)),IsV (.bool true),IsV (.bool false),IsV (.bool false),IsV (.bool false),IsV ((aP b0_ x0_ y0_ d0_ z0_ w0_)),IsV ((aP b1_ x1_ y1_ d1_ z1_ w1_)),QT 13 (q0*q1+r0*r1),IsV ((aP b1_ x1_ y1_ d1_ z1_ w1_)),IsV ((aP b0_ x0_ y0_ d0_ z0_ w0_)),QT 13 (q1*q0+r1*r0),IsV (.bool true),IsV (.bool false),IsV (.bool false)] S ?_ ?_
  ·refine sc (fun _ _ S _ _=>sv rfl (zab rfl (S.at 8 rfl) (S.bx 0 rfl) Tryz.underlying53 rfl (vs:=(lP b0_ x0_ y0_ d0_ z0_ w0_)) zak rfl)) ?_
   refine sc (fun _ _ S _ _=>sv rfl (zab rfl (S.at 7 rfl) (S.bx 1 rfl) Tryz.underlying53 rfl (vs:=(lP b1_ x1_ y1_ d1_ z1_ w1_)) zak rfl)) ?_
   refine sc (fun _ _ S _ _=>sv rfl (zab rfl (S.at 6 rfl) (S.bx 2 rfl) Tryz.underlying53 rfl (vs:=(lP b2_ x2_ y2_ d2_ z2_ w2_)) zak rfl)) ?_
   refine sc (fun _ _ S _ hd=>sl rfl (rc2 Tryz.func49 (hd.v 1 rfl rfl) (hd.v 2 rfl rfl)) (zgN (T.keep S.below) (show P1 3 (q1) (r1) ((aP b1_ x1_ y1_ d1_ z1_ w1_)) _ from ⟨b1_,x1_,y1_,d1_,z1_,w1_,rfl,hqa1,hra1,⟨hkx1,hky1⟩,⟨hkz1,hkw1⟩,⟨(S.num 8 rfl),(S.num 9 rfl)⟩,(S.num 10 rfl),(S.num 11 rfl)⟩) (show P1 3 (q2) (r2) ((aP b2_ x2_ y2_ d2_ z2_ w2_)) _ from ⟨b2_,x2_,y2_,d2_,z2_,w2_,rfl,hqa2,hra2,⟨hkx2,hky2⟩,⟨hkz2,hkw2⟩,⟨(S.num 4 rfl),(S.num 5 rfl)⟩,(S.num 6 rfl),(S.num 7 rfl)⟩) (by omega) (by omega))) ?_
   refine sc (fun _ _ S _ hd=>sl rfl (rc2 Tryz.func62 (hd.v 0 rfl rfl) rfl) (zcK (T.keep S.below) (show P1 3 (q0) (r0) ((aP b0_ x0_ y0_ d0_ z0_ w0_)) _ from ⟨b0_,x0_,y0_,d0_,z0_,w0_,rfl,hqa0,hra0,⟨hkx0,hky0⟩,⟨hkz0,hkw0⟩,⟨(S.num 12 rfl),(S.num 13 rfl)⟩,(S.num 14 rfl),(S.num 15 rfl)⟩) ((hd.r 3 rfl rfl)).any (by omega) (by omega))) ?_
   refine sc (fun _ _ S _ _=>sv rfl (zab rfl (S.at 1 rfl) (S.bx 4 rfl) Tryz.underlying27 rfl (vs:=(aL b1 x1 y1)) zah rfl)) ?_
   refine sc (fun _ _ S _ _=>sv rfl (zab rfl (S.at 8 rfl) (S.bx 0 rfl) Tryz.underlying53 rfl (vs:=(lP b0_ x0_ y0_ d0_ z0_ w0_)) zak rfl)) ?_
   refine sc (fun _ _ S _ _=>sv rfl (zab rfl (S.at 6 rfl) (S.bx 2 rfl) Tryz.underlying53 rfl (vs:=(lP b2_ x2_ y2_ d2_ z2_ w2_)) zak rfl)) ?_
   refine sc (fun _ _ S _ hd=>sl rfl (rc2 Tryz.func62 (hd.v 6 rfl rfl) (hd.v 7 rfl rfl)) (zcK (T.keep S.below) (show P1 3 (q0) (r0) ((aP b0_ x0_ y0_ d0_ z0_ w0_)) _ from ⟨b0_,x0_,y0_,d0_,z0_,w0_,rfl,hqa0,hra0,⟨hkx0,hky0⟩,⟨hkz0,hkw0⟩,⟨(S.num 12 rfl),(S.num 13 rfl)⟩,(S.num 14 rfl),(S.num 15 rfl)⟩) (show P1 3 (q2) (r2) ((aP b2_ x2_ y2_ d2_ z2_ w2_)) _ from ⟨b2_,x2_,y2_,d2_,z2_,w2_,rfl,hqa2,hra2,⟨hkx2,hky2⟩,⟨hkz2,hkw2⟩,⟨(S.num 4 rfl),(S.num 5 rfl)⟩,(S.num 6 rfl),(S.num 7 rfl)⟩) (by omega) (by omega))) ?_
   refine sc (fun _ _ S _ hd=>sy rfl (zbt rfl (hd.v 5 rfl rfl) rfl (show QT 13 (q0*r1 - r0*q1) ((aG b1 x1 y1)) _ from ⟨b1,x1,y1,rfl,hq1,hk1,hk2,(S.num 1 rfl),(S.num 0 rfl)⟩).any ((hd.r 8 rfl rfl)).any)) ?_
   refine sc (fun _ _ _ _ hd=>sl rfl (rc1 Tryz.func29 rfl) (zeI ((hd.r 9 rfl rfl)).row (by decide))) ?_
   refine sc (fun _ _ _ _ hd=>sl rfl (rc2 Tryz.func21 rfl rfl) (zbb (zcU ((hd.r 4 rfl rfl)).any ((hd.r 10 rfl rfl)).any (by decide) (by decide)) (fun _ _ h=>h.trans (congrArg Value.bool (show (decide (zay (q0*(r1+r2) - r0*(q1+q2)) ((q0*r1 - r0*q1)+(q0*r2 - r0*q2))=0))=true from (zbS (by grind))))))) ?_
   refine sc (fun _ _ _ _ hd=>sv rfl (zb3 (b:=true) rfl (hd.v 11 rfl rfl))) ?_
   refine sc (fun _ _ _ _ hd=>sv rfl (zad rfl (hd.v 12 rfl rfl))) ?_
   refine sc (fun _ _ S _ hd=>svg rfl (hd.v 13 rfl rfl) (zab rfl (S.at 8 rfl) (S.bx 0 rfl) Tryz.underlying53 rfl (vs:=(lP b0_ x0_ y0_ d0_ z0_ w0_)) zak rfl)) ?_
   refine sc (fun _ _ S _ hd=>svg rfl (hd.v 13 rfl rfl) (zab rfl (S.at 7 rfl) (S.bx 1 rfl) Tryz.underlying53 rfl (vs:=(lP b1_ x1_ y1_ d1_ z1_ w1_)) zak rfl)) ?_
   refine sc (fun _ _ S _ hd=>svg rfl (hd.v 13 rfl rfl) (zab rfl (S.at 6 rfl) (S.bx 2 rfl) Tryz.underlying53 rfl (vs:=(lP b2_ x2_ y2_ d2_ z2_ w2_)) zak rfl)) ?_
   refine sc (fun _ _ S _ hd=>slg rfl (hd.v 13 rfl rfl) (rc2 Tryz.func49 (hd.v 15 rfl rfl) (hd.v 16 rfl rfl)) (zgN (T.keep S.below) (show P1 3 (q1) (r1) ((aP b1_ x1_ y1_ d1_ z1_ w1_)) _ from ⟨b1_,x1_,y1_,d1_,z1_,w1_,rfl,hqa1,hra1,⟨hkx1,hky1⟩,⟨hkz1,hkw1⟩,⟨(S.num 8 rfl),(S.num 9 rfl)⟩,(S.num 10 rfl),(S.num 11 rfl)⟩) (show P1 3 (q2) (r2) ((aP b2_ x2_ y2_ d2_ z2_ w2_)) _ from ⟨b2_,x2_,y2_,d2_,z2_,w2_,rfl,hqa2,hra2,⟨hkx2,hky2⟩,⟨hkz2,hkw2⟩,⟨(S.num 4 rfl),(S.num 5 rfl)⟩,(S.num 6 rfl),(S.num 7 rfl)⟩) (by omega) (by omega))) ?_
   refine sc (fun _ _ S _ hd=>slg rfl (hd.v 13 rfl rfl) (rc2 Tryz.func64 (hd.v 14 rfl rfl) rfl) (zfO (T.keep S.below) (show P1 3 (q0) (r0) ((aP b0_ x0_ y0_ d0_ z0_ w0_)) _ from ⟨b0_,x0_,y0_,d0_,z0_,w0_,rfl,hqa0,hra0,⟨hkx0,hky0⟩,⟨hkz0,hkw0⟩,⟨(S.num 12 rfl),(S.num 13 rfl)⟩,(S.num 14 rfl),(S.num 15 rfl)⟩) ((hd.r 17 rfl rfl)).any (by omega) (by omega))) ?_
   refine sc (fun _ _ S _ hd=>svg rfl (hd.v 13 rfl rfl) (zab rfl (S.at 8 rfl) (S.bx 0 rfl) Tryz.underlying53 rfl (vs:=(lP b0_ x0_ y0_ d0_ z0_ w0_)) zak rfl)) ?_
   refine sc (fun _ _ S _ hd=>svg rfl (hd.v 13 rfl rfl) (zab rfl (S.at 7 rfl) (S.bx 1 rfl) Tryz.underlying53 rfl (vs:=(lP b1_ x1_ y1_ d1_ z1_ w1_)) zak rfl)) ?_
   refine sc (fun _ _ S _ hd=>slg rfl (hd.v 13 rfl rfl) (rc2 Tryz.func64 (hd.v 19 rfl rfl) (hd.v 20 rfl rfl)) (zfO (T.keep S.below) (show P1 3 (q0) (r0) ((aP b0_ x0_ y0_ d0_ z0_ w0_)) _ from ⟨b0_,x0_,y0_,d0_,z0_,w0_,rfl,hqa0,hra0,⟨hkx0,hky0⟩,⟨hkz0,hkw0⟩,⟨(S.num 12 rfl),(S.num 13 rfl)⟩,(S.num 14 rfl),(S.num 15 rfl)⟩) (show P1 3 (q1) (r1) ((aP b1_ x1_ y1_ d1_ z1_ w1_)) _ from ⟨b1_,x1_,y1_,d1_,z1_,w1_,rfl,hqa1,hra1,⟨hkx1,hky1⟩,⟨hkz1,hkw1⟩,⟨(S.num 8 rfl),(S.num 9 rfl)⟩,(S.num 10 rfl),(S.num 11 rfl)⟩) (by omega) (by omega))) ?_
   refine sc (fun _ _ S _ hd=>svg rfl (hd.v 13 rfl rfl) (zab rfl (S.at 8 rfl) (S.bx 0 rfl) Tryz.underlying53 rfl (vs:=(lP b0_ x0_ y0_ d0_ z0_ w0_)) zak rfl)) ?_
   refine sc (fun _ _ S _ hd=>svg rfl (hd.v 13 rfl rfl) (zab rfl (S.at 6 rfl) (S.bx 2 rfl) Tryz.underlying53 rfl (vs:=(lP b2_ x2_ y2_ d2_ z2_ w2_)) zak rfl)) ?_
   refine sc (fun _ _ S _ hd=>slg rfl (hd.v 13 rfl rfl) (rc2 Tryz.func64 (hd.v 22 rfl rfl) (hd.v 23 rfl rfl)) (zfO (T.keep S.below) (show P1 3 (q0) (r0) ((aP b0_ x0_ y0_ d0_ z0_ w0_)) _ from ⟨b0_,x0_,y0_,d0_,z0_,w0_,rfl,hqa0,hra0,⟨hkx0,hky0⟩,⟨hkz0,hkw0⟩,⟨(S.num 12 rfl),(S.num 13 rfl)⟩,(S.num 14 rfl),(S.num 15 rfl)⟩) (show P1 3 (q2) (r2) ((aP b2_ x2_ y2_ d2_ z2_ w2_)) _ from ⟨b2_,x2_,y2_,d2_,z2_,w2_,rfl,hqa2,hra2,⟨hkx2,hky2⟩,⟨hkz2,hkw2⟩,⟨(S.num 4 rfl),(S.num 5 rfl)⟩,(S.num 6 rfl),(S.num 7 rfl)⟩) (by omega) (by omega))) ?_
   refine sc (fun _ _ _ _ hd=>syg rfl (hd.v 13 rfl rfl) (zbt rfl rfl rfl ((hd.r 21 rfl rfl)).any ((hd.r 24 rfl rfl)).any)) ?_
   refine sc (fun _ _ _ _ hd=>slg rfl (hd.v 13 rfl rfl) (rc1 Tryz.func29 rfl) (zeI ((hd.r 25 rfl rfl)).row (by decide))) ?_
   refine sc (fun _ _ _ _ hd=>slg rfl (hd.v 13 rfl rfl) (rc2 Tryz.func21 rfl rfl) (zbb (zcU ((hd.r 18 rfl rfl)).any ((hd.r 26 rfl rfl)).any (by decide) (by decide)) (fun _ _ h=>h.trans (congrArg Value.bool (show (decide (zay (q0*(q1+q2)+r0*(r1+r2)) ((q0*q1+r0*r1)+(q0*q2+r0*r2))=0))=true from (zbS (by grind))))))) ?_
   refine sc (fun _ _ _ _ hd=>svg rfl (hd.v 13 rfl rfl) (zb3 (b:=true) rfl (hd.v 27 rfl rfl))) ?_
   refine sc (fun _ _ _ _ hd=>sv rfl (zaq false rfl (hd.v 13 rfl rfl) (hd.v 28 rfl rfl))) ?_
   refine sc (fun _ _ _ _ hd=>sv rfl (zad rfl (hd.v 29 rfl rfl))) ?_
   refine sc (fun _ _ S _ hd=>svg rfl (hd.v 30 rfl rfl) (zab rfl (S.at 8 rfl) (S.bx 0 rfl) Tryz.underlying53 rfl (vs:=(lP b0_ x0_ y0_ d0_ z0_ w0_)) zak rfl)) ?_
   refine sc (fun _ _ S _ hd=>svg rfl (hd.v 30 rfl rfl) (zab rfl (S.at 7 rfl) (S.bx 1 rfl) Tryz.underlying53 rfl (vs:=(lP b1_ x1_ y1_ d1_ z1_ w1_)) zak rfl)) ?_
   refine sc (fun _ _ S _ hd=>slg rfl (hd.v 30 rfl rfl) (rc2 Tryz.func64 (hd.v 31 rfl rfl) (hd.v 32 rfl rfl)) (zfO (T.keep S.below) (show P1 3 (q0) (r0) ((aP b0_ x0_ y0_ d0_ z0_ w0_)) _ from ⟨b0_,x0_,y0_,d0_,z0_,w0_,rfl,hqa0,hra0,⟨hkx0,hky0⟩,⟨hkz0,hkw0⟩,⟨(S.num 12 rfl),(S.num 13 rfl)⟩,(S.num 14 rfl),(S.num 15 rfl)⟩) (show P1 3 (q1) (r1) ((aP b1_ x1_ y1_ d1_ z1_ w1_)) _ from ⟨b1_,x1_,y1_,d1_,z1_,w1_,rfl,hqa1,hra1,⟨hkx1,hky1⟩,⟨hkz1,hkw1⟩,⟨(S.num 8 rfl),(S.num 9 rfl)⟩,(S.num 10 rfl),(S.num 11 rfl)⟩) (by omega) (by omega))) ?_
   refine sc (fun _ _ S _ hd=>svg rfl (hd.v 30 rfl rfl) (zab rfl (S.at 7 rfl) (S.bx 1 rfl) Tryz.underlying53 rfl (vs:=(lP b1_ x1_ y1_ d1_ z1_ w1_)) zak rfl)) ?_
   refine sc (fun _ _ S _ hd=>svg rfl (hd.v 30 rfl rfl) (zab rfl (S.at 8 rfl) (S.bx 0 rfl) Tryz.underlying53 rfl (vs:=(lP b0_ x0_ y0_ d0_ z0_ w0_)) zak rfl)) ?_
   refine sc (fun _ _ S _ hd=>slg rfl (hd.v 30 rfl rfl) (rc2 Tryz.func64 (hd.v 34 rfl rfl) (hd.v 35 rfl rfl)) (zfO (T.keep S.below) (show P1 3 (q1) (r1) ((aP b1_ x1_ y1_ d1_ z1_ w1_)) _ from ⟨b1_,x1_,y1_,d1_,z1_,w1_,rfl,hqa1,hra1,⟨hkx1,hky1⟩,⟨hkz1,hkw1⟩,⟨(S.num 8 rfl),(S.num 9 rfl)⟩,(S.num 10 rfl),(S.num 11 rfl)⟩) (show P1 3 (q0) (r0) ((aP b0_ x0_ y0_ d0_ z0_ w0_)) _ from ⟨b0_,x0_,y0_,d0_,z0_,w0_,rfl,hqa0,hra0,⟨hkx0,hky0⟩,⟨hkz0,hkw0⟩,⟨(S.num 12 rfl),(S.num 13 rfl)⟩,(S.num 14 rfl),(S.num 15 rfl)⟩) (by omega) (by omega))) ?_
   refine sc (fun _ _ _ _ hd=>slg rfl (hd.v 30 rfl rfl) (rc2 Tryz.func21 rfl rfl) (zbb (zcU ((hd.r 33 rfl rfl)).any ((hd.r 36 rfl rfl)).any (by decide) (by decide)) (fun _ _ h=>h.trans (congrArg Value.bool (show (decide (zay (q0*q1+r0*r1) (q1*q0+r1*r0)=0))=true from (zbS (by grind))))))) ?_
   refine sc (fun _ _ _ _ hd=>svg rfl (hd.v 30 rfl rfl) (zb3 (b:=true) rfl (hd.v 37 rfl rfl))) ?_
   refine sc (fun _ _ _ _ hd=>sv rfl (zaq false rfl (hd.v 30 rfl rfl) (hd.v 38 rfl rfl))) ?_
   exact sn
  ·intro a2 V11 S hB hf
   have S:=S.add (hf.v 39 rfl rfl)
   clear hf S0
   show wpList _ _ _ [] _ _
   refine hK8 _ _ ?_
   refine wp_cond_false (S.at 0 rfl) ?_
   refine wp_skip ?_
   refine hK7 _ _ ?_
   refine wp_seq_k fun K9 hK9=>?_
   obtain ⟨W3,hW3⟩: ∃W,W=V11:=⟨_,rfl⟩
   rw [←hW3] at S ⊢
   have S0:=S
   refine frs [(53,6)] [some 101,some 102,some 103,some 104,some 105,some 106,some 107,some 108,some 109,some 110,some 111,some 112,some 10,some 11,none,none] [IsV ((aP b0_ x0_ y0_ d0_ z0_ w0_)),PT 3 (-q0) (-r0),QT 3 (-r0),IsV (pT g1 0),IsV ((aG b0_ x0_ y0_)),P1 3 (-r0) (q0),IsV ((aP b1_ x1_ y1_ d1_ z1_ w1_)),PT 3 (-q1) (-r1),QT 3 (-r1),IsV (pT g2 0),IsV ((aG b1_ x1_ y1_)),P1 3 (-r1) (q1),zio,zio,zio,zio] [⟨12,10,53,[.bool false,.slice none 0 0,.slice none 0 0,.bool false,.slice none 0 0,.slice none 0 0]⟩,⟨13,11,53,[.bool false,.slice none 0 0,.slice none 0 0,.bool false,.slice none 0 0,.slice none 0 0]⟩] [⟨14,10,53,P1 3 (-r0) (q0)⟩,⟨15,11,53,P1 3 (-r1) (q1)⟩] [] (lb:=[⟨g1,53,(lP b0_ x0_ y0_ d0_ z0_ w0_)⟩,⟨g2,53,(lP b1_ x1_ y1_ d1_ z1_ w1_)⟩,⟨g3,53,(lP b2_ x2_ y2_ d2_ z2_ w2_)⟩,⟨g4,27,(aL b3_ x3_ y3_)⟩,⟨g5,27,(aL b1 x1 y1)⟩]) S (all_cons (zkL 0 rfl rfl) (all_cons (zkL 1 rfl rfl) zba)) ?_ (all_cons ⟨rfl,_,rfl,rfl,rfl,fun _ _ _=>(zau rfl (Tryz.zeroValue53 _) rfl)⟩ (all_cons ⟨rfl,_,rfl,rfl,rfl,fun _ _ _=>(zau rfl (Tryz.zeroValue53 _) rfl)⟩ zba)) (all_cons ⟨_,6,rfl,rfl,rfl,List.mem_of_getElem? (i:=0) rfl,(all_cons (fun h=>⟨rfl,rfl⟩) (all_cons (fun h=>by cases h) zba)),zba,fun _ _ _ _ hg hd=>zig (hd.r 5 rfl rfl) (hd.r 5 rfl rfl).parts rfl hg rfl zak⟩ (all_cons ⟨_,6,rfl,rfl,rfl,List.mem_of_getElem? (i:=0) rfl,(all_cons (fun h=>by cases h) (all_cons (fun h=>⟨rfl,rfl⟩) zba)),zba,fun _ _ _ _ hg hd=>zig (hd.r 11 rfl rfl) (hd.r 11 rfl rfl).parts rfl hg rfl zak⟩ zba)) zba ?_
   ·refine va (fun _ _ S _ _ _=>sv rfl (zab rfl (S.at 9 rfl) (S.bx 0 rfl) Tryz.underlying53 rfl (vs:=(lP b0_ x0_ y0_ d0_ z0_ w0_)) zak rfl)) ?_
    refine va (fun _ _ S _ hd _=>sl rfl (rc1 Tryz.func53 (hd.v 0 rfl rfl)) (zpg (T.keep S.below) (show P1 3 (q0) (r0) ((aP b0_ x0_ y0_ d0_ z0_ w0_)) _ from ⟨b0_,x0_,y0_,d0_,z0_,w0_,rfl,hqa0,hra0,⟨hkx0,hky0⟩,⟨hkz0,hkw0⟩,⟨(S.num 12 rfl),(S.num 13 rfl)⟩,(S.num 14 rfl),(S.num 15 rfl)⟩) (by omega))) ?_
    refine va (fun _ _ _ _ hd _=>by
     obtain ⟨v,hv,hq⟩:=zsC (hd.r 1 rfl rfl)
     exact sv rfl (zfp rfl rfl hv) hq) ?_
    refine va (fun _ _ S _ _ _=>sv rfl (zae rfl (S.at 9 rfl) (zbh _))) ?_
    refine va (fun _ _ S _ hd _=>sv rfl (zab rfl (hd.v 3 rfl rfl) (S.bx 0 rfl) Tryz.underlying27 rfl (vs:=(aL b0_ x0_ y0_)) zah rfl)) ?_
    refine va (fun _ _ S _ hd _=>by
     obtain ⟨v,hv,hq⟩:=zqJ ((hd.r 2 rfl rfl)).any (show Q1 3 (q0) ((aG b0_ x0_ y0_)) _ from ⟨b0_,x0_,y0_,rfl,hqa0,hkx0,hky0,(S.num 12 rfl),(S.num 13 rfl)⟩)
     exact sv rfl (za6 rfl rfl (hd.v 4 rfl rfl) hv) hq) ?_
    refine va (fun _ _ S _ _ _=>sv rfl (zab rfl (S.at 8 rfl) (S.bx 1 rfl) Tryz.underlying53 rfl (vs:=(lP b1_ x1_ y1_ d1_ z1_ w1_)) zak rfl)) ?_
    refine va (fun _ _ S _ hd _=>sl rfl (rc1 Tryz.func53 (hd.v 6 rfl rfl)) (zpg (T.keep S.below) (show P1 3 (q1) (r1) ((aP b1_ x1_ y1_ d1_ z1_ w1_)) _ from ⟨b1_,x1_,y1_,d1_,z1_,w1_,rfl,hqa1,hra1,⟨hkx1,hky1⟩,⟨hkz1,hkw1⟩,⟨(S.num 8 rfl),(S.num 9 rfl)⟩,(S.num 10 rfl),(S.num 11 rfl)⟩) (by omega))) ?_
    refine va (fun _ _ _ _ hd _=>by
     obtain ⟨v,hv,hq⟩:=zsC (hd.r 7 rfl rfl)
     exact sv rfl (zfp rfl rfl hv) hq) ?_
    refine va (fun _ _ S _ _ _=>sv rfl (zae rfl (S.at 8 rfl) (zbh _))) ?_
    refine va (fun _ _ S _ hd _=>sv rfl (zab rfl (hd.v 9 rfl rfl) (S.bx 1 rfl) Tryz.underlying27 rfl (vs:=(aL b1_ x1_ y1_)) zah rfl)) ?_
    refine va (fun _ _ S _ hd _=>by
     obtain ⟨v,hv,hq⟩:=zqJ ((hd.r 8 rfl rfl)).any (show Q1 3 (q1) ((aG b1_ x1_ y1_)) _ from ⟨b1_,x1_,y1_,rfl,hqa1,hkx1,hky1,(S.num 8 rfl),(S.num 9 rfl)⟩)
     exact sv rfl (za6 rfl rfl (hd.v 10 rfl rfl) hv) hq) ?_
    refine vb ?_
    refine vb ?_
    refine vs ?_
    refine vs ?_
    exact vn
   ·intro a3 V12 S hB hf hl hdis hs hp
    obtain ⟨g6,csg6,hvg6,hgg6,hbg6,hlg6,hng6,hkg6⟩:=hl _ (List.mem_of_getElem? (i:=0) rfl)
    obtain ⟨g7,csg7,hvg7,hgg7,hbg7,hlg7,hng7,hkg7⟩:=hl _ (List.mem_of_getElem? (i:=1) rfl)
    have hne_g6_g7:g6≠g7:=fun h=>hdis _ (List.mem_of_getElem? (i:=0) rfl) _ (List.mem_of_getElem? (i:=1) rfl) (by decide) (hvg6.trans (h▸hvg7.symm))
    obtain ⟨gs1,vsgs1,hvgs1,-,hbgs1,hngs1,hPgs1⟩:=hs _ (List.mem_of_getElem? (i:=0) rfl)
    have hegs1:=zf2 ((hvg6).symm.trans hvgs1)
    subst hegs1
    obtain ⟨b2,x2,y2,b3,x3,y3,hv1,hq2,hq3,⟨hk3,hk4⟩,⟨hk5,hk6⟩,⟨ok3,ok4⟩,ok5,ok6⟩:=(show P1 3 (-r0) (q0) (.agg vsgs1.toArray) V12 from hPgs1)
    have hvsgs1:=zf3 (ws:=(lP b2 x2 y2 b3 x3 y3)) hv1
    subst hvsgs1
    have S:=S.know ok3
    have S:=S.know ok4
    have S:=S.know ok5
    have S:=S.know ok6
    obtain ⟨gs2,vsgs2,hvgs2,-,hbgs2,hngs2,hPgs2⟩:=hs _ (List.mem_of_getElem? (i:=1) rfl)
    have hegs2:=zf2 ((hvg7).symm.trans hvgs2)
    subst hegs2
    obtain ⟨b4,x4,y4,b5,x5,y5,hv2,hq4,hq5,⟨hk7,hk8⟩,⟨hk9,hk10⟩,⟨ok7,ok8⟩,ok9,ok10⟩:=(show P1 3 (-r1) (q1) (.agg vsgs2.toArray) V12 from hPgs2)
    have hvsgs2:=zf3 (ws:=(lP b4 x4 y4 b5 x5 y5)) hv2
    subst hvsgs2
    have S:=S.know ok7
    have S:=S.know ok8
    have S:=S.know ok9
    have S:=S.know ok10
    have S:=Frm.readd (S.add hvg6) (Nat.le_trans S0.below.size hgg6) hbgs1 rfl (zbL (za9 (S0.lt 0 rfl) hgg6) (zbL (za9 (S0.lt 1 rfl) hgg6) (zbL (za9 (S0.lt 2 rfl) hgg6) (zbL (za9 (S0.lt 3 rfl) hgg6) (zbL (za9 (S0.lt 4 rfl) hgg6) zif)))))
    have S:=Frm.readd (S.add hvg7) (Nat.le_trans S0.below.size hgg7) hbgs2 rfl (zbL (za9 (S0.lt 0 rfl) hgg7) (zbL (za9 (S0.lt 1 rfl) hgg7) (zbL (za9 (S0.lt 2 rfl) hgg7) (zbL (za9 (S0.lt 3 rfl) hgg7) (zbL (za9 (S0.lt 4 rfl) hgg7) (zbL hne_g6_g7 zif))))))
    have S:Frm 141 [(11,pT g7 0),(10,pT g6 0),(100,.bool false),(60,.bool false),(9,pT g5 0),(31,(aG b1 x1 y1)),(30,(aP b1_ x1_ y1_ d1_ z1_ w1_)),(29,(aP b0_ x0_ y0_ d0_ z0_ w0_)),(7,pT g4 0),(6,pT g3 0),(5,pT g2 0),(4,pT g1 0)] [⟨g1,53,(lP b0_ x0_ y0_ d0_ z0_ w0_)⟩,⟨g2,53,(lP b1_ x1_ y1_ d1_ z1_ w1_)⟩,⟨g3,53,(lP b2_ x2_ y2_ d2_ z2_ w2_)⟩,⟨g4,27,(aL b3_ x3_ y3_)⟩,⟨g5,27,(aL b1 x1 y1)⟩,⟨g6,53,(lP b2 x2 y2 b3 x3 y3)⟩,⟨g7,53,(lP b4 x4 y4 b5 x5 y5)⟩] V _ _ _:=S
    clear hf hl hdis hs hp S0
    refine hK9 _ _ ?_
    refine wp_seq_k fun K10 hK10=>?_
    obtain ⟨W4,hW4⟩: ∃W,W=V12:=⟨_,rfl⟩
    rw [←hW4] at S ⊢
    have S0:=S
    refine fr 28 [113,114,115,116,117,118,119,120,121,122,123,124,125,126,127,128,129,130,131,132,133,134,135,136,137,138,139,140] [IsV ((aP b2 x2 y2 b3 x3 y3)),IsV ((aP b4 x4 y4 b5 x5 y5)),QT 13 ((-r0)*q1 - q0*(-r1)),IsV ((aG b1 x1 y1)),IsV (.bool true),IsV (.bool true),IsV ((aP b2 x2 y2 b3 x3 y3)),IsV ((aP b4 x4 y4 b5 x5 y5)),QT 13 ((-r0)*(-r1)+q0*q1),IsV ((aP b0_ x0_ y0_ d0_ z0_ w0_)),IsV ((aP b1_ x1_ y1_ d1_ z1_ w1_)),QT 13 (q0*q1+r0*r1),IsV (.bool true),IsV (.bool true),IsV (.bool true),IsV ((aP b2 x2 y2 b3 x3 y3)),IsV ((aP b1_ x1_ y1_ d1_ z1_ w1_)),QT 13 ((-r0)*r1 - q0*q1),QT 2 ((0:Int)),IsV ((aP b0_ x0_ y0_ d0_ z0_ w0_)),IsV ((aP b1_ x1_ y1_ d1_ z1_ w1_)),QT 13 (q0*q1+r0*r1),QT 16 ((0:Int) - (q0*q1+r0*r1)),IsV (.bool true),IsV (.bool true),IsV (.bool true),IsV (.bool true),IsV (.bool true)] S ?_ ?_
    ·refine sc (fun _ _ S _ _=>sv rfl (zab rfl (S.at 1 rfl) (S.bx 5 rfl) Tryz.underlying53 rfl (vs:=(lP b2 x2 y2 b3 x3 y3)) zak rfl)) ?_
     refine sc (fun _ _ S _ _=>sv rfl (zab rfl (S.at 0 rfl) (S.bx 6 rfl) Tryz.underlying53 rfl (vs:=(lP b4 x4 y4 b5 x5 y5)) zak rfl)) ?_
     refine sc (fun _ _ S _ hd=>sl rfl (rc2 Tryz.func62 (hd.v 0 rfl rfl) (hd.v 1 rfl rfl)) (zcK (T.keep S.below) (show P1 3 (-r0) (q0) ((aP b2 x2 y2 b3 x3 y3)) _ from ⟨b2,x2,y2,b3,x3,y3,rfl,hq2,hq3,⟨hk3,hk4⟩,⟨hk5,hk6⟩,⟨(S.num 7 rfl),(S.num 6 rfl)⟩,(S.num 5 rfl),(S.num 4 rfl)⟩) (show P1 3 (-r1) (q1) ((aP b4 x4 y4 b5 x5 y5)) _ from ⟨b4,x4,y4,b5,x5,y5,rfl,hq4,hq5,⟨hk7,hk8⟩,⟨hk9,hk10⟩,⟨(S.num 3 rfl),(S.num 2 rfl)⟩,(S.num 1 rfl),(S.num 0 rfl)⟩) (by omega) (by omega))) ?_
     refine sc (fun _ _ S _ _=>sv rfl (zab rfl (S.at 4 rfl) (S.bx 4 rfl) Tryz.underlying27 rfl (vs:=(aL b1 x1 y1)) zah rfl)) ?_
     refine sc (fun _ _ S _ hd=>sl rfl (rc2 Tryz.func21 rfl (hd.v 3 rfl rfl)) (zbb (zcU ((hd.r 2 rfl rfl)).any (show QT 13 (q0*r1 - r0*q1) ((aG b1 x1 y1)) _ from ⟨b1,x1,y1,rfl,hq1,hk1,hk2,(S.num 9 rfl),(S.num 8 rfl)⟩).any (by decide) (by decide)) (fun _ _ h=>h.trans (congrArg Value.bool (show (decide (zay ((-r0)*q1 - q0*(-r1)) (q0*r1 - r0*q1)=0))=true from (zbS (by grind))))))) ?_
     refine sc (fun _ _ _ _ hd=>sv rfl (zad rfl (hd.v 4 rfl rfl))) ?_
     refine sc (fun _ _ S _ hd=>svg rfl (hd.v 5 rfl rfl) (zab rfl (S.at 1 rfl) (S.bx 5 rfl) Tryz.underlying53 rfl (vs:=(lP b2 x2 y2 b3 x3 y3)) zak rfl)) ?_
     refine sc (fun _ _ S _ hd=>svg rfl (hd.v 5 rfl rfl) (zab rfl (S.at 0 rfl) (S.bx 6 rfl) Tryz.underlying53 rfl (vs:=(lP b4 x4 y4 b5 x5 y5)) zak rfl)) ?_
     refine sc (fun _ _ S _ hd=>slg rfl (hd.v 5 rfl rfl) (rc2 Tryz.func64 (hd.v 6 rfl rfl) (hd.v 7 rfl rfl)) (zfO (T.keep S.below) (show P1 3 (-r0) (q0) ((aP b2 x2 y2 b3 x3 y3)) _ from ⟨b2,x2,y2,b3,x3,y3,rfl,hq2,hq3,⟨hk3,hk4⟩,⟨hk5,hk6⟩,⟨(S.num 7 rfl),(S.num 6 rfl)⟩,(S.num 5 rfl),(S.num 4 rfl)⟩) (show P1 3 (-r1) (q1) ((aP b4 x4 y4 b5 x5 y5)) _ from ⟨b4,x4,y4,b5,x5,y5,rfl,hq4,hq5,⟨hk7,hk8⟩,⟨hk9,hk10⟩,⟨(S.num 3 rfl),(S.num 2 rfl)⟩,(S.num 1 rfl),(S.num 0 rfl)⟩) (by omega) (by omega))) ?_
     refine sc (fun _ _ S _ hd=>svg rfl (hd.v 5 rfl rfl) (zab rfl (S.at 11 rfl) (S.bx 0 rfl) Tryz.underlying53 rfl (vs:=(lP b0_ x0_ y0_ d0_ z0_ w0_)) zak rfl)) ?_
     refine sc (fun _ _ S _ hd=>svg rfl (hd.v 5 rfl rfl) (zab rfl (S.at 10 rfl) (S.bx 1 rfl) Tryz.underlying53 rfl (vs:=(lP b1_ x1_ y1_ d1_ z1_ w1_)) zak rfl)) ?_
     refine sc (fun _ _ S _ hd=>slg rfl (hd.v 5 rfl rfl) (rc2 Tryz.func64 (hd.v 9 rfl rfl) (hd.v 10 rfl rfl)) (zfO (T.keep S.below) (show P1 3 (q0) (r0) ((aP b0_ x0_ y0_ d0_ z0_ w0_)) _ from ⟨b0_,x0_,y0_,d0_,z0_,w0_,rfl,hqa0,hra0,⟨hkx0,hky0⟩,⟨hkz0,hkw0⟩,⟨(S.num 20 rfl),(S.num 21 rfl)⟩,(S.num 22 rfl),(S.num 23 rfl)⟩) (show P1 3 (q1) (r1) ((aP b1_ x1_ y1_ d1_ z1_ w1_)) _ from ⟨b1_,x1_,y1_,d1_,z1_,w1_,rfl,hqa1,hra1,⟨hkx1,hky1⟩,⟨hkz1,hkw1⟩,⟨(S.num 16 rfl),(S.num 17 rfl)⟩,(S.num 18 rfl),(S.num 19 rfl)⟩) (by omega) (by omega))) ?_
     refine sc (fun _ _ _ _ hd=>slg rfl (hd.v 5 rfl rfl) (rc2 Tryz.func21 rfl rfl) (zbb (zcU ((hd.r 8 rfl rfl)).any ((hd.r 11 rfl rfl)).any (by decide) (by decide)) (fun _ _ h=>h.trans (congrArg Value.bool (show (decide (zay ((-r0)*(-r1)+q0*q1) (q0*q1+r0*r1)=0))=true from (zbS (by grind))))))) ?_
     refine sc (fun _ _ _ _ hd=>sv rfl (zaq true rfl (hd.v 5 rfl rfl) (hd.v 12 rfl rfl))) ?_
     refine sc (fun _ _ _ _ hd=>sv rfl (zad rfl (hd.v 13 rfl rfl))) ?_
     refine sc (fun _ _ S _ hd=>svg rfl (hd.v 14 rfl rfl) (zab rfl (S.at 1 rfl) (S.bx 5 rfl) Tryz.underlying53 rfl (vs:=(lP b2 x2 y2 b3 x3 y3)) zak rfl)) ?_
     refine sc (fun _ _ S _ hd=>svg rfl (hd.v 14 rfl rfl) (zab rfl (S.at 10 rfl) (S.bx 1 rfl) Tryz.underlying53 rfl (vs:=(lP b1_ x1_ y1_ d1_ z1_ w1_)) zak rfl)) ?_
     refine sc (fun _ _ S _ hd=>slg rfl (hd.v 14 rfl rfl) (rc2 Tryz.func62 (hd.v 15 rfl rfl) (hd.v 16 rfl rfl)) (zcK (T.keep S.below) (show P1 3 (-r0) (q0) ((aP b2 x2 y2 b3 x3 y3)) _ from ⟨b2,x2,y2,b3,x3,y3,rfl,hq2,hq3,⟨hk3,hk4⟩,⟨hk5,hk6⟩,⟨(S.num 7 rfl),(S.num 6 rfl)⟩,(S.num 5 rfl),(S.num 4 rfl)⟩) (show P1 3 (q1) (r1) ((aP b1_ x1_ y1_ d1_ z1_ w1_)) _ from ⟨b1_,x1_,y1_,d1_,z1_,w1_,rfl,hqa1,hra1,⟨hkx1,hky1⟩,⟨hkz1,hkw1⟩,⟨(S.num 16 rfl),(S.num 17 rfl)⟩,(S.num 18 rfl),(S.num 19 rfl)⟩) (by omega) (by omega))) ?_
     refine sc (fun _ _ _ _ hd=>slg rfl (hd.v 14 rfl rfl) (rcc Tryz.func23) (zeq (n:=0) (by decide))) ?_
     refine sc (fun _ _ S _ hd=>svg rfl (hd.v 14 rfl rfl) (zab rfl (S.at 11 rfl) (S.bx 0 rfl) Tryz.underlying53 rfl (vs:=(lP b0_ x0_ y0_ d0_ z0_ w0_)) zak rfl)) ?_
     refine sc (fun _ _ S _ hd=>svg rfl (hd.v 14 rfl rfl) (zab rfl (S.at 10 rfl) (S.bx 1 rfl) Tryz.underlying53 rfl (vs:=(lP b1_ x1_ y1_ d1_ z1_ w1_)) zak rfl)) ?_
     refine sc (fun _ _ S _ hd=>slg rfl (hd.v 14 rfl rfl) (rc2 Tryz.func64 (hd.v 19 rfl rfl) (hd.v 20 rfl rfl)) (zfO (T.keep S.below) (show P1 3 (q0) (r0) ((aP b0_ x0_ y0_ d0_ z0_ w0_)) _ from ⟨b0_,x0_,y0_,d0_,z0_,w0_,rfl,hqa0,hra0,⟨hkx0,hky0⟩,⟨hkz0,hkw0⟩,⟨(S.num 20 rfl),(S.num 21 rfl)⟩,(S.num 22 rfl),(S.num 23 rfl)⟩) (show P1 3 (q1) (r1) ((aP b1_ x1_ y1_ d1_ z1_ w1_)) _ from ⟨b1_,x1_,y1_,d1_,z1_,w1_,rfl,hqa1,hra1,⟨hkx1,hky1⟩,⟨hkz1,hkw1⟩,⟨(S.num 16 rfl),(S.num 17 rfl)⟩,(S.num 18 rfl),(S.num 19 rfl)⟩) (by omega) (by omega))) ?_
     refine sc (fun _ _ _ _ hd=>slg rfl (hd.v 14 rfl rfl) (rc2 Tryz.func35 rfl rfl) (zqC ((hd.r 18 rfl rfl)).any ((hd.r 21 rfl rfl)).any (by decide) (by decide))) ?_
     refine sc (fun _ _ _ _ hd=>slg rfl (hd.v 14 rfl rfl) (rc2 Tryz.func21 rfl rfl) (zbb (zcU ((hd.r 17 rfl rfl)).any ((hd.r 22 rfl rfl)).any (by decide) (by decide)) (fun _ _ h=>h.trans (congrArg Value.bool (show (decide (zay ((-r0)*r1 - q0*q1) ((0:Int) - (q0*q1+r0*r1))=0))=true from (zbS (by grind))))))) ?_
     refine sc (fun _ _ _ _ hd=>sv rfl (zaq true rfl (hd.v 14 rfl rfl) (hd.v 23 rfl rfl))) ?_
     refine sc (fun _ _ _ _ hd=>sv rfl (zad rfl (hd.v 24 rfl rfl))) ?_
     refine sc (fun _ _ S _ hd=>slg rfl (hd.v 25 rfl rfl) (rc0 Tryz.func47) (zb5 (T.keep S.below))) ?_
     refine sc (fun _ _ _ _ hd=>sv rfl (zaq true rfl (hd.v 25 rfl rfl) (hd.v 26 rfl rfl))) ?_
     exact sn
    ·intro a4 V13 S hB hf
     have S:=S.add (hf.v 27 rfl rfl)
     clear hf S0
     show wpList _ _ _ [_] _ _
     refine tv S (zan rfl (S.at 0 rfl)) fun a S=>?_
     refine hK10 _ _ ?_
     refine wp_ret ?_
     exact zaO rfl S (S.at 0 rfl) ⟨_,rfl,rfl,S.below⟩
theorem zkY (b0_:Bool) (x0_ y0_:Num) (d0_:Bool) (z0_ w0_:Num) (b1_:Bool) (x1_ y1_:Num) (d1_:Bool) (z1_ w1_:Num) (b2_:Bool) (x2_ y2_:Num) (d2_:Bool) (z2_ w2_:Num) (b3_:Bool) (x3_ y3_:Num) {V:World} (T:TT V) (ox0:x0_.ok V V.heap.size) (oy0:y0_.ok V V.heap.size) (oz0:z0_.ok V V.heap.size) (ow0:w0_.ok V V.heap.size) (ox1:x1_.ok V V.heap.size) (oy1:y1_.ok V V.heap.size) (oz1:z1_.ok V V.heap.size) (ow1:w1_.ok V V.heap.size) (ox2:x2_.ok V V.heap.size) (oy2:y2_.ok V V.heap.size) (oz2:z2_.ok V V.heap.size) (ow2:w2_.ok V V.heap.size) (ox3:x3_.ok V V.heap.size) (oy3:y3_.ok V V.heap.size) (hL:zcS [(b0_,x0_,y0_,d0_,z0_,w0_),(b1_,x1_,y1_,d1_,z1_,w1_),(b2_,x2_,y2_,d2_,z2_,w2_)]=false) (hT3:decide ((3:Int)<((max x3_.n y3_.n:Nat):Int))=true):
  Calls Tryz.prog 6 #[(aP b0_ x0_ y0_ d0_ z0_ w0_),(aP b1_ x1_ y1_ d1_ z1_ w1_),(aP b2_ x2_ y2_ d2_ z2_ w2_),(aG b3_ x3_ y3_)] V (zal V (fun v _=>v= .bool true)):=by
 obtain ⟨hL0,hL1,hL2⟩:=zd7 hL
 obtain ⟨hkx0,hky0,hkz0,hkw0⟩:=zbX hL0
 obtain ⟨hkx1,hky1,hkz1,hkw1⟩:=zbX hL1
 obtain ⟨hkx2,hky2,hkz2,hkw2⟩:=zbX hL2
 obtain ⟨q0,hqa0⟩: ∃q,qOf b0_ x0_.N y0_.N=q:=⟨_,rfl⟩
 obtain ⟨r0,hra0⟩: ∃q,qOf d0_ z0_.N w0_.N=q:=⟨_,rfl⟩
 obtain ⟨q1,hqa1⟩: ∃q,qOf b1_ x1_.N y1_.N=q:=⟨_,rfl⟩
 obtain ⟨r1,hra1⟩: ∃q,qOf d1_ z1_.N w1_.N=q:=⟨_,rfl⟩
 obtain ⟨q2,hqa2⟩: ∃q,qOf b2_ x2_.N y2_.N=q:=⟨_,rfl⟩
 obtain ⟨r2,hra2⟩: ∃q,qOf d2_ z2_.N w2_.N=q:=⟨_,rfl⟩
 obtain ⟨q3,hqa3⟩: ∃q,qOf b3_ x3_.N y3_.N=q:=⟨_,rfl⟩
 refine zar (e:=[x3_,y3_,x2_,y2_,z2_,w2_,x1_,y1_,z1_,w1_,x0_,y0_,z0_,w0_]) Tryz.func6 rfl Tryz.ntmps6 (Nat.le_of_ble_eq_true rfl) [(0,(aP b0_ x0_ y0_ d0_ z0_ w0_)),(1,(aP b1_ x1_ y1_ d1_ z1_ w1_)),(2,(aP b2_ x2_ y2_ d2_ z2_ w2_)),(3,(aG b3_ x3_ y3_))] rfl (zaa ox3 (zaa oy3 (zaa ox2 (zaa oy2 (zaa oz2 (zaa ow2 (zaa ox1 (zaa oy1 (zaa oz1 (zaa ow1 (zaa ox0 (zaa oy0 (zaa oz0 (zaa ow0 zaE)))))))))))))) (fun a S=>?_)
 refine wp_seq_k fun K1 hK1=>?_
 refine zac ?_
 refine ti S (cs:=(lP b0_ x0_ y0_ d0_ z0_ w0_)) (zas rfl (S.at 0 rfl) rfl) (fun g1=>[⟨g1,53,(lP b0_ x0_ y0_ d0_ z0_ w0_)⟩]) fun g1 a V1 hgg1 S=>?_
 refine ti S (cs:=(lP b1_ x1_ y1_ d1_ z1_ w1_)) (zas rfl (S.at 2 rfl) rfl) (fun g2=>[⟨g1,53,(lP b0_ x0_ y0_ d0_ z0_ w0_)⟩,⟨g2,53,(lP b1_ x1_ y1_ d1_ z1_ w1_)⟩]) fun g2 a V2 hgg2 S=>?_
 refine ti S (cs:=(lP b2_ x2_ y2_ d2_ z2_ w2_)) (zas rfl (S.at 4 rfl) rfl) (fun g3=>[⟨g1,53,(lP b0_ x0_ y0_ d0_ z0_ w0_)⟩,⟨g2,53,(lP b1_ x1_ y1_ d1_ z1_ w1_)⟩,⟨g3,53,(lP b2_ x2_ y2_ d2_ z2_ w2_)⟩]) fun g3 a V3 hgg3 S=>?_
 refine ti S (cs:=(aL b3_ x3_ y3_)) (zas rfl (S.at 6 rfl) rfl) (fun g4=>[⟨g1,53,(lP b0_ x0_ y0_ d0_ z0_ w0_)⟩,⟨g2,53,(lP b1_ x1_ y1_ d1_ z1_ w1_)⟩,⟨g3,53,(lP b2_ x2_ y2_ d2_ z2_ w2_)⟩,⟨g4,27,(aL b3_ x3_ y3_)⟩]) fun g4 a V4 hgg4 S=>?_
 refine tv S (zaB rfl) fun a S=>?_
 refine hK1 _ _ ?_
 refine wp_seq_k fun K2 hK2=>?_
 refine wp_seq_k fun K3 hK3=>?_
 refine zac ?_
 refine tv S (zab rfl (S.at 4 rfl) (S.bx 0 rfl) Tryz.underlying53 rfl (vs:=(lP b0_ x0_ y0_ d0_ z0_ w0_)) zak rfl) fun a S=>?_
 refine tv S (zab rfl (S.at 4 rfl) (S.bx 1 rfl) Tryz.underlying53 rfl (vs:=(lP b1_ x1_ y1_ d1_ z1_ w1_)) zak rfl) fun a S=>?_
 refine tv S (zab rfl (S.at 4 rfl) (S.bx 2 rfl) Tryz.underlying53 rfl (vs:=(lP b2_ x2_ y2_ d2_ z2_ w2_)) zak rfl) fun a S=>?_
 refine ty S (F:=GP ([(b0_,x0_,y0_,d0_,z0_,w0_),(b1_,x1_,y1_,d1_,z1_,w1_),(b2_,x2_,y2_,d2_,z2_,w2_)])) (zbZ rfl (S.at 2 rfl) (S.at 1 rfl) (S.at 0 rfl) (S.num 10 rfl) (S.num 11 rfl) (S.num 12 rfl) (S.num 13 rfl) (S.num 6 rfl) (S.num 7 rfl) (S.num 8 rfl) (S.num 9 rfl) (S.num 2 rfl) (S.num 3 rfl) (S.num 4 rfl) (S.num 5 rfl)) fun v a V5 hF hb S=>?_
 obtain ⟨ov1,hov1⟩: ∃z,z=v:=⟨_,rfl⟩
 rw [←hov1] at hF S
 have rov1:=hF
 refine tc S (F:=(fun v _=>v= .bool false)) (rc1 Tryz.func75 (S.at 0 rfl)) (zdh rov1 hL) fun v a V6 hF hb S=>?_
 replace rov1:=rov1.keep hb
 subst hF
 refine tv S (zad rfl (S.at 0 rfl)) fun a S=>?_
 refine tvg S (S.at 0 rfl) (zae rfl (S.at 7 rfl) (za8 _)) fun a S=>?_
 refine tvg S (S.at 1 rfl) (zae rfl (S.at 0 rfl) (zbI _)) fun a S=>?_
 refine tvg S (S.at 2 rfl) (zav rfl (S.at 0 rfl) (S.bx 3 rfl) (Tryz.isAgg23 _) rfl) fun a S=>?_
 refine tvg S (S.at 3 rfl) (zbJ (by decide) rfl (S.at 0 rfl)) fun a S=>?_
 refine tvg S (S.at 4 rfl) (zae rfl (S.at 11 rfl) (za2 _)) fun a S=>?_
 refine tvg S (S.at 5 rfl) (zav rfl (S.at 0 rfl) (S.bx 3 rfl) (Tryz.isAgg23 _) rfl) fun a S=>?_
 refine tvg S (S.at 6 rfl) (zbJ (by decide) rfl (S.at 0 rfl)) fun a S=>?_
 refine tvg S (S.at 7 rfl) (zf7 rfl (S.at 3 rfl) (S.at 0 rfl)) fun a S=>?_
 refine tvg S (S.at 8 rfl) (zaQ (zc6 rfl (S.at 0 rfl) rfl) (show (decide (3<((max x3_.n y3_.n:Nat):Int)))=true from hT3)) fun a S=>?_
 refine tv S (zaq false rfl (S.at 9 rfl) (S.at 0 rfl)) fun a S=>?_
 refine hK3 _ _ ?_
 refine wp_cond_true (S.at 0 rfl) ?_
 refine wp_seq_k fun K4 hK4=>?_
 have S:=S.keep [8] (ls':=[(8,.bool false)]) rfl
 refine zac ?_
 refine tc S (F:=(fun v _=>v= .bool true)) (rc0 Tryz.func47) (zb5 (T.keep S.below)) fun v a V7 hF hb S=>?_
 subst hF
 refine zbe S (v:= .bool true) (zan rfl (S.at 0 rfl)) rfl rfl (by decide) (ls':=[(28,.bool true)]) rfl (fun a S=>?_)
 refine hK4 _ _ ?_
 refine wp_ret ?_
 exact zaO rfl S (S.at 0 rfl) ⟨_,rfl,rfl,S.below⟩
theorem zjK (b0_:Bool) (x0_ y0_:Num) (d0_:Bool) (z0_ w0_:Num) (b1_:Bool) (x1_ y1_:Num) (d1_:Bool) (z1_ w1_:Num) (b2_:Bool) (x2_ y2_:Num) (d2_:Bool) (z2_ w2_:Num) (b3_:Bool) (x3_ y3_:Num) {V:World} (T:TT V) (ox0:x0_.ok V V.heap.size) (oy0:y0_.ok V V.heap.size) (oz0:z0_.ok V V.heap.size) (ow0:w0_.ok V V.heap.size) (ox1:x1_.ok V V.heap.size) (oy1:y1_.ok V V.heap.size) (oz1:z1_.ok V V.heap.size) (ow1:w1_.ok V V.heap.size) (ox2:x2_.ok V V.heap.size) (oy2:y2_.ok V V.heap.size) (oz2:z2_.ok V V.heap.size) (ow2:w2_.ok V V.heap.size) (ox3:x3_.ok V V.heap.size) (oy3:y3_.ok V V.heap.size) (hL:zcS [(b0_,x0_,y0_,d0_,z0_,w0_),(b1_,x1_,y1_,d1_,z1_,w1_),(b2_,x2_,y2_,d2_,z2_,w2_)]=true):
  Calls Tryz.prog 6 #[(aP b0_ x0_ y0_ d0_ z0_ w0_),(aP b1_ x1_ y1_ d1_ z1_ w1_),(aP b2_ x2_ y2_ d2_ z2_ w2_),(aG b3_ x3_ y3_)] V (zal V (fun v _=>v= .bool true)):=by
 obtain ⟨q0,hqa0⟩: ∃q,qOf b0_ x0_.N y0_.N=q:=⟨_,rfl⟩
 obtain ⟨r0,hra0⟩: ∃q,qOf d0_ z0_.N w0_.N=q:=⟨_,rfl⟩
 obtain ⟨q1,hqa1⟩: ∃q,qOf b1_ x1_.N y1_.N=q:=⟨_,rfl⟩
 obtain ⟨r1,hra1⟩: ∃q,qOf d1_ z1_.N w1_.N=q:=⟨_,rfl⟩
 obtain ⟨q2,hqa2⟩: ∃q,qOf b2_ x2_.N y2_.N=q:=⟨_,rfl⟩
 obtain ⟨r2,hra2⟩: ∃q,qOf d2_ z2_.N w2_.N=q:=⟨_,rfl⟩
 obtain ⟨q3,hqa3⟩: ∃q,qOf b3_ x3_.N y3_.N=q:=⟨_,rfl⟩
 refine zar (e:=[x3_,y3_,x2_,y2_,z2_,w2_,x1_,y1_,z1_,w1_,x0_,y0_,z0_,w0_]) Tryz.func6 rfl Tryz.ntmps6 (Nat.le_of_ble_eq_true rfl) [(0,(aP b0_ x0_ y0_ d0_ z0_ w0_)),(1,(aP b1_ x1_ y1_ d1_ z1_ w1_)),(2,(aP b2_ x2_ y2_ d2_ z2_ w2_)),(3,(aG b3_ x3_ y3_))] rfl (zaa ox3 (zaa oy3 (zaa ox2 (zaa oy2 (zaa oz2 (zaa ow2 (zaa ox1 (zaa oy1 (zaa oz1 (zaa ow1 (zaa ox0 (zaa oy0 (zaa oz0 (zaa ow0 zaE)))))))))))))) (fun a S=>?_)
 refine wp_seq_k fun K1 hK1=>?_
 refine zac ?_
 refine ti S (cs:=(lP b0_ x0_ y0_ d0_ z0_ w0_)) (zas rfl (S.at 0 rfl) rfl) (fun g1=>[⟨g1,53,(lP b0_ x0_ y0_ d0_ z0_ w0_)⟩]) fun g1 a V1 hgg1 S=>?_
 refine ti S (cs:=(lP b1_ x1_ y1_ d1_ z1_ w1_)) (zas rfl (S.at 2 rfl) rfl) (fun g2=>[⟨g1,53,(lP b0_ x0_ y0_ d0_ z0_ w0_)⟩,⟨g2,53,(lP b1_ x1_ y1_ d1_ z1_ w1_)⟩]) fun g2 a V2 hgg2 S=>?_
 refine ti S (cs:=(lP b2_ x2_ y2_ d2_ z2_ w2_)) (zas rfl (S.at 4 rfl) rfl) (fun g3=>[⟨g1,53,(lP b0_ x0_ y0_ d0_ z0_ w0_)⟩,⟨g2,53,(lP b1_ x1_ y1_ d1_ z1_ w1_)⟩,⟨g3,53,(lP b2_ x2_ y2_ d2_ z2_ w2_)⟩]) fun g3 a V3 hgg3 S=>?_
 refine ti S (cs:=(aL b3_ x3_ y3_)) (zas rfl (S.at 6 rfl) rfl) (fun g4=>[⟨g1,53,(lP b0_ x0_ y0_ d0_ z0_ w0_)⟩,⟨g2,53,(lP b1_ x1_ y1_ d1_ z1_ w1_)⟩,⟨g3,53,(lP b2_ x2_ y2_ d2_ z2_ w2_)⟩,⟨g4,27,(aL b3_ x3_ y3_)⟩]) fun g4 a V4 hgg4 S=>?_
 refine tv S (zaB rfl) fun a S=>?_
 refine hK1 _ _ ?_
 refine wp_seq_k fun K2 hK2=>?_
 refine wp_seq_k fun K3 hK3=>?_
 refine zac ?_
 refine tv S (zab rfl (S.at 4 rfl) (S.bx 0 rfl) Tryz.underlying53 rfl (vs:=(lP b0_ x0_ y0_ d0_ z0_ w0_)) zak rfl) fun a S=>?_
 refine tv S (zab rfl (S.at 4 rfl) (S.bx 1 rfl) Tryz.underlying53 rfl (vs:=(lP b1_ x1_ y1_ d1_ z1_ w1_)) zak rfl) fun a S=>?_
 refine tv S (zab rfl (S.at 4 rfl) (S.bx 2 rfl) Tryz.underlying53 rfl (vs:=(lP b2_ x2_ y2_ d2_ z2_ w2_)) zak rfl) fun a S=>?_
 refine ty S (F:=GP ([(b0_,x0_,y0_,d0_,z0_,w0_),(b1_,x1_,y1_,d1_,z1_,w1_),(b2_,x2_,y2_,d2_,z2_,w2_)])) (zbZ rfl (S.at 2 rfl) (S.at 1 rfl) (S.at 0 rfl) (S.num 10 rfl) (S.num 11 rfl) (S.num 12 rfl) (S.num 13 rfl) (S.num 6 rfl) (S.num 7 rfl) (S.num 8 rfl) (S.num 9 rfl) (S.num 2 rfl) (S.num 3 rfl) (S.num 4 rfl) (S.num 5 rfl)) fun v a V5 hF hb S=>?_
 obtain ⟨ov1,hov1⟩: ∃z,z=v:=⟨_,rfl⟩
 rw [←hov1] at hF S
 have rov1:=hF
 refine tc S (F:=(fun v _=>v= .bool true)) (rc1 Tryz.func75 (S.at 0 rfl)) (zdh rov1 hL) fun v a V6 hF hb S=>?_
 replace rov1:=rov1.keep hb
 subst hF
 refine tv S (zad rfl (S.at 0 rfl)) fun a S=>?_
 refine tk S (S.at 0 rfl) fun a S=>?_
 refine tk S (S.at 1 rfl) fun a S=>?_
 refine tk S (S.at 2 rfl) fun a S=>?_
 refine tk S (S.at 3 rfl) fun a S=>?_
 refine tk S (S.at 4 rfl) fun a S=>?_
 refine tk S (S.at 5 rfl) fun a S=>?_
 refine tk S (S.at 6 rfl) fun a S=>?_
 refine tk S (S.at 7 rfl) fun a S=>?_
 refine tk S (S.at 8 rfl) fun a S=>?_
 refine tv S (zaq true rfl (S.at 9 rfl) rfl) fun a S=>?_
 refine hK3 _ _ ?_
 refine wp_cond_true (S.at 0 rfl) ?_
 refine wp_seq_k fun K4 hK4=>?_
 have S:=S.keep [8] (ls':=[(8,.bool false)]) rfl
 refine zac ?_
 refine tc S (F:=(fun v _=>v= .bool true)) (rc0 Tryz.func47) (zb5 (T.keep S.below)) fun v a V7 hF hb S=>?_
 subst hF
 refine zbe S (v:= .bool true) (zan rfl (S.at 0 rfl)) rfl rfl (by decide) (ls':=[(28,.bool true)]) rfl (fun a S=>?_)
 refine hK4 _ _ ?_
 refine wp_ret ?_
 exact zaO rfl S (S.at 0 rfl) ⟨_,rfl,rfl,S.below⟩
end Go.Proofs.YtafokgknenienaaGreatDoor
