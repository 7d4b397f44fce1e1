/- A part of the proof. -/
import Derived.Test.YtafokgknenienaaGreatDoorGVVecL
set_option maxHeartbeats 4000000
set_option maxRecDepth 100000
namespace Go.Proofs.YtafokgknenienaaGreatDoor
open Go Go.RowKit
theorem zo4 (b0_:Bool) (x0_ y0_:Num) (d0_:Bool) (z0_ w0_:Num) (b1_:Bool) (x1_ y1_:Num) (d1_:Bool) (z1_ w1_:Num) (b2_:Bool) (x2_ y2_:Num) (d2_:Bool) (z2_ w2_:Num) (b3_:Bool) (x3_ y3_:Num) {V:World} (T:TT V) (ox0:x0_.ok V V.heap.size) (oy0:y0_.ok V V.heap.size) (oz0:z0_.ok V V.heap.size) (ow0:w0_.ok V V.heap.size) (ox1:x1_.ok V V.heap.size) (oy1:y1_.ok V V.heap.size) (oz1:z1_.ok V V.heap.size) (ow1:w1_.ok V V.heap.size) (ox2:x2_.ok V V.heap.size) (oy2:y2_.ok V V.heap.size) (oz2:z2_.ok V V.heap.size) (ow2:w2_.ok V V.heap.size) (ox3:x3_.ok V V.heap.size) (oy3:y3_.ok V V.heap.size) (hL:zcS [(b0_,x0_,y0_,d0_,z0_,w0_),(b1_,x1_,y1_,d1_,z1_,w1_),(b2_,x2_,y2_,d2_,z2_,w2_)]=false) (hT3:decide ((3:Int)<((max x3_.n y3_.n:Nat):Int))=false):
  Calls Tryz.prog 7 #[(aP b0_ x0_ y0_ d0_ z0_ w0_),(aP b1_ x1_ y1_ d1_ z1_ w1_),(aP b2_ x2_ y2_ d2_ z2_ w2_),(aG b3_ x3_ y3_)] V (zal V (fun v _=>v= .bool true)):=by
 obtain ⟨hL0,hL1,hL2⟩:=zd7 hL
 obtain ⟨hkx0,hky0,hkz0,hkw0⟩:=zbX hL0
 obtain ⟨hkx1,hky1,hkz1,hkw1⟩:=zbX hL1
 obtain ⟨hkx2,hky2,hkz2,hkw2⟩:=zbX hL2
 have hkx3:x3_.n≤3:=by have:=of_decide_eq_false hT3;omega
 have hky3:y3_.n≤3:=by have:=of_decide_eq_false hT3;omega
 obtain ⟨q0,hqa0⟩: ∃q,qOf b0_ x0_.N y0_.N=q:=⟨_,rfl⟩
 obtain ⟨r0,hra0⟩: ∃q,qOf d0_ z0_.N w0_.N=q:=⟨_,rfl⟩
 obtain ⟨q1,hqa1⟩: ∃q,qOf b1_ x1_.N y1_.N=q:=⟨_,rfl⟩
 obtain ⟨r1,hra1⟩: ∃q,qOf d1_ z1_.N w1_.N=q:=⟨_,rfl⟩
 obtain ⟨q2,hqa2⟩: ∃q,qOf b2_ x2_.N y2_.N=q:=⟨_,rfl⟩
 obtain ⟨r2,hra2⟩: ∃q,qOf d2_ z2_.N w2_.N=q:=⟨_,rfl⟩
 obtain ⟨q3,hqa3⟩: ∃q,qOf b3_ x3_.N y3_.N=q:=⟨_,rfl⟩
 refine zar (e:=[x3_,y3_,x2_,y2_,z2_,w2_,x1_,y1_,z1_,w1_,x0_,y0_,z0_,w0_]) Tryz.func7 rfl Tryz.ntmps7 (Nat.le_of_ble_eq_true rfl) [(0,(aP b0_ x0_ y0_ d0_ z0_ w0_)),(1,(aP b1_ x1_ y1_ d1_ z1_ w1_)),(2,(aP b2_ x2_ y2_ d2_ z2_ w2_)),(3,(aG b3_ x3_ y3_))] rfl (zaa ox3 (zaa oy3 (zaa ox2 (zaa oy2 (zaa oz2 (zaa ow2 (zaa ox1 (zaa oy1 (zaa oz1 (zaa ow1 (zaa ox0 (zaa oy0 (zaa oz0 (zaa ow0 zaE)))))))))))))) (fun a S=>?_)
 refine wp_seq_k fun K1 hK1=>?_
 refine zac ?_
 refine ti S (cs:=(lP b0_ x0_ y0_ d0_ z0_ w0_)) (zas rfl (S.at 0 rfl) rfl) (fun g1=>[⟨g1,53,(lP b0_ x0_ y0_ d0_ z0_ w0_)⟩]) fun g1 a V1 hgg1 S=>?_
 refine ti S (cs:=(lP b1_ x1_ y1_ d1_ z1_ w1_)) (zas rfl (S.at 2 rfl) rfl) (fun g2=>[⟨g1,53,(lP b0_ x0_ y0_ d0_ z0_ w0_)⟩,⟨g2,53,(lP b1_ x1_ y1_ d1_ z1_ w1_)⟩]) fun g2 a V2 hgg2 S=>?_
 refine ti S (cs:=(lP b2_ x2_ y2_ d2_ z2_ w2_)) (zas rfl (S.at 4 rfl) rfl) (fun g3=>[⟨g1,53,(lP b0_ x0_ y0_ d0_ z0_ w0_)⟩,⟨g2,53,(lP b1_ x1_ y1_ d1_ z1_ w1_)⟩,⟨g3,53,(lP b2_ x2_ y2_ d2_ z2_ w2_)⟩]) fun g3 a V3 hgg3 S=>?_
 refine ti S (cs:=(aL b3_ x3_ y3_)) (zas rfl (S.at 6 rfl) rfl) (fun g4=>[⟨g1,53,(lP b0_ x0_ y0_ d0_ z0_ w0_)⟩,⟨g2,53,(lP b1_ x1_ y1_ d1_ z1_ w1_)⟩,⟨g3,53,(lP b2_ x2_ y2_ d2_ z2_ w2_)⟩,⟨g4,27,(aL b3_ x3_ y3_)⟩]) fun g4 a V4 hgg4 S=>?_
 refine tv S (zaB rfl) fun a S=>?_
 refine hK1 _ _ ?_
 refine wp_seq_k fun K2 hK2=>?_
 refine wp_seq_k fun K3 hK3=>?_
 refine zac ?_
 refine tv S (zab rfl (S.at 4 rfl) (S.bx 0 rfl) Tryz.underlying53 rfl (vs:=(lP b0_ x0_ y0_ d0_ z0_ w0_)) zak rfl) fun a S=>?_
 refine tv S (zab rfl (S.at 4 rfl) (S.bx 1 rfl) Tryz.underlying53 rfl (vs:=(lP b1_ x1_ y1_ d1_ z1_ w1_)) zak rfl) fun a S=>?_
 refine tv S (zab rfl (S.at 4 rfl) (S.bx 2 rfl) Tryz.underlying53 rfl (vs:=(lP b2_ x2_ y2_ d2_ z2_ w2_)) zak rfl) fun a S=>?_
 refine ty S (F:=GP ([(b0_,x0_,y0_,d0_,z0_,w0_),(b1_,x1_,y1_,d1_,z1_,w1_),(b2_,x2_,y2_,d2_,z2_,w2_)])) (zbZ rfl (S.at 2 rfl) (S.at 1 rfl) (S.at 0 rfl) (S.num 10 rfl) (S.num 11 rfl) (S.num 12 rfl) (S.num 13 rfl) (S.num 6 rfl) (S.num 7 rfl) (S.num 8 rfl) (S.num 9 rfl) (S.num 2 rfl) (S.num 3 rfl) (S.num 4 rfl) (S.num 5 rfl)) fun v a V5 hF hb S=>?_
 obtain ⟨ov1,hov1⟩: ∃z,z=v:=⟨_,rfl⟩
 rw [←hov1] at hF S
 have rov1:=hF
 refine tc S (F:=(fun v _=>v= .bool false)) (rc1 Tryz.func75 (S.at 0 rfl)) (zdh rov1 hL) fun v a V6 hF hb S=>?_
 replace rov1:=rov1.keep hb
 subst hF
 refine tv S (zad rfl (S.at 0 rfl)) fun a S=>?_
 refine tvg S (S.at 0 rfl) (zae rfl (S.at 7 rfl) (za8 _)) fun a S=>?_
 refine tvg S (S.at 1 rfl) (zae rfl (S.at 0 rfl) (zbI _)) fun a S=>?_
 refine tvg S (S.at 2 rfl) (zav rfl (S.at 0 rfl) (S.bx 3 rfl) (Tryz.isAgg23 _) rfl) fun a S=>?_
 refine tvg S (S.at 3 rfl) (zbJ (by decide) rfl (S.at 0 rfl)) fun a S=>?_
 refine tvg S (S.at 4 rfl) (zae rfl (S.at 11 rfl) (za2 _)) fun a S=>?_
 refine tvg S (S.at 5 rfl) (zav rfl (S.at 0 rfl) (S.bx 3 rfl) (Tryz.isAgg23 _) rfl) fun a S=>?_
 refine tvg S (S.at 6 rfl) (zbJ (by decide) rfl (S.at 0 rfl)) fun a S=>?_
 refine tvg S (S.at 7 rfl) (zf7 rfl (S.at 3 rfl) (S.at 0 rfl)) fun a S=>?_
 refine tvg S (S.at 8 rfl) (zaQ (zc6 rfl (S.at 0 rfl) rfl) (show (decide (3<((max x3_.n y3_.n:Nat):Int)))=false from hT3)) fun a S=>?_
 refine tv S (zaq false rfl (S.at 9 rfl) (S.at 0 rfl)) fun a S=>?_
 refine hK3 _ _ ?_
 refine wp_cond_false (S.at 0 rfl) ?_
 refine wp_skip ?_
 refine hK2 _ _ ?_
 refine wp_seq_k fun K4 hK4=>?_
 refine wp_seq_k fun K5 hK5=>?_
 have S:=S.keep [7,6,5,4] (ls':=[(7,pT g4 0),(6,pT g3 0),(5,pT g2 0),(4,pT g1 0)]) rfl
 obtain ⟨W1,hW1⟩: ∃W,W=V6:=⟨_,rfl⟩
 rw [←hW1] at S ⊢
 have S0:=S
 refine fr 35 [29,30,31,32,33,34,35,36,37,38,39,40,41,42,43,44,45,46,47,48,49,50,51,52,53,54,55,56,57,58,59,60,61,62,63] [IsV ((aP b0_ x0_ y0_ d0_ z0_ w0_)),IsV ((aP b1_ x1_ y1_ d1_ z1_ w1_)),QT 2 ((0:Int)),PT 13 (q0+(q1 - q0)*(0:Int)) (r0+(r1 - r0)*(0:Int)),IsV ((aP b0_ x0_ y0_ d0_ z0_ w0_)),IsV (.bool true),IsV (.bool false),IsV (.bool false),IsV ((aP b0_ x0_ y0_ d0_ z0_ w0_)),IsV ((aP b1_ x1_ y1_ d1_ z1_ w1_)),QT 2 ((1:Int)),PT 13 (q0+(q1 - q0)*(1:Int)) (r0+(r1 - r0)*(1:Int)),IsV ((aP b1_ x1_ y1_ d1_ z1_ w1_)),IsV (.bool true),IsV (.bool false),IsV (.bool false),IsV (.bool false),IsV ((aP b0_ x0_ y0_ d0_ z0_ w0_)),IsV ((aP b1_ x1_ y1_ d1_ z1_ w1_)),PT 7 (q0 - q1) (r0 - r1),IsV ((aP b1_ x1_ y1_ d1_ z1_ w1_)),PT 11 ((q0 - q1)+q1) ((r0 - r1)+r1),IsV ((aP b0_ x0_ y0_ d0_ z0_ w0_)),IsV (.bool true),IsV (.bool false),IsV (.bool false),IsV (.bool false),IsV ((aP b0_ x0_ y0_ d0_ z0_ w0_)),IsV ((aP b0_ x0_ y0_ d0_ z0_ w0_)),PT 3 (-q0) (-r0),PT 7 (q0+(-q0)) (r0+(-r0)),PT 2 (((0:Int):Rat)) (((0:Int):Rat)),IsV (.bool true),IsV (.bool false),IsV (.bool false)] S ?_ ?_
 ·refine sc (fun _ _ S _ _=>sv rfl (zab rfl (S.at 3 rfl) (S.bx 0 rfl) Tryz.underlying53 rfl (vs:=(lP b0_ x0_ y0_ d0_ z0_ w0_)) zak rfl)) ?_
  refine sc (fun _ _ S _ _=>sv rfl (zab rfl (S.at 2 rfl) (S.bx 1 rfl) Tryz.underlying53 rfl (vs:=(lP b1_ x1_ y1_ d1_ z1_ w1_)) zak rfl)) ?_
  refine sc (fun _ _ _ _ _=>sl rfl (rcc Tryz.func23) (zeq (n:=0) (by decide))) ?_
  refine sc (fun _ _ S _ hd=>sl rfl (rc3 Tryz.func57 (hd.v 0 rfl rfl) (hd.v 1 rfl rfl) rfl) (vAt (T.keep S.below) (show P1 3 (q0) (r0) ((aP b0_ x0_ y0_ d0_ z0_ w0_)) _ from ⟨b0_,x0_,y0_,d0_,z0_,w0_,rfl,hqa0,hra0,⟨hkx0,hky0⟩,⟨hkz0,hkw0⟩,⟨(S.num 10 rfl),(S.num 11 rfl)⟩,(S.num 12 rfl),(S.num 13 rfl)⟩) (show P1 3 (q1) (r1) ((aP b1_ x1_ y1_ d1_ z1_ w1_)) _ from ⟨b1_,x1_,y1_,d1_,z1_,w1_,rfl,hqa1,hra1,⟨hkx1,hky1⟩,⟨hkz1,hkw1⟩,⟨(S.num 6 rfl),(S.num 7 rfl)⟩,(S.num 8 rfl),(S.num 9 rfl)⟩) ((hd.r 2 rfl rfl)).any (by omega) (by omega) (by omega))) ?_
  refine sc (fun _ _ S _ _=>sv rfl (zab rfl (S.at 3 rfl) (S.bx 0 rfl) Tryz.underlying53 rfl (vs:=(lP b0_ x0_ y0_ d0_ z0_ w0_)) zak rfl)) ?_
  refine sc (fun _ _ S _ hd=>sl rfl (rc2 Tryz.func70 rfl (hd.v 4 rfl rfl)) (zbb (zc8 (T.keep S.below) ((hd.r 3 rfl rfl)).any (show P1 3 (q0) (r0) ((aP b0_ x0_ y0_ d0_ z0_ w0_)) _ from ⟨b0_,x0_,y0_,d0_,z0_,w0_,rfl,hqa0,hra0,⟨hkx0,hky0⟩,⟨hkz0,hkw0⟩,⟨(S.num 10 rfl),(S.num 11 rfl)⟩,(S.num 12 rfl),(S.num 13 rfl)⟩) (by omega) (by omega)) (fun _ _ h=>h.trans (congrArg Value.bool (show (decide (zaT (q0+(q1 - q0)*(0:Int)) (r0+(r1 - r0)*(0:Int)) q0 r0=0))=true from (zbo (by grind) (by grind))))))) ?_
  refine sc (fun _ _ _ _ hd=>sv rfl (zb3 (b:=true) rfl (hd.v 5 rfl rfl))) ?_
  refine sc (fun _ _ _ _ hd=>sv rfl (zad rfl (hd.v 6 rfl rfl))) ?_
  refine sc (fun _ _ S _ hd=>svg rfl (hd.v 7 rfl rfl) (zab rfl (S.at 3 rfl) (S.bx 0 rfl) Tryz.underlying53 rfl (vs:=(lP b0_ x0_ y0_ d0_ z0_ w0_)) zak rfl)) ?_
  refine sc (fun _ _ S _ hd=>svg rfl (hd.v 7 rfl rfl) (zab rfl (S.at 2 rfl) (S.bx 1 rfl) Tryz.underlying53 rfl (vs:=(lP b1_ x1_ y1_ d1_ z1_ w1_)) zak rfl)) ?_
  refine sc (fun _ _ _ _ hd=>slg rfl (hd.v 7 rfl rfl) (rcc Tryz.func23) (zeq (n:=1) (by decide))) ?_
  refine sc (fun _ _ S _ hd=>slg rfl (hd.v 7 rfl rfl) (rc3 Tryz.func57 (hd.v 8 rfl rfl) (hd.v 9 rfl rfl) rfl) (vAt (T.keep S.below) (show P1 3 (q0) (r0) ((aP b0_ x0_ y0_ d0_ z0_ w0_)) _ from ⟨b0_,x0_,y0_,d0_,z0_,w0_,rfl,hqa0,hra0,⟨hkx0,hky0⟩,⟨hkz0,hkw0⟩,⟨(S.num 10 rfl),(S.num 11 rfl)⟩,(S.num 12 rfl),(S.num 13 rfl)⟩) (show P1 3 (q1) (r1) ((aP b1_ x1_ y1_ d1_ z1_ w1_)) _ from ⟨b1_,x1_,y1_,d1_,z1_,w1_,rfl,hqa1,hra1,⟨hkx1,hky1⟩,⟨hkz1,hkw1⟩,⟨(S.num 6 rfl),(S.num 7 rfl)⟩,(S.num 8 rfl),(S.num 9 rfl)⟩) ((hd.r 10 rfl rfl)).any (by omega) (by omega) (by omega))) ?_
  refine sc (fun _ _ S _ hd=>svg rfl (hd.v 7 rfl rfl) (zab rfl (S.at 2 rfl) (S.bx 1 rfl) Tryz.underlying53 rfl (vs:=(lP b1_ x1_ y1_ d1_ z1_ w1_)) zak rfl)) ?_
  refine sc (fun _ _ S _ hd=>slg rfl (hd.v 7 rfl rfl) (rc2 Tryz.func70 rfl (hd.v 12 rfl rfl)) (zbb (zc8 (T.keep S.below) ((hd.r 11 rfl rfl)).any (show P1 3 (q1) (r1) ((aP b1_ x1_ y1_ d1_ z1_ w1_)) _ from ⟨b1_,x1_,y1_,d1_,z1_,w1_,rfl,hqa1,hra1,⟨hkx1,hky1⟩,⟨hkz1,hkw1⟩,⟨(S.num 6 rfl),(S.num 7 rfl)⟩,(S.num 8 rfl),(S.num 9 rfl)⟩) (by omega) (by omega)) (fun _ _ h=>h.trans (congrArg Value.bool (show (decide (zaT (q0+(q1 - q0)*(1:Int)) (r0+(r1 - r0)*(1:Int)) q1 r1=0))=true from (zbo (by grind) (by grind))))))) ?_
  refine sc (fun _ _ _ _ hd=>svg rfl (hd.v 7 rfl rfl) (zb3 (b:=true) rfl (hd.v 13 rfl rfl))) ?_
  refine sc (fun _ _ _ _ hd=>sv rfl (zaq false rfl (hd.v 7 rfl rfl) (hd.v 14 rfl rfl))) ?_
  refine sc (fun _ _ _ _ hd=>sv rfl (zad rfl (hd.v 15 rfl rfl))) ?_
  refine sc (fun _ _ S _ hd=>svg rfl (hd.v 16 rfl rfl) (zab rfl (S.at 3 rfl) (S.bx 0 rfl) Tryz.underlying53 rfl (vs:=(lP b0_ x0_ y0_ d0_ z0_ w0_)) zak rfl)) ?_
  refine sc (fun _ _ S _ hd=>svg rfl (hd.v 16 rfl rfl) (zab rfl (S.at 2 rfl) (S.bx 1 rfl) Tryz.underlying53 rfl (vs:=(lP b1_ x1_ y1_ d1_ z1_ w1_)) zak rfl)) ?_
  refine sc (fun _ _ S _ hd=>slg rfl (hd.v 16 rfl rfl) (rc2 Tryz.func51 (hd.v 17 rfl rfl) (hd.v 18 rfl rfl)) (zpf (T.keep S.below) (show P1 3 (q0) (r0) ((aP b0_ x0_ y0_ d0_ z0_ w0_)) _ from ⟨b0_,x0_,y0_,d0_,z0_,w0_,rfl,hqa0,hra0,⟨hkx0,hky0⟩,⟨hkz0,hkw0⟩,⟨(S.num 10 rfl),(S.num 11 rfl)⟩,(S.num 12 rfl),(S.num 13 rfl)⟩) (show P1 3 (q1) (r1) ((aP b1_ x1_ y1_ d1_ z1_ w1_)) _ from ⟨b1_,x1_,y1_,d1_,z1_,w1_,rfl,hqa1,hra1,⟨hkx1,hky1⟩,⟨hkz1,hkw1⟩,⟨(S.num 6 rfl),(S.num 7 rfl)⟩,(S.num 8 rfl),(S.num 9 rfl)⟩) (by omega) (by omega))) ?_
  refine sc (fun _ _ S _ hd=>svg rfl (hd.v 16 rfl rfl) (zab rfl (S.at 2 rfl) (S.bx 1 rfl) Tryz.underlying53 rfl (vs:=(lP b1_ x1_ y1_ d1_ z1_ w1_)) zak rfl)) ?_
  refine sc (fun _ _ S _ hd=>slg rfl (hd.v 16 rfl rfl) (rc2 Tryz.func49 rfl (hd.v 20 rfl rfl)) (zgN (T.keep S.below) ((hd.r 19 rfl rfl)).any (show P1 3 (q1) (r1) ((aP b1_ x1_ y1_ d1_ z1_ w1_)) _ from ⟨b1_,x1_,y1_,d1_,z1_,w1_,rfl,hqa1,hra1,⟨hkx1,hky1⟩,⟨hkz1,hkw1⟩,⟨(S.num 6 rfl),(S.num 7 rfl)⟩,(S.num 8 rfl),(S.num 9 rfl)⟩) (by omega) (by omega))) ?_
  refine sc (fun _ _ S _ hd=>svg rfl (hd.v 16 rfl rfl) (zab rfl (S.at 3 rfl) (S.bx 0 rfl) Tryz.underlying53 rfl (vs:=(lP b0_ x0_ y0_ d0_ z0_ w0_)) zak rfl)) ?_
  refine sc (fun _ _ S _ hd=>slg rfl (hd.v 16 rfl rfl) (rc2 Tryz.func70 rfl (hd.v 22 rfl rfl)) (zbb (zc8 (T.keep S.below) ((hd.r 21 rfl rfl)).any (show P1 3 (q0) (r0) ((aP b0_ x0_ y0_ d0_ z0_ w0_)) _ from ⟨b0_,x0_,y0_,d0_,z0_,w0_,rfl,hqa0,hra0,⟨hkx0,hky0⟩,⟨hkz0,hkw0⟩,⟨(S.num 10 rfl),(S.num 11 rfl)⟩,(S.num 12 rfl),(S.num 13 rfl)⟩) (by omega) (by omega)) (fun _ _ h=>h.trans (congrArg Value.bool (show (decide (zaT ((q0 - q1)+q1) ((r0 - r1)+r1) q0 r0=0))=true from (zbo (by grind) (by grind))))))) ?_
  refine sc (fun _ _ _ _ hd=>svg rfl (hd.v 16 rfl rfl) (zb3 (b:=true) rfl (hd.v 23 rfl rfl))) ?_
  refine sc (fun _ _ _ _ hd=>sv rfl (zaq false rfl (hd.v 16 rfl rfl) (hd.v 24 rfl rfl))) ?_
  refine sc (fun _ _ _ _ hd=>sv rfl (zad rfl (hd.v 25 rfl rfl))) ?_
  refine sc (fun _ _ S _ hd=>svg rfl (hd.v 26 rfl rfl) (zab rfl (S.at 3 rfl) (S.bx 0 rfl) Tryz.underlying53 rfl (vs:=(lP b0_ x0_ y0_ d0_ z0_ w0_)) zak rfl)) ?_
  refine sc (fun _ _ S _ hd=>svg rfl (hd.v 26 rfl rfl) (zab rfl (S.at 3 rfl) (S.bx 0 rfl) Tryz.underlying53 rfl (vs:=(lP b0_ x0_ y0_ d0_ z0_ w0_)) zak rfl)) ?_
  refine sc (fun _ _ S _ hd=>slg rfl (hd.v 26 rfl rfl) (rc1 Tryz.func53 (hd.v 28 rfl rfl)) (zpg (T.keep S.below) (show P1 3 (q0) (r0) ((aP b0_ x0_ y0_ d0_ z0_ w0_)) _ from ⟨b0_,x0_,y0_,d0_,z0_,w0_,rfl,hqa0,hra0,⟨hkx0,hky0⟩,⟨hkz0,hkw0⟩,⟨(S.num 10 rfl),(S.num 11 rfl)⟩,(S.num 12 rfl),(S.num 13 rfl)⟩) (by omega))) ?_
  refine sc (fun _ _ S _ hd=>slg rfl (hd.v 26 rfl rfl) (rc2 Tryz.func49 (hd.v 27 rfl rfl) rfl) (zgN (T.keep S.below) (show P1 3 (q0) (r0) ((aP b0_ x0_ y0_ d0_ z0_ w0_)) _ from ⟨b0_,x0_,y0_,d0_,z0_,w0_,rfl,hqa0,hra0,⟨hkx0,hky0⟩,⟨hkz0,hkw0⟩,⟨(S.num 10 rfl),(S.num 11 rfl)⟩,(S.num 12 rfl),(S.num 13 rfl)⟩) ((hd.r 29 rfl rfl)).any (by omega) (by omega))) ?_
  refine sc (fun _ _ _ _ hd=>slg rfl (hd.v 26 rfl rfl) (zfT Tryz.func59) (vOf (n:=0) (m:=0) (by decide))) ?_
  refine sc (fun _ _ S _ hd=>slg rfl (hd.v 26 rfl rfl) (rc2 Tryz.func70 rfl rfl) (zbb (zc8 (T.keep S.below) ((hd.r 30 rfl rfl)).any ((hd.r 31 rfl rfl)).any (by omega) (by omega)) (fun _ _ h=>h.trans (congrArg Value.bool (show (decide (zaT (q0+(-q0)) (r0+(-r0)) ((0:Int):Rat) ((0:Int):Rat)=0))=true from (zbo (by grind) (by grind))))))) ?_
  refine sc (fun _ _ _ _ hd=>svg rfl (hd.v 26 rfl rfl) (zb3 (b:=true) rfl (hd.v 32 rfl rfl))) ?_
  refine sc (fun _ _ _ _ hd=>sv rfl (zaq false rfl (hd.v 26 rfl rfl) (hd.v 33 rfl rfl))) ?_
  exact sn
 ·intro a1 V7 S hB hf
  have S:=S.add (hf.v 34 rfl rfl)
  clear hf S0
  show wpList _ _ _ [] _ _
  refine hK5 _ _ ?_
  refine wp_cond_false (S.at 0 rfl) ?_
  refine wp_skip ?_
  refine hK4 _ _ ?_
  refine wp_seq_k fun K6 hK6=>?_
  refine zac ?_
  refine tv S (zab rfl (S.at 4 rfl) (S.bx 0 rfl) Tryz.underlying53 rfl (vs:=(lP b0_ x0_ y0_ d0_ z0_ w0_)) zak rfl) fun a S=>?_
  refine tv S (zab rfl (S.at 4 rfl) (S.bx 1 rfl) Tryz.underlying53 rfl (vs:=(lP b1_ x1_ y1_ d1_ z1_ w1_)) zak rfl) fun a S=>?_
  refine tv S (zab rfl (S.at 3 rfl) (S.bx 3 rfl) Tryz.underlying27 rfl (vs:=(aL b3_ x3_ y3_)) zah rfl) fun a S=>?_
  refine tc S (F:=PT 14 (q0+(q1 - q0)*q3) (r0+(r1 - r0)*q3)) (rc3 Tryz.func57 (S.at 2 rfl) (S.at 1 rfl) (S.at 0 rfl)) (vAt (T.keep S.below) (show P1 3 (q0) (r0) ((aP b0_ x0_ y0_ d0_ z0_ w0_)) _ from ⟨b0_,x0_,y0_,d0_,z0_,w0_,rfl,hqa0,hra0,⟨hkx0,hky0⟩,⟨hkz0,hkw0⟩,⟨(S.num 10 rfl),(S.num 11 rfl)⟩,(S.num 12 rfl),(S.num 13 rfl)⟩) (show P1 3 (q1) (r1) ((aP b1_ x1_ y1_ d1_ z1_ w1_)) _ from ⟨b1_,x1_,y1_,d1_,z1_,w1_,rfl,hqa1,hra1,⟨hkx1,hky1⟩,⟨hkz1,hkw1⟩,⟨(S.num 6 rfl),(S.num 7 rfl)⟩,(S.num 8 rfl),(S.num 9 rfl)⟩) (show Q1 3 (q3) ((aG b3_ x3_ y3_)) _ from ⟨b3_,x3_,y3_,rfl,hqa3,hkx3,hky3,(S.num 0 rfl),(S.num 1 rfl)⟩) (by omega) (by omega) (by omega)) fun v a V8 hF hb S=>?_
  obtain ⟨b1,x1,y1,b2,x2,y2,rfl,hq1,hq2,⟨hk1,hk2⟩,⟨hk3,hk4⟩,⟨ok1,ok2⟩,ok3,ok4⟩:=hF
  have S:=S.know ok1
  have S:=S.know ok2
  have S:=S.know ok3
  have S:=S.know ok4
  refine ti S (cs:=[.bool false,.slice none 0 0,.slice none 0 0,.bool false,.slice none 0 0,.slice none 0 0]) (zau rfl (Tryz.zeroValue53 _) rfl) (fun g5=>[⟨g1,53,(lP b0_ x0_ y0_ d0_ z0_ w0_)⟩,⟨g2,53,(lP b1_ x1_ y1_ d1_ z1_ w1_)⟩,⟨g3,53,(lP b2_ x2_ y2_ d2_ z2_ w2_)⟩,⟨g4,27,(aL b3_ x3_ y3_)⟩,⟨g5,53,[.bool false,.slice none 0 0,.slice none 0 0,.bool false,.slice none 0 0,.slice none 0 0]⟩]) fun g5 a V9 hgg5 S=>?_
  refine zap S (i:=4) (vs:=(lP b1 x1 y1 b2 x2 y2)) rfl (fun ht=>zao rfl (S.at 0 rfl) (S.at 1 rfl) zak rfl (Nat.le_of_ble_eq_true rfl) ht) (Nat.le_of_ble_eq_true rfl) rfl rfl rfl (lb':=[⟨g1,53,(lP b0_ x0_ y0_ d0_ z0_ w0_)⟩,⟨g2,53,(lP b1_ x1_ y1_ d1_ z1_ w1_)⟩,⟨g3,53,(lP b2_ x2_ y2_ d2_ z2_ w2_)⟩,⟨g4,27,(aL b3_ x3_ y3_)⟩,⟨g5,53,(lP b1 x1 y1 b2 x2 y2)⟩]) rfl (fun V10 S=>?_)
  refine hK6 _ _ ?_
  refine wp_seq_k fun K7 hK7=>?_
  refine wp_seq_k fun K8 hK8=>?_
  obtain ⟨W2,hW2⟩: ∃W,W=V10:=⟨_,rfl⟩
  rw [←hW2] at S ⊢
  have S0:=S
  refine fr 20 [68,69,70,71,72,73,74,75,76,77,78,79,80,81,82,83,84,85,86,87] [IsV ((aP b1 x1 y1 b2 x2 y2)),IsV ((aP b0_ x0_ y0_ d0_ z0_ w0_)),PT 18 ((q0+(q1 - q0)*q3) - q0) ((r0+(r1 - r0)*q3) - r0),IsV ((aP b1_ x1_ y1_ d1_ z1_ w1_)),IsV ((aP b0_ x0_ y0_ d0_ z0_ w0_)),PT 7 (q1 - q0) (r1 - r0),QT 51 (((q0+(q1 - q0)*q3) - q0)*(r1 - r0) - ((r0+(r1 - r0)*q3) - r0)*(q1 - q0)),IsV (.int .i64 (zay (((q0+(q1 - q0)*q3) - q0)*(r1 - r0) - ((r0+(r1 - r0)*q3) - r0)*(q1 - q0)) 0)),IsV (.bool false),IsV (.bool false),IsV ((aP b1_ x1_ y1_ d1_ z1_ w1_)),IsV ((aP b0_ x0_ y0_ d0_ z0_ w0_)),QT 2 ((1:Int)),IsV ((aG b3_ x3_ y3_)),QT 6 ((1:Int) - q3),PT 17 (q1+(q0 - q1)*((1:Int) - q3)) (r1+(r0 - r1)*((1:Int) - q3)),IsV ((aP b1 x1 y1 b2 x2 y2)),IsV (.bool true),IsV (.bool false),IsV (.bool false)] S ?_ ?_
  ·refine sc (fun _ _ S _ _=>sv rfl (zab rfl (S.at 0 rfl) (S.bx 4 rfl) Tryz.underlying53 rfl (vs:=(lP b1 x1 y1 b2 x2 y2)) zak rfl)) ?_
   refine sc (fun _ _ S _ _=>sv rfl (zab rfl (S.at 9 rfl) (S.bx 0 rfl) Tryz.underlying53 rfl (vs:=(lP b0_ x0_ y0_ d0_ z0_ w0_)) zak rfl)) ?_
   refine sc (fun _ _ S _ hd=>sl rfl (rc2 Tryz.func51 (hd.v 0 rfl rfl) (hd.v 1 rfl rfl)) (zpf (T.keep S.below) (show PT 14 (q0+(q1 - q0)*q3) (r0+(r1 - r0)*q3) ((aP b1 x1 y1 b2 x2 y2)) _ from ⟨b1,x1,y1,b2,x2,y2,rfl,hq1,hq2,⟨hk1,hk2⟩,⟨hk3,hk4⟩,⟨(S.num 3 rfl),(S.num 2 rfl)⟩,(S.num 1 rfl),(S.num 0 rfl)⟩).any (show P1 3 (q0) (r0) ((aP b0_ x0_ y0_ d0_ z0_ w0_)) _ from ⟨b0_,x0_,y0_,d0_,z0_,w0_,rfl,hqa0,hra0,⟨hkx0,hky0⟩,⟨hkz0,hkw0⟩,⟨(S.num 14 rfl),(S.num 15 rfl)⟩,(S.num 16 rfl),(S.num 17 rfl)⟩) (by omega) (by omega))) ?_
   refine sc (fun _ _ S _ _=>sv rfl (zab rfl (S.at 8 rfl) (S.bx 1 rfl) Tryz.underlying53 rfl (vs:=(lP b1_ x1_ y1_ d1_ z1_ w1_)) zak rfl)) ?_
   refine sc (fun _ _ S _ _=>sv rfl (zab rfl (S.at 9 rfl) (S.bx 0 rfl) Tryz.underlying53 rfl (vs:=(lP b0_ x0_ y0_ d0_ z0_ w0_)) zak rfl)) ?_
   refine sc (fun _ _ S _ hd=>sl rfl (rc2 Tryz.func51 (hd.v 3 rfl rfl) (hd.v 4 rfl rfl)) (zpf (T.keep S.below) (show P1 3 (q1) (r1) ((aP b1_ x1_ y1_ d1_ z1_ w1_)) _ from ⟨b1_,x1_,y1_,d1_,z1_,w1_,rfl,hqa1,hra1,⟨hkx1,hky1⟩,⟨hkz1,hkw1⟩,⟨(S.num 10 rfl),(S.num 11 rfl)⟩,(S.num 12 rfl),(S.num 13 rfl)⟩) (show P1 3 (q0) (r0) ((aP b0_ x0_ y0_ d0_ z0_ w0_)) _ from ⟨b0_,x0_,y0_,d0_,z0_,w0_,rfl,hqa0,hra0,⟨hkx0,hky0⟩,⟨hkz0,hkw0⟩,⟨(S.num 14 rfl),(S.num 15 rfl)⟩,(S.num 16 rfl),(S.num 17 rfl)⟩) (by omega) (by omega))) ?_
   refine sc (fun _ _ S _ hd=>sl rfl (rc2 Tryz.func62 rfl rfl) (zcK (T.keep S.below) ((hd.r 2 rfl rfl)).any ((hd.r 5 rfl rfl)).any (by omega) (by omega))) ?_
   refine sc (fun _ _ _ _ hd=>sl rfl (rc1 Tryz.func17 rfl) (zeH ((hd.r 6 rfl rfl)).any)) ?_
   refine sc (fun _ _ _ _ hd=>sv rfl (zaQ (zeF _ (by decide) rfl (hd.v 7 rfl rfl) rfl) (show (!decide (zay (((q0+(q1 - q0)*q3) - q0)*(r1 - r0) - ((r0+(r1 - r0)*q3) - r0)*(q1 - q0)) 0=0))=false from (zlG (by grind))))) ?_
   refine sc (fun _ _ _ _ hd=>sv rfl (zad rfl (hd.v 8 rfl rfl))) ?_
   refine sc (fun _ _ S _ hd=>svg rfl (hd.v 9 rfl rfl) (zab rfl (S.at 8 rfl) (S.bx 1 rfl) Tryz.underlying53 rfl (vs:=(lP b1_ x1_ y1_ d1_ z1_ w1_)) zak rfl)) ?_
   refine sc (fun _ _ S _ hd=>svg rfl (hd.v 9 rfl rfl) (zab rfl (S.at 9 rfl) (S.bx 0 rfl) Tryz.underlying53 rfl (vs:=(lP b0_ x0_ y0_ d0_ z0_ w0_)) zak rfl)) ?_
   refine sc (fun _ _ _ _ hd=>slg rfl (hd.v 9 rfl rfl) (rcc Tryz.func23) (zeq (n:=1) (by decide))) ?_
   refine sc (fun _ _ S _ hd=>svg rfl (hd.v 9 rfl rfl) (zab rfl (S.at 6 rfl) (S.bx 3 rfl) Tryz.underlying27 rfl (vs:=(aL b3_ x3_ y3_)) zah rfl)) ?_
   refine sc (fun _ _ S _ hd=>slg rfl (hd.v 9 rfl rfl) (rc2 Tryz.func35 rfl (hd.v 13 rfl rfl)) (zqC ((hd.r 12 rfl rfl)).any (show Q1 3 (q3) ((aG b3_ x3_ y3_)) _ from ⟨b3_,x3_,y3_,rfl,hqa3,hkx3,hky3,(S.num 4 rfl),(S.num 5 rfl)⟩) (by decide) (by decide))) ?_
   refine sc (fun _ _ S _ hd=>slg rfl (hd.v 9 rfl rfl) (rc3 Tryz.func57 (hd.v 10 rfl rfl) (hd.v 11 rfl rfl) rfl) (vAt (T.keep S.below) (show P1 3 (q1) (r1) ((aP b1_ x1_ y1_ d1_ z1_ w1_)) _ from ⟨b1_,x1_,y1_,d1_,z1_,w1_,rfl,hqa1,hra1,⟨hkx1,hky1⟩,⟨hkz1,hkw1⟩,⟨(S.num 10 rfl),(S.num 11 rfl)⟩,(S.num 12 rfl),(S.num 13 rfl)⟩) (show P1 3 (q0) (r0) ((aP b0_ x0_ y0_ d0_ z0_ w0_)) _ from ⟨b0_,x0_,y0_,d0_,z0_,w0_,rfl,hqa0,hra0,⟨hkx0,hky0⟩,⟨hkz0,hkw0⟩,⟨(S.num 14 rfl),(S.num 15 rfl)⟩,(S.num 16 rfl),(S.num 17 rfl)⟩) ((hd.r 14 rfl rfl)).any (by omega) (by omega) (by omega))) ?_
   refine sc (fun _ _ S _ hd=>svg rfl (hd.v 9 rfl rfl) (zab rfl (S.at 0 rfl) (S.bx 4 rfl) Tryz.underlying53 rfl (vs:=(lP b1 x1 y1 b2 x2 y2)) zak rfl)) ?_
   refine sc (fun _ _ S _ hd=>slg rfl (hd.v 9 rfl rfl) (rc2 Tryz.func70 rfl (hd.v 16 rfl rfl)) (zbb (zc8 (T.keep S.below) ((hd.r 15 rfl rfl)).any (show PT 14 (q0+(q1 - q0)*q3) (r0+(r1 - r0)*q3) ((aP b1 x1 y1 b2 x2 y2)) _ from ⟨b1,x1,y1,b2,x2,y2,rfl,hq1,hq2,⟨hk1,hk2⟩,⟨hk3,hk4⟩,⟨(S.num 3 rfl),(S.num 2 rfl)⟩,(S.num 1 rfl),(S.num 0 rfl)⟩).any (by omega) (by omega)) (fun _ _ h=>h.trans (congrArg Value.bool (show (decide (zaT (q1+(q0 - q1)*((1:Int) - q3)) (r1+(r0 - r1)*((1:Int) - q3)) (q0+(q1 - q0)*q3) (r0+(r1 - r0)*q3)=0))=true from (zbo (by grind) (by grind))))))) ?_
   refine sc (fun _ _ _ _ hd=>svg rfl (hd.v 9 rfl rfl) (zb3 (b:=true) rfl (hd.v 17 rfl rfl))) ?_
   refine sc (fun _ _ _ _ hd=>sv rfl (zaq false rfl (hd.v 9 rfl rfl) (hd.v 18 rfl rfl))) ?_
   exact sn
  ·intro a2 V11 S hB hf
   have S:=S.add (hf.v 19 rfl rfl)
   clear hf S0
   show wpList _ _ _ [] _ _
   refine hK8 _ _ ?_
   refine wp_cond_false (S.at 0 rfl) ?_
   refine wp_skip ?_
   refine hK7 _ _ ?_
   refine wp_seq_k fun K9 hK9=>?_
   obtain ⟨W3,hW3⟩: ∃W,W=V11:=⟨_,rfl⟩
   rw [←hW3] at S ⊢
   have S0:=S
   refine fr 9 [88,89,90,91,92,93,94,95,10] [IsV ((aP b0_ x0_ y0_ d0_ z0_ w0_)),IsV ((aP b2_ x2_ y2_ d2_ z2_ w2_)),QT 15 (zaA (q2 - q0)+zaA (r2 - r0)),IsV ((aP b2_ x2_ y2_ d2_ z2_ w2_)),IsV ((aP b1_ x1_ y1_ d1_ z1_ w1_)),QT 15 (zaA (q1 - q2)+zaA (r1 - r2)),QL 15 6 ([zaA (q2 - q0)+zaA (r2 - r0),zaA (q1 - q2)+zaA (r1 - r2)]),QT 31 ((zaA (q2 - q0)+zaA (r2 - r0))+(zaA (q1 - q2)+zaA (r1 - r2))),RBx (W3) (27) ([.bool false,.slice none 0 0,.slice none 0 0])] S ?_ ?_
   ·refine sc (fun _ _ S _ _=>sv rfl (zab rfl (S.at 10 rfl) (S.bx 0 rfl) Tryz.underlying53 rfl (vs:=(lP b0_ x0_ y0_ d0_ z0_ w0_)) zak rfl)) ?_
    refine sc (fun _ _ S _ _=>sv rfl (zab rfl (S.at 8 rfl) (S.bx 2 rfl) Tryz.underlying53 rfl (vs:=(lP b2_ x2_ y2_ d2_ z2_ w2_)) zak rfl)) ?_
    refine sc (fun _ _ S _ hd=>sl rfl (rc2 Tryz.func66 (hd.v 0 rfl rfl) (hd.v 1 rfl rfl)) (zg3 (T.keep S.below) (show P1 3 (q0) (r0) ((aP b0_ x0_ y0_ d0_ z0_ w0_)) _ from ⟨b0_,x0_,y0_,d0_,z0_,w0_,rfl,hqa0,hra0,⟨hkx0,hky0⟩,⟨hkz0,hkw0⟩,⟨(S.num 14 rfl),(S.num 15 rfl)⟩,(S.num 16 rfl),(S.num 17 rfl)⟩) (show P1 3 (q2) (r2) ((aP b2_ x2_ y2_ d2_ z2_ w2_)) _ from ⟨b2_,x2_,y2_,d2_,z2_,w2_,rfl,hqa2,hra2,⟨hkx2,hky2⟩,⟨hkz2,hkw2⟩,⟨(S.num 6 rfl),(S.num 7 rfl)⟩,(S.num 8 rfl),(S.num 9 rfl)⟩) (by omega) (by omega))) ?_
    refine sc (fun _ _ S _ _=>sv rfl (zab rfl (S.at 8 rfl) (S.bx 2 rfl) Tryz.underlying53 rfl (vs:=(lP b2_ x2_ y2_ d2_ z2_ w2_)) zak rfl)) ?_
    refine sc (fun _ _ S _ _=>sv rfl (zab rfl (S.at 9 rfl) (S.bx 1 rfl) Tryz.underlying53 rfl (vs:=(lP b1_ x1_ y1_ d1_ z1_ w1_)) zak rfl)) ?_
    refine sc (fun _ _ S _ hd=>sl rfl (rc2 Tryz.func66 (hd.v 3 rfl rfl) (hd.v 4 rfl rfl)) (zg3 (T.keep S.below) (show P1 3 (q2) (r2) ((aP b2_ x2_ y2_ d2_ z2_ w2_)) _ from ⟨b2_,x2_,y2_,d2_,z2_,w2_,rfl,hqa2,hra2,⟨hkx2,hky2⟩,⟨hkz2,hkw2⟩,⟨(S.num 6 rfl),(S.num 7 rfl)⟩,(S.num 8 rfl),(S.num 9 rfl)⟩) (show P1 3 (q1) (r1) ((aP b1_ x1_ y1_ d1_ z1_ w1_)) _ from ⟨b1_,x1_,y1_,d1_,z1_,w1_,rfl,hqa1,hra1,⟨hkx1,hky1⟩,⟨hkz1,hkw1⟩,⟨(S.num 10 rfl),(S.num 11 rfl)⟩,(S.num 12 rfl),(S.num 13 rfl)⟩) (by omega) (by omega))) ?_
    refine sc (fun _ _ _ _ hd=>sy rfl (zbt rfl rfl rfl ((hd.r 2 rfl rfl)).any ((hd.r 5 rfl rfl)).any)) ?_
    refine sc (fun _ _ _ _ hd=>sl rfl (rc1 Tryz.func29 rfl) (zeI ((hd.r 6 rfl rfl)).row (by decide))) ?_
    refine sc (fun _ _ _ hB _=>sy rfl (zov (cs:=[.bool false,.slice none 0 0,.slice none 0 0]) (zau rfl (Tryz.zeroValue27 _) rfl) hB.size)) ?_
    exact sn
   ·intro a3 V12 S hB hf
    obtain ⟨b3,x3,y3,hv1,hq3,hk5,hk6,ok5,ok6⟩:=hf.r 7 rfl rfl
    have S:=S.add hv1
    have S:=S.know ok5
    have S:=S.know ok6
    obtain ⟨g6,hvg6,hgg6,hbg6⟩:=hf.r 8 rfl rfl
    have S:=Frm.box (S.add hvg6) S0 hgg6 hbg6 rfl
    have S:Frm 151 [(10,pT g6 0),(95,(aG b3 x3 y3)),(87,.bool false),(9,pT g5 0),(67,(aP b1 x1 y1 b2 x2 y2)),(66,(aG b3_ x3_ y3_)),(65,(aP b1_ x1_ y1_ d1_ z1_ w1_)),(64,(aP b0_ x0_ y0_ d0_ z0_ w0_)),(63,.bool false),(7,pT g4 0),(6,pT g3 0),(5,pT g2 0),(4,pT g1 0)] [⟨g1,53,(lP b0_ x0_ y0_ d0_ z0_ w0_)⟩,⟨g2,53,(lP b1_ x1_ y1_ d1_ z1_ w1_)⟩,⟨g3,53,(lP b2_ x2_ y2_ d2_ z2_ w2_)⟩,⟨g4,27,(aL b3_ x3_ y3_)⟩,⟨g5,53,(lP b1 x1 y1 b2 x2 y2)⟩,⟨g6,27,[.bool false,.slice none 0 0,.slice none 0 0]⟩] V _ _ _:=S
    clear hf S0
    show wpList _ _ _ [_] _ _
    refine zap S (i:=5) (vs:=(aL b3 x3 y3)) rfl (fun ht=>zao rfl (S.at 0 rfl) (S.at 1 rfl) zah rfl (Nat.le_of_ble_eq_true rfl) ht) (Nat.le_of_ble_eq_true rfl) rfl rfl rfl (lb':=[⟨g1,53,(lP b0_ x0_ y0_ d0_ z0_ w0_)⟩,⟨g2,53,(lP b1_ x1_ y1_ d1_ z1_ w1_)⟩,⟨g3,53,(lP b2_ x2_ y2_ d2_ z2_ w2_)⟩,⟨g4,27,(aL b3_ x3_ y3_)⟩,⟨g5,53,(lP b1 x1 y1 b2 x2 y2)⟩,⟨g6,27,(aL b3 x3 y3)⟩]) rfl (fun V13 S=>?_)
    refine hK9 _ _ ?_
    refine wp_seq_k fun K10 hK10=>?_
    refine wp_seq_k fun K11 hK11=>?_
    obtain ⟨W4,hW4⟩: ∃W,W=V13:=⟨_,rfl⟩
    rw [←hW4] at S ⊢
    have S0:=S
    refine fr 27 [96,97,98,99,100,101,102,103,104,105,106,107,108,109,110,111,112,113,114,115,116,117,118,119,120,121,122] [IsV ((aG b3 x3 y3)),IsV ((aP b0_ x0_ y0_ d0_ z0_ w0_)),IsV ((aP b1_ x1_ y1_ d1_ z1_ w1_)),QT 15 (zaA (q1 - q0)+zaA (r1 - r0)),IsV (.int .i64 (zay ((zaA (q2 - q0)+zaA (r2 - r0))+(zaA (q1 - q2)+zaA (r1 - r2))) (zaA (q1 - q0)+zaA (r1 - r0)))),IsV (.bool false),IsV (.bool false),IsV ((aP b0_ x0_ y0_ d0_ z0_ w0_)),IsV ((aP b1_ x1_ y1_ d1_ z1_ w1_)),QT 15 (zaA (q1 - q0)+zaA (r1 - r0)),IsV ((aP b1_ x1_ y1_ d1_ z1_ w1_)),IsV ((aP b0_ x0_ y0_ d0_ z0_ w0_)),QT 15 (zaA (q0 - q1)+zaA (r0 - r1)),IsV (.bool true),IsV (.bool false),IsV (.bool false),IsV (.bool false),IsV ((aP b0_ x0_ y0_ d0_ z0_ w0_)),IsV ((aP b1_ x1_ y1_ d1_ z1_ w1_)),QT 15 (zaA (q1 - q0)+zaA (r1 - r0)),IsV (.int .i64 (zay (zaA (q1 - q0)+zaA (r1 - r0)) 0)),IsV (.bool (decide (zay (zaA (q1 - q0)+zaA (r1 - r0)) 0=0))),IsV ((aP b0_ x0_ y0_ d0_ z0_ w0_)),IsV ((aP b1_ x1_ y1_ d1_ z1_ w1_)),IsV (.bool (decide (zaT q0 r0 q1 r1=0))),IsV (.bool false),IsV (.bool false)] S ?_ ?_
    ·refine sc (fun _ _ S _ _=>sv rfl (zab rfl (S.at 0 rfl) (S.bx 5 rfl) Tryz.underlying27 rfl (vs:=(aL b3 x3 y3)) zah rfl)) ?_
     refine sc (fun _ _ S _ _=>sv rfl (zab rfl (S.at 12 rfl) (S.bx 0 rfl) Tryz.underlying53 rfl (vs:=(lP b0_ x0_ y0_ d0_ z0_ w0_)) zak rfl)) ?_
     refine sc (fun _ _ S _ _=>sv rfl (zab rfl (S.at 11 rfl) (S.bx 1 rfl) Tryz.underlying53 rfl (vs:=(lP b1_ x1_ y1_ d1_ z1_ w1_)) zak rfl)) ?_
     refine sc (fun _ _ S _ hd=>sl rfl (rc2 Tryz.func66 (hd.v 1 rfl rfl) (hd.v 2 rfl rfl)) (zg3 (T.keep S.below) (show P1 3 (q0) (r0) ((aP b0_ x0_ y0_ d0_ z0_ w0_)) _ from ⟨b0_,x0_,y0_,d0_,z0_,w0_,rfl,hqa0,hra0,⟨hkx0,hky0⟩,⟨hkz0,hkw0⟩,⟨(S.num 16 rfl),(S.num 17 rfl)⟩,(S.num 18 rfl),(S.num 19 rfl)⟩) (show P1 3 (q1) (r1) ((aP b1_ x1_ y1_ d1_ z1_ w1_)) _ from ⟨b1_,x1_,y1_,d1_,z1_,w1_,rfl,hqa1,hra1,⟨hkx1,hky1⟩,⟨hkz1,hkw1⟩,⟨(S.num 12 rfl),(S.num 13 rfl)⟩,(S.num 14 rfl),(S.num 15 rfl)⟩) (by omega) (by omega))) ?_
     refine sc (fun _ _ S _ hd=>sl rfl (rc2 Tryz.func19 (hd.v 0 rfl rfl) rfl) (zlq (show QT 31 ((zaA (q2 - q0)+zaA (r2 - r0))+(zaA (q1 - q2)+zaA (r1 - r2))) ((aG b3 x3 y3)) _ from ⟨b3,x3,y3,rfl,hq3,hk5,hk6,(S.num 1 rfl),(S.num 0 rfl)⟩).any ((hd.r 3 rfl rfl)).any (by decide) (by decide))) ?_
     refine sc (fun _ _ _ _ hd=>sv rfl (zaQ (zcm rfl (hd.v 4 rfl rfl) rfl) (show (decide (zay ((zaA (q2 - q0)+zaA (r2 - r0))+(zaA (q1 - q2)+zaA (r1 - r2))) (zaA (q1 - q0)+zaA (r1 - r0))<0))=false from zqm))) ?_
     refine sc (fun _ _ _ _ hd=>sv rfl (zad rfl (hd.v 5 rfl rfl))) ?_
     refine sc (fun _ _ S _ hd=>svg rfl (hd.v 6 rfl rfl) (zab rfl (S.at 12 rfl) (S.bx 0 rfl) Tryz.underlying53 rfl (vs:=(lP b0_ x0_ y0_ d0_ z0_ w0_)) zak rfl)) ?_
     refine sc (fun _ _ S _ hd=>svg rfl (hd.v 6 rfl rfl) (zab rfl (S.at 11 rfl) (S.bx 1 rfl) Tryz.underlying53 rfl (vs:=(lP b1_ x1_ y1_ d1_ z1_ w1_)) zak rfl)) ?_
     refine sc (fun _ _ S _ hd=>slg rfl (hd.v 6 rfl rfl) (rc2 Tryz.func66 (hd.v 7 rfl rfl) (hd.v 8 rfl rfl)) (zg3 (T.keep S.below) (show P1 3 (q0) (r0) ((aP b0_ x0_ y0_ d0_ z0_ w0_)) _ from ⟨b0_,x0_,y0_,d0_,z0_,w0_,rfl,hqa0,hra0,⟨hkx0,hky0⟩,⟨hkz0,hkw0⟩,⟨(S.num 16 rfl),(S.num 17 rfl)⟩,(S.num 18 rfl),(S.num 19 rfl)⟩) (show P1 3 (q1) (r1) ((aP b1_ x1_ y1_ d1_ z1_ w1_)) _ from ⟨b1_,x1_,y1_,d1_,z1_,w1_,rfl,hqa1,hra1,⟨hkx1,hky1⟩,⟨hkz1,hkw1⟩,⟨(S.num 12 rfl),(S.num 13 rfl)⟩,(S.num 14 rfl),(S.num 15 rfl)⟩) (by omega) (by omega))) ?_
     refine sc (fun _ _ S _ hd=>svg rfl (hd.v 6 rfl rfl) (zab rfl (S.at 11 rfl) (S.bx 1 rfl) Tryz.underlying53 rfl (vs:=(lP b1_ x1_ y1_ d1_ z1_ w1_)) zak rfl)) ?_
     refine sc (fun _ _ S _ hd=>svg rfl (hd.v 6 rfl rfl) (zab rfl (S.at 12 rfl) (S.bx 0 rfl) Tryz.underlying53 rfl (vs:=(lP b0_ x0_ y0_ d0_ z0_ w0_)) zak rfl)) ?_
     refine sc (fun _ _ S _ hd=>slg rfl (hd.v 6 rfl rfl) (rc2 Tryz.func66 (hd.v 10 rfl rfl) (hd.v 11 rfl rfl)) (zg3 (T.keep S.below) (show P1 3 (q1) (r1) ((aP b1_ x1_ y1_ d1_ z1_ w1_)) _ from ⟨b1_,x1_,y1_,d1_,z1_,w1_,rfl,hqa1,hra1,⟨hkx1,hky1⟩,⟨hkz1,hkw1⟩,⟨(S.num 12 rfl),(S.num 13 rfl)⟩,(S.num 14 rfl),(S.num 15 rfl)⟩) (show P1 3 (q0) (r0) ((aP b0_ x0_ y0_ d0_ z0_ w0_)) _ from ⟨b0_,x0_,y0_,d0_,z0_,w0_,rfl,hqa0,hra0,⟨hkx0,hky0⟩,⟨hkz0,hkw0⟩,⟨(S.num 16 rfl),(S.num 17 rfl)⟩,(S.num 18 rfl),(S.num 19 rfl)⟩) (by omega) (by omega))) ?_
     refine sc (fun _ _ _ _ hd=>slg rfl (hd.v 6 rfl rfl) (rc2 Tryz.func21 rfl rfl) (zbb (zcU ((hd.r 9 rfl rfl)).any ((hd.r 12 rfl rfl)).any (by decide) (by decide)) (fun _ _ h=>h.trans (congrArg Value.bool (show (decide (zay (zaA (q1 - q0)+zaA (r1 - r0)) (zaA (q0 - q1)+zaA (r0 - r1))=0))=true from (zbS zo8)))))) ?_
     refine sc (fun _ _ _ _ hd=>svg rfl (hd.v 6 rfl rfl) (zb3 (b:=true) rfl (hd.v 13 rfl rfl))) ?_
     refine sc (fun _ _ _ _ hd=>sv rfl (zaq false rfl (hd.v 6 rfl rfl) (hd.v 14 rfl rfl))) ?_
     refine sc (fun _ _ _ _ hd=>sv rfl (zad rfl (hd.v 15 rfl rfl))) ?_
     refine sc (fun _ _ S _ hd=>svg rfl (hd.v 16 rfl rfl) (zab rfl (S.at 12 rfl) (S.bx 0 rfl) Tryz.underlying53 rfl (vs:=(lP b0_ x0_ y0_ d0_ z0_ w0_)) zak rfl)) ?_
     refine sc (fun _ _ S _ hd=>svg rfl (hd.v 16 rfl rfl) (zab rfl (S.at 11 rfl) (S.bx 1 rfl) Tryz.underlying53 rfl (vs:=(lP b1_ x1_ y1_ d1_ z1_ w1_)) zak rfl)) ?_
     refine sc (fun _ _ S _ hd=>slg rfl (hd.v 16 rfl rfl) (rc2 Tryz.func66 (hd.v 17 rfl rfl) (hd.v 18 rfl rfl)) (zg3 (T.keep S.below) (show P1 3 (q0) (r0) ((aP b0_ x0_ y0_ d0_ z0_ w0_)) _ from ⟨b0_,x0_,y0_,d0_,z0_,w0_,rfl,hqa0,hra0,⟨hkx0,hky0⟩,⟨hkz0,hkw0⟩,⟨(S.num 16 rfl),(S.num 17 rfl)⟩,(S.num 18 rfl),(S.num 19 rfl)⟩) (show P1 3 (q1) (r1) ((aP b1_ x1_ y1_ d1_ z1_ w1_)) _ from ⟨b1_,x1_,y1_,d1_,z1_,w1_,rfl,hqa1,hra1,⟨hkx1,hky1⟩,⟨hkz1,hkw1⟩,⟨(S.num 12 rfl),(S.num 13 rfl)⟩,(S.num 14 rfl),(S.num 15 rfl)⟩) (by omega) (by omega))) ?_
     refine sc (fun _ _ _ _ hd=>slg rfl (hd.v 16 rfl rfl) (rc1 Tryz.func17 rfl) (zeH ((hd.r 19 rfl rfl)).any)) ?_
     refine sc (fun _ _ _ _ hd=>svg rfl (hd.v 16 rfl rfl) (zcc _ (by decide) rfl (hd.v 20 rfl rfl) rfl)) ?_
     refine sc (fun _ _ S _ hd=>svg rfl (hd.v 16 rfl rfl) (zab rfl (S.at 12 rfl) (S.bx 0 rfl) Tryz.underlying53 rfl (vs:=(lP b0_ x0_ y0_ d0_ z0_ w0_)) zak rfl)) ?_
     refine sc (fun _ _ S _ hd=>svg rfl (hd.v 16 rfl rfl) (zab rfl (S.at 11 rfl) (S.bx 1 rfl) Tryz.underlying53 rfl (vs:=(lP b1_ x1_ y1_ d1_ z1_ w1_)) zak rfl)) ?_
     refine sc (fun _ _ S _ hd=>slg rfl (hd.v 16 rfl rfl) (rc2 Tryz.func70 (hd.v 22 rfl rfl) (hd.v 23 rfl rfl)) (zc8 (T.keep S.below) (show P1 3 (q0) (r0) ((aP b0_ x0_ y0_ d0_ z0_ w0_)) _ from ⟨b0_,x0_,y0_,d0_,z0_,w0_,rfl,hqa0,hra0,⟨hkx0,hky0⟩,⟨hkz0,hkw0⟩,⟨(S.num 16 rfl),(S.num 17 rfl)⟩,(S.num 18 rfl),(S.num 19 rfl)⟩) (show P1 3 (q1) (r1) ((aP b1_ x1_ y1_ d1_ z1_ w1_)) _ from ⟨b1_,x1_,y1_,d1_,z1_,w1_,rfl,hqa1,hra1,⟨hkx1,hky1⟩,⟨hkz1,hkw1⟩,⟨(S.num 12 rfl),(S.num 13 rfl)⟩,(S.num 14 rfl),(S.num 15 rfl)⟩) (by omega) (by omega))) ?_
     refine sc (fun _ _ _ _ hd=>svg rfl (hd.v 16 rfl rfl) (zaQ (zil rfl (hd.v 21 rfl rfl) (hd.v 24 rfl rfl)) (show ((decide (zay (zaA (q1 - q0)+zaA (r1 - r0)) 0=0)) != (decide (zaT q0 r0 q1 r1=0)))=false from zo9))) ?_
     refine sc (fun _ _ _ _ hd=>sv rfl (zaq false rfl (hd.v 16 rfl rfl) (hd.v 25 rfl rfl))) ?_
     exact sn
    ·intro a4 V14 S hB hf
     have S:=S.add (hf.v 26 rfl rfl)
     clear hf S0
     show wpList _ _ _ [] _ _
     refine hK11 _ _ ?_
     refine wp_cond_false (S.at 0 rfl) ?_
     refine wp_skip ?_
     refine hK10 _ _ ?_
     refine wp_seq_k fun K12 hK12=>?_
     rcases Bool.eq_false_or_eq_true (decide (0≤zay q3 0)) with hs1|hs1
     ·skip
      rcases Bool.eq_false_or_eq_true (decide (zay q3 ((1:Int):Rat)≤0)) with hs2|hs2
      ·skip
       obtain ⟨W5,hW5⟩: ∃W,W=V14:=⟨_,rfl⟩
       rw [←hW5] at S ⊢
       have S0:=S
       refine fr 9 [123,124,125,126,127,128,129,130,131] [IsV ((aG b3_ x3_ y3_)),IsV (.int .i64 (zay q3 0)),IsV (.bool true),IsV (.bool true),IsV ((aG b3_ x3_ y3_)),QT 2 ((1:Int)),IsV (.int .i64 (zay q3 (1:Int))),IsV (.bool true),IsV (.bool true)] S ?_ ?_
       ·refine sc (fun _ _ S _ _=>sv rfl (zab rfl (S.at 10 rfl) (S.bx 3 rfl) Tryz.underlying27 rfl (vs:=(aL b3_ x3_ y3_)) zah rfl)) ?_
        refine sc (fun _ _ S _ hd=>sl rfl (rc1 Tryz.func17 (hd.v 0 rfl rfl)) (zeH (show Q1 3 (q3) ((aG b3_ x3_ y3_)) _ from ⟨b3_,x3_,y3_,rfl,hqa3,hkx3,hky3,(S.num 6 rfl),(S.num 7 rfl)⟩))) ?_
        refine sc (fun _ _ _ _ hd=>sv rfl (zaQ (zgB rfl (hd.v 1 rfl rfl) rfl) (show (decide (0≤zay q3 0))=true from hs1))) ?_
        refine sc (fun _ _ _ _ hd=>sv rfl (zad rfl (hd.v 2 rfl rfl))) ?_
        refine sc (fun _ _ S _ hd=>svg rfl (hd.v 3 rfl rfl) (zab rfl (S.at 10 rfl) (S.bx 3 rfl) Tryz.underlying27 rfl (vs:=(aL b3_ x3_ y3_)) zah rfl)) ?_
        refine sc (fun _ _ _ _ hd=>slg rfl (hd.v 3 rfl rfl) (rcc Tryz.func23) (zeq (n:=1) (by decide))) ?_
        refine sc (fun _ _ S _ hd=>slg rfl (hd.v 3 rfl rfl) (rc2 Tryz.func19 (hd.v 4 rfl rfl) rfl) (zlq (show Q1 3 (q3) ((aG b3_ x3_ y3_)) _ from ⟨b3_,x3_,y3_,rfl,hqa3,hkx3,hky3,(S.num 6 rfl),(S.num 7 rfl)⟩) ((hd.r 5 rfl rfl)).any (by decide) (by decide))) ?_
        refine sc (fun _ _ _ _ hd=>svg rfl (hd.v 3 rfl rfl) (zaQ (zot rfl (hd.v 6 rfl rfl) rfl) (show (decide (zay q3 (1:Int)≤0))=true from hs2))) ?_
        refine sc (fun _ _ _ _ hd=>sv rfl (zaq true rfl (hd.v 3 rfl rfl) (hd.v 7 rfl rfl))) ?_
        exact sn
       ·intro a5 V15 S hB hf
        have S:=S.add (hf.v 8 rfl rfl)
        clear hf S0
        show wpList _ _ _ [_] _ _
        refine tv S (zan rfl (S.at 0 rfl)) fun a S=>?_
        refine hK12 _ _ ?_
        refine wp_seq_k fun K13 hK13=>?_
        have S:=S.keep [11,9,5,4] (ls':=[(11,.bool true),(9,pT g5 0),(5,pT g2 0),(4,pT g1 0)]) rfl
        obtain ⟨W6,hW6⟩: ∃W,W=V15:=⟨_,rfl⟩
        rw [←hW6] at S ⊢
        have S0:=S
        refine fr 19 [132,133,134,135,136,137,138,139,140,141,142,143,144,145,146,147,148,149,150] [IsV (.bool true),IsV (.bool false),IsV (.bool false),IsV ((aP b0_ x0_ y0_ d0_ z0_ w0_)),IsV ((aP b1 x1 y1 b2 x2 y2)),QT 37 (zaA ((q0+(q1 - q0)*q3) - q0)+zaA ((r0+(r1 - r0)*q3) - r0)),IsV ((aP b1 x1 y1 b2 x2 y2)),IsV ((aP b1_ x1_ y1_ d1_ z1_ w1_)),QT 37 (zaA (q1 - (q0+(q1 - q0)*q3))+zaA (r1 - (r0+(r1 - r0)*q3))),QL 37 6 ([zaA ((q0+(q1 - q0)*q3) - q0)+zaA ((r0+(r1 - r0)*q3) - r0),zaA (q1 - (q0+(q1 - q0)*q3))+zaA (r1 - (r0+(r1 - r0)*q3))]),QT 75 ((zaA ((q0+(q1 - q0)*q3) - q0)+zaA ((r0+(r1 - r0)*q3) - r0))+(zaA (q1 - (q0+(q1 - q0)*q3))+zaA (r1 - (r0+(r1 - r0)*q3)))),IsV ((aP b0_ x0_ y0_ d0_ z0_ w0_)),IsV ((aP b1_ x1_ y1_ d1_ z1_ w1_)),QT 15 (zaA (q1 - q0)+zaA (r1 - r0)),IsV (.bool true),IsV (.bool true),IsV (.bool true),IsV (.bool true),IsV (.bool true)] S ?_ ?_
        ·refine sc (fun _ _ S _ _=>sv rfl (zad rfl (S.at 0 rfl))) ?_
         refine sc (fun _ _ _ _ hd=>sv rfl (zb3 (b:=true) rfl (hd.v 0 rfl rfl))) ?_
         refine sc (fun _ _ _ _ hd=>sv rfl (zad rfl (hd.v 1 rfl rfl))) ?_
         refine sc (fun _ _ S _ hd=>svg rfl (hd.v 2 rfl rfl) (zab rfl (S.at 3 rfl) (S.bx 0 rfl) Tryz.underlying53 rfl (vs:=(lP b0_ x0_ y0_ d0_ z0_ w0_)) zak rfl)) ?_
         refine sc (fun _ _ S _ hd=>svg rfl (hd.v 2 rfl rfl) (zab rfl (S.at 1 rfl) (S.bx 4 rfl) Tryz.underlying53 rfl (vs:=(lP b1 x1 y1 b2 x2 y2)) zak rfl)) ?_
         refine sc (fun _ _ S _ hd=>slg rfl (hd.v 2 rfl rfl) (rc2 Tryz.func66 (hd.v 3 rfl rfl) (hd.v 4 rfl rfl)) (zg3 (T.keep S.below) (show P1 3 (q0) (r0) ((aP b0_ x0_ y0_ d0_ z0_ w0_)) _ from ⟨b0_,x0_,y0_,d0_,z0_,w0_,rfl,hqa0,hra0,⟨hkx0,hky0⟩,⟨hkz0,hkw0⟩,⟨(S.num 16 rfl),(S.num 17 rfl)⟩,(S.num 18 rfl),(S.num 19 rfl)⟩) (show PT 14 (q0+(q1 - q0)*q3) (r0+(r1 - r0)*q3) ((aP b1 x1 y1 b2 x2 y2)) _ from ⟨b1,x1,y1,b2,x2,y2,rfl,hq1,hq2,⟨hk1,hk2⟩,⟨hk3,hk4⟩,⟨(S.num 5 rfl),(S.num 4 rfl)⟩,(S.num 3 rfl),(S.num 2 rfl)⟩).any (by omega) (by omega))) ?_
         refine sc (fun _ _ S _ hd=>svg rfl (hd.v 2 rfl rfl) (zab rfl (S.at 1 rfl) (S.bx 4 rfl) Tryz.underlying53 rfl (vs:=(lP b1 x1 y1 b2 x2 y2)) zak rfl)) ?_
         refine sc (fun _ _ S _ hd=>svg rfl (hd.v 2 rfl rfl) (zab rfl (S.at 2 rfl) (S.bx 1 rfl) Tryz.underlying53 rfl (vs:=(lP b1_ x1_ y1_ d1_ z1_ w1_)) zak rfl)) ?_
         refine sc (fun _ _ S _ hd=>slg rfl (hd.v 2 rfl rfl) (rc2 Tryz.func66 (hd.v 6 rfl rfl) (hd.v 7 rfl rfl)) (zg3 (T.keep S.below) (show PT 14 (q0+(q1 - q0)*q3) (r0+(r1 - r0)*q3) ((aP b1 x1 y1 b2 x2 y2)) _ from ⟨b1,x1,y1,b2,x2,y2,rfl,hq1,hq2,⟨hk1,hk2⟩,⟨hk3,hk4⟩,⟨(S.num 5 rfl),(S.num 4 rfl)⟩,(S.num 3 rfl),(S.num 2 rfl)⟩).any (show P1 3 (q1) (r1) ((aP b1_ x1_ y1_ d1_ z1_ w1_)) _ from ⟨b1_,x1_,y1_,d1_,z1_,w1_,rfl,hqa1,hra1,⟨hkx1,hky1⟩,⟨hkz1,hkw1⟩,⟨(S.num 12 rfl),(S.num 13 rfl)⟩,(S.num 14 rfl),(S.num 15 rfl)⟩) (by omega) (by omega))) ?_
         refine sc (fun _ _ _ _ hd=>syg rfl (hd.v 2 rfl rfl) (zbt rfl rfl rfl ((hd.r 5 rfl rfl)).any ((hd.r 8 rfl rfl)).any)) ?_
         refine sc (fun _ _ _ _ hd=>slg rfl (hd.v 2 rfl rfl) (rc1 Tryz.func29 rfl) (zeI ((hd.r 9 rfl rfl)).row (by decide))) ?_
         refine sc (fun _ _ S _ hd=>svg rfl (hd.v 2 rfl rfl) (zab rfl (S.at 3 rfl) (S.bx 0 rfl) Tryz.underlying53 rfl (vs:=(lP b0_ x0_ y0_ d0_ z0_ w0_)) zak rfl)) ?_
         refine sc (fun _ _ S _ hd=>svg rfl (hd.v 2 rfl rfl) (zab rfl (S.at 2 rfl) (S.bx 1 rfl) Tryz.underlying53 rfl (vs:=(lP b1_ x1_ y1_ d1_ z1_ w1_)) zak rfl)) ?_
         refine sc (fun _ _ S _ hd=>slg rfl (hd.v 2 rfl rfl) (rc2 Tryz.func66 (hd.v 11 rfl rfl) (hd.v 12 rfl rfl)) (zg3 (T.keep S.below) (show P1 3 (q0) (r0) ((aP b0_ x0_ y0_ d0_ z0_ w0_)) _ from ⟨b0_,x0_,y0_,d0_,z0_,w0_,rfl,hqa0,hra0,⟨hkx0,hky0⟩,⟨hkz0,hkw0⟩,⟨(S.num 16 rfl),(S.num 17 rfl)⟩,(S.num 18 rfl),(S.num 19 rfl)⟩) (show P1 3 (q1) (r1) ((aP b1_ x1_ y1_ d1_ z1_ w1_)) _ from ⟨b1_,x1_,y1_,d1_,z1_,w1_,rfl,hqa1,hra1,⟨hkx1,hky1⟩,⟨hkz1,hkw1⟩,⟨(S.num 12 rfl),(S.num 13 rfl)⟩,(S.num 14 rfl),(S.num 15 rfl)⟩) (by omega) (by omega))) ?_
         refine sc (fun _ _ _ _ hd=>slg rfl (hd.v 2 rfl rfl) (rc2 Tryz.func21 rfl rfl) (zbb (zcU ((hd.r 10 rfl rfl)).any ((hd.r 13 rfl rfl)).any (by decide) (by decide)) (fun _ _ h=>h.trans (congrArg Value.bool (show (decide (zay ((zaA ((q0+(q1 - q0)*q3) - q0)+zaA ((r0+(r1 - r0)*q3) - r0))+(zaA (q1 - (q0+(q1 - q0)*q3))+zaA (r1 - (r0+(r1 - r0)*q3)))) (zaA (q1 - q0)+zaA (r1 - r0))=0))=true from (zbS (zqn hs1 hs2))))))) ?_
         refine sc (fun _ _ _ _ hd=>sv rfl (zaq false rfl (hd.v 2 rfl rfl) (hd.v 14 rfl rfl))) ?_
         refine sc (fun _ _ _ _ hd=>sv rfl (zad rfl (hd.v 15 rfl rfl))) ?_
         refine sc (fun _ _ S _ hd=>slg rfl (hd.v 16 rfl rfl) (rc0 Tryz.func47) (zb5 (T.keep S.below))) ?_
         refine sc (fun _ _ _ _ hd=>sv rfl (zaq true rfl (hd.v 16 rfl rfl) (hd.v 17 rfl rfl))) ?_
         exact sn
        ·intro a6 V16 S hB hf
         have S:=S.add (hf.v 18 rfl rfl)
         clear hf S0
         show wpList _ _ _ [_] _ _
         refine tv S (zan rfl (S.at 0 rfl)) fun a S=>?_
         refine hK13 _ _ ?_
         refine wp_ret ?_
         exact zaO rfl S (S.at 0 rfl) ⟨_,rfl,rfl,S.below⟩
      ·skip
       obtain ⟨W7,hW7⟩: ∃W,W=V14:=⟨_,rfl⟩
       rw [←hW7] at S ⊢
       have S0:=S
       refine fr 9 [123,124,125,126,127,128,129,130,131] [IsV ((aG b3_ x3_ y3_)),IsV (.int .i64 (zay q3 0)),IsV (.bool true),IsV (.bool true),IsV ((aG b3_ x3_ y3_)),QT 2 ((1:Int)),IsV (.int .i64 (zay q3 (1:Int))),IsV (.bool false),IsV (.bool false)] S ?_ ?_
       ·refine sc (fun _ _ S _ _=>sv rfl (zab rfl (S.at 10 rfl) (S.bx 3 rfl) Tryz.underlying27 rfl (vs:=(aL b3_ x3_ y3_)) zah rfl)) ?_
        refine sc (fun _ _ S _ hd=>sl rfl (rc1 Tryz.func17 (hd.v 0 rfl rfl)) (zeH (show Q1 3 (q3) ((aG b3_ x3_ y3_)) _ from ⟨b3_,x3_,y3_,rfl,hqa3,hkx3,hky3,(S.num 6 rfl),(S.num 7 rfl)⟩))) ?_
        refine sc (fun _ _ _ _ hd=>sv rfl (zaQ (zgB rfl (hd.v 1 rfl rfl) rfl) (show (decide (0≤zay q3 0))=true from hs1))) ?_
        refine sc (fun _ _ _ _ hd=>sv rfl (zad rfl (hd.v 2 rfl rfl))) ?_
        refine sc (fun _ _ S _ hd=>svg rfl (hd.v 3 rfl rfl) (zab rfl (S.at 10 rfl) (S.bx 3 rfl) Tryz.underlying27 rfl (vs:=(aL b3_ x3_ y3_)) zah rfl)) ?_
        refine sc (fun _ _ _ _ hd=>slg rfl (hd.v 3 rfl rfl) (rcc Tryz.func23) (zeq (n:=1) (by decide))) ?_
        refine sc (fun _ _ S _ hd=>slg rfl (hd.v 3 rfl rfl) (rc2 Tryz.func19 (hd.v 4 rfl rfl) rfl) (zlq (show Q1 3 (q3) ((aG b3_ x3_ y3_)) _ from ⟨b3_,x3_,y3_,rfl,hqa3,hkx3,hky3,(S.num 6 rfl),(S.num 7 rfl)⟩) ((hd.r 5 rfl rfl)).any (by decide) (by decide))) ?_
        refine sc (fun _ _ _ _ hd=>svg rfl (hd.v 3 rfl rfl) (zaQ (zot rfl (hd.v 6 rfl rfl) rfl) (show (decide (zay q3 (1:Int)≤0))=false from hs2))) ?_
        refine sc (fun _ _ _ _ hd=>sv rfl (zaq true rfl (hd.v 3 rfl rfl) (hd.v 7 rfl rfl))) ?_
        exact sn
       ·intro a7 V17 S hB hf
        have S:=S.add (hf.v 8 rfl rfl)
        clear hf S0
        show wpList _ _ _ [_] _ _
        refine tv S (zan rfl (S.at 0 rfl)) fun a S=>?_
        refine hK12 _ _ ?_
        refine wp_seq_k fun K14 hK14=>?_
        have S:=S.keep [11,9,5,4] (ls':=[(11,.bool false),(9,pT g5 0),(5,pT g2 0),(4,pT g1 0)]) rfl
        obtain ⟨W8,hW8⟩: ∃W,W=V17:=⟨_,rfl⟩
        rw [←hW8] at S ⊢
        have S0:=S
        refine fr 19 [132,133,134,135,136,137,138,139,140,141,142,143,144,145,146,147,148,149,150] [IsV (.bool false),IsV (.bool true),IsV (.bool true),IsV (undef),IsV (undef),IsV (undef),IsV (undef),IsV (undef),IsV (undef),IsV (undef),IsV (undef),IsV (undef),IsV (undef),IsV (undef),IsV (undef),IsV (.bool true),IsV (.bool true),IsV (.bool true),IsV (.bool true)] S ?_ ?_
        ·refine sc (fun _ _ S _ _=>sv rfl (zad rfl (S.at 0 rfl))) ?_
         refine sc (fun _ _ _ _ hd=>sv rfl (zb3 (b:=false) rfl (hd.v 0 rfl rfl))) ?_
         refine sc (fun _ _ _ _ hd=>sv rfl (zad rfl (hd.v 1 rfl rfl))) ?_
         refine sc (fun _ _ _ _ hd=>sk rfl (hd.v 2 rfl rfl)) ?_
         refine sc (fun _ _ _ _ hd=>sk rfl (hd.v 2 rfl rfl)) ?_
         refine sc (fun _ _ _ _ hd=>sk rfl (hd.v 2 rfl rfl)) ?_
         refine sc (fun _ _ _ _ hd=>sk rfl (hd.v 2 rfl rfl)) ?_
         refine sc (fun _ _ _ _ hd=>sk rfl (hd.v 2 rfl rfl)) ?_
         refine sc (fun _ _ _ _ hd=>sk rfl (hd.v 2 rfl rfl)) ?_
         refine sc (fun _ _ _ _ hd=>sk rfl (hd.v 2 rfl rfl)) ?_
         refine sc (fun _ _ _ _ hd=>sk rfl (hd.v 2 rfl rfl)) ?_
         refine sc (fun _ _ _ _ hd=>sk rfl (hd.v 2 rfl rfl)) ?_
         refine sc (fun _ _ _ _ hd=>sk rfl (hd.v 2 rfl rfl)) ?_
         refine sc (fun _ _ _ _ hd=>sk rfl (hd.v 2 rfl rfl)) ?_
         refine sc (fun _ _ _ _ hd=>sk rfl (hd.v 2 rfl rfl)) ?_
         refine sc (fun _ _ _ _ hd=>sv rfl (zaq true rfl (hd.v 2 rfl rfl) rfl)) ?_
         refine sc (fun _ _ _ _ hd=>sv rfl (zad rfl (hd.v 15 rfl rfl))) ?_
         refine sc (fun _ _ S _ hd=>slg rfl (hd.v 16 rfl rfl) (rc0 Tryz.func47) (zb5 (T.keep S.below))) ?_
         refine sc (fun _ _ _ _ hd=>sv rfl (zaq true rfl (hd.v 16 rfl rfl) (hd.v 17 rfl rfl))) ?_
         exact sn
        ·intro a8 V18 S hB hf
         have S:=S.add (hf.v 18 rfl rfl)
         clear hf S0
         show wpList _ _ _ [_] _ _
         refine tv S (zan rfl (S.at 0 rfl)) fun a S=>?_
         refine hK14 _ _ ?_
         refine wp_ret ?_
         exact zaO rfl S (S.at 0 rfl) ⟨_,rfl,rfl,S.below⟩
     ·skip
      rcases Bool.eq_false_or_eq_true (decide (zay q3 ((1:Int):Rat)≤0)) with hs2|hs2
      ·skip
       obtain ⟨W9,hW9⟩: ∃W,W=V14:=⟨_,rfl⟩
       rw [←hW9] at S ⊢
       have S0:=S
       refine fr 9 [123,124,125,126,127,128,129,130,131] [IsV ((aG b3_ x3_ y3_)),IsV (.int .i64 (zay q3 0)),IsV (.bool false),IsV (.bool false),IsV (undef),IsV (undef),IsV (undef),IsV (undef),IsV (.bool false)] S ?_ ?_
       ·refine sc (fun _ _ S _ _=>sv rfl (zab rfl (S.at 10 rfl) (S.bx 3 rfl) Tryz.underlying27 rfl (vs:=(aL b3_ x3_ y3_)) zah rfl)) ?_
        refine sc (fun _ _ S _ hd=>sl rfl (rc1 Tryz.func17 (hd.v 0 rfl rfl)) (zeH (show Q1 3 (q3) ((aG b3_ x3_ y3_)) _ from ⟨b3_,x3_,y3_,rfl,hqa3,hkx3,hky3,(S.num 6 rfl),(S.num 7 rfl)⟩))) ?_
        refine sc (fun _ _ _ _ hd=>sv rfl (zaQ (zgB rfl (hd.v 1 rfl rfl) rfl) (show (decide (0≤zay q3 0))=false from hs1))) ?_
        refine sc (fun _ _ _ _ hd=>sv rfl (zad rfl (hd.v 2 rfl rfl))) ?_
        refine sc (fun _ _ _ _ hd=>sk rfl (hd.v 3 rfl rfl)) ?_
        refine sc (fun _ _ _ _ hd=>sk rfl (hd.v 3 rfl rfl)) ?_
        refine sc (fun _ _ _ _ hd=>sk rfl (hd.v 3 rfl rfl)) ?_
        refine sc (fun _ _ _ _ hd=>sk rfl (hd.v 3 rfl rfl)) ?_
        refine sc (fun _ _ _ _ hd=>sv rfl (zaq false rfl (hd.v 3 rfl rfl) rfl)) ?_
        exact sn
       ·intro a9 V19 S hB hf
        have S:=S.add (hf.v 8 rfl rfl)
        clear hf S0
        show wpList _ _ _ [_] _ _
        refine tv S (zan rfl (S.at 0 rfl)) fun a S=>?_
        refine hK12 _ _ ?_
        refine wp_seq_k fun K15 hK15=>?_
        have S:=S.keep [11,9,5,4] (ls':=[(11,.bool false),(9,pT g5 0),(5,pT g2 0),(4,pT g1 0)]) rfl
        obtain ⟨W10,hW10⟩: ∃W,W=V19:=⟨_,rfl⟩
        rw [←hW10] at S ⊢
        have S0:=S
        refine fr 19 [132,133,134,135,136,137,138,139,140,141,142,143,144,145,146,147,148,149,150] [IsV (.bool false),IsV (.bool true),IsV (.bool true),IsV (undef),IsV (undef),IsV (undef),IsV (undef),IsV (undef),IsV (undef),IsV (undef),IsV (undef),IsV (undef),IsV (undef),IsV (undef),IsV (undef),IsV (.bool true),IsV (.bool true),IsV (.bool true),IsV (.bool true)] S ?_ ?_
        ·refine sc (fun _ _ S _ _=>sv rfl (zad rfl (S.at 0 rfl))) ?_
         refine sc (fun _ _ _ _ hd=>sv rfl (zb3 (b:=false) rfl (hd.v 0 rfl rfl))) ?_
         refine sc (fun _ _ _ _ hd=>sv rfl (zad rfl (hd.v 1 rfl rfl))) ?_
         refine sc (fun _ _ _ _ hd=>sk rfl (hd.v 2 rfl rfl)) ?_
         refine sc (fun _ _ _ _ hd=>sk rfl (hd.v 2 rfl rfl)) ?_
         refine sc (fun _ _ _ _ hd=>sk rfl (hd.v 2 rfl rfl)) ?_
         refine sc (fun _ _ _ _ hd=>sk rfl (hd.v 2 rfl rfl)) ?_
         refine sc (fun _ _ _ _ hd=>sk rfl (hd.v 2 rfl rfl)) ?_
         refine sc (fun _ _ _ _ hd=>sk rfl (hd.v 2 rfl rfl)) ?_
         refine sc (fun _ _ _ _ hd=>sk rfl (hd.v 2 rfl rfl)) ?_
         refine sc (fun _ _ _ _ hd=>sk rfl (hd.v 2 rfl rfl)) ?_
         refine sc (fun _ _ _ _ hd=>sk rfl (hd.v 2 rfl rfl)) ?_
         refine sc (fun _ _ _ _ hd=>sk rfl (hd.v 2 rfl rfl)) ?_
         refine sc (fun _ _ _ _ hd=>sk rfl (hd.v 2 rfl rfl)) ?_
         refine sc (fun _ _ _ _ hd=>sk rfl (hd.v 2 rfl rfl)) ?_
         refine sc (fun _ _ _ _ hd=>sv rfl (zaq true rfl (hd.v 2 rfl rfl) rfl)) ?_
         refine sc (fun _ _ _ _ hd=>sv rfl (zad rfl (hd.v 15 rfl rfl))) ?_
         refine sc (fun _ _ S _ hd=>slg rfl (hd.v 16 rfl rfl) (rc0 Tryz.func47) (zb5 (T.keep S.below))) ?_
         refine sc (fun _ _ _ _ hd=>sv rfl (zaq true rfl (hd.v 16 rfl rfl) (hd.v 17 rfl rfl))) ?_
         exact sn
        ·intro a10 V20 S hB hf
         have S:=S.add (hf.v 18 rfl rfl)
         clear hf S0
         show wpList _ _ _ [_] _ _
         refine tv S (zan rfl (S.at 0 rfl)) fun a S=>?_
         refine hK15 _ _ ?_
         refine wp_ret ?_
         exact zaO rfl S (S.at 0 rfl) ⟨_,rfl,rfl,S.below⟩
      ·skip
       obtain ⟨W11,hW11⟩: ∃W,W=V14:=⟨_,rfl⟩
       rw [←hW11] at S ⊢
       have S0:=S
       refine fr 9 [123,124,125,126,127,128,129,130,131] [IsV ((aG b3_ x3_ y3_)),IsV (.int .i64 (zay q3 0)),IsV (.bool false),IsV (.bool false),IsV (undef),IsV (undef),IsV (undef),IsV (undef),IsV (.bool false)] S ?_ ?_
       ·refine sc (fun _ _ S _ _=>sv rfl (zab rfl (S.at 10 rfl) (S.bx 3 rfl) Tryz.underlying27 rfl (vs:=(aL b3_ x3_ y3_)) zah rfl)) ?_
        refine sc (fun _ _ S _ hd=>sl rfl (rc1 Tryz.func17 (hd.v 0 rfl rfl)) (zeH (show Q1 3 (q3) ((aG b3_ x3_ y3_)) _ from ⟨b3_,x3_,y3_,rfl,hqa3,hkx3,hky3,(S.num 6 rfl),(S.num 7 rfl)⟩))) ?_
        refine sc (fun _ _ _ _ hd=>sv rfl (zaQ (zgB rfl (hd.v 1 rfl rfl) rfl) (show (decide (0≤zay q3 0))=false from hs1))) ?_
        refine sc (fun _ _ _ _ hd=>sv rfl (zad rfl (hd.v 2 rfl rfl))) ?_
        refine sc (fun _ _ _ _ hd=>sk rfl (hd.v 3 rfl rfl)) ?_
        refine sc (fun _ _ _ _ hd=>sk rfl (hd.v 3 rfl rfl)) ?_
        refine sc (fun _ _ _ _ hd=>sk rfl (hd.v 3 rfl rfl)) ?_
        refine sc (fun _ _ _ _ hd=>sk rfl (hd.v 3 rfl rfl)) ?_
        refine sc (fun _ _ _ _ hd=>sv rfl (zaq false rfl (hd.v 3 rfl rfl) rfl)) ?_
        exact sn
       ·intro a11 V21 S hB hf
        have S:=S.add (hf.v 8 rfl rfl)
        clear hf S0
        show wpList _ _ _ [_] _ _
        refine tv S (zan rfl (S.at 0 rfl)) fun a S=>?_
        refine hK12 _ _ ?_
        refine wp_seq_k fun K16 hK16=>?_
        have S:=S.keep [11,9,5,4] (ls':=[(11,.bool false),(9,pT g5 0),(5,pT g2 0),(4,pT g1 0)]) rfl
        obtain ⟨W12,hW12⟩: ∃W,W=V21:=⟨_,rfl⟩
        rw [←hW12] at S ⊢
        have S0:=S
        refine fr 19 [132,133,134,135,136,137,138,139,140,141,142,143,144,145,146,147,148,149,150] [IsV (.bool false),IsV (.bool true),IsV (.bool true),IsV (undef),IsV (undef),IsV (undef),IsV (undef),IsV (undef),IsV (undef),IsV (undef),IsV (undef),IsV (undef),IsV (undef),IsV (undef),IsV (undef),IsV (.bool true),IsV (.bool true),IsV (.bool true),IsV (.bool true)] S ?_ ?_
        ·refine sc (fun _ _ S _ _=>sv rfl (zad rfl (S.at 0 rfl))) ?_
         refine sc (fun _ _ _ _ hd=>sv rfl (zb3 (b:=false) rfl (hd.v 0 rfl rfl))) ?_
         refine sc (fun _ _ _ _ hd=>sv rfl (zad rfl (hd.v 1 rfl rfl))) ?_
         refine sc (fun _ _ _ _ hd=>sk rfl (hd.v 2 rfl rfl)) ?_
         refine sc (fun _ _ _ _ hd=>sk rfl (hd.v 2 rfl rfl)) ?_
         refine sc (fun _ _ _ _ hd=>sk rfl (hd.v 2 rfl rfl)) ?_
         refine sc (fun _ _ _ _ hd=>sk rfl (hd.v 2 rfl rfl)) ?_
         refine sc (fun _ _ _ _ hd=>sk rfl (hd.v 2 rfl rfl)) ?_
         refine sc (fun _ _ _ _ hd=>sk rfl (hd.v 2 rfl rfl)) ?_
         refine sc (fun _ _ _ _ hd=>sk rfl (hd.v 2 rfl rfl)) ?_
         refine sc (fun _ _ _ _ hd=>sk rfl (hd.v 2 rfl rfl)) ?_
         refine sc (fun _ _ _ _ hd=>sk rfl (hd.v 2 rfl rfl)) ?_
         refine sc (fun _ _ _ _ hd=>sk rfl (hd.v 2 rfl rfl)) ?_
         refine sc (fun _ _ _ _ hd=>sk rfl (hd.v 2 rfl rfl)) ?_
         refine sc (fun _ _ _ _ hd=>sk rfl (hd.v 2 rfl rfl)) ?_
         refine sc (fun _ _ _ _ hd=>sv rfl (zaq true rfl (hd.v 2 rfl rfl) rfl)) ?_
         refine sc (fun _ _ _ _ hd=>sv rfl (zad rfl (hd.v 15 rfl rfl))) ?_
         refine sc (fun _ _ S _ hd=>slg rfl (hd.v 16 rfl rfl) (rc0 Tryz.func47) (zb5 (T.keep S.below))) ?_
         refine sc (fun _ _ _ _ hd=>sv rfl (zaq true rfl (hd.v 16 rfl rfl) (hd.v 17 rfl rfl))) ?_
         exact sn
        ·intro a12 V22 S hB hf
         have S:=S.add (hf.v 18 rfl rfl)
         clear hf S0
         show wpList _ _ _ [_] _ _
         refine tv S (zan rfl (S.at 0 rfl)) fun a S=>?_
         refine hK16 _ _ ?_
         refine wp_ret ?_
         exact zaO rfl S (S.at 0 rfl) ⟨_,rfl,rfl,S.below⟩
theorem zm6 (b0_:Bool) (x0_ y0_:Num) (d0_:Bool) (z0_ w0_:Num) (b1_:Bool) (x1_ y1_:Num) (d1_:Bool) (z1_ w1_:Num) (b2_:Bool) (x2_ y2_:Num) (d2_:Bool) (z2_ w2_:Num) (b3_:Bool) (x3_ y3_:Num) {V:World} (T:TT V) (ox0:x0_.ok V V.heap.size) (oy0:y0_.ok V V.heap.size) (oz0:z0_.ok V V.heap.size) (ow0:w0_.ok V V.heap.size) (ox1:x1_.ok V V.heap.size) (oy1:y1_.ok V V.heap.size) (oz1:z1_.ok V V.heap.size) (ow1:w1_.ok V V.heap.size) (ox2:x2_.ok V V.heap.size) (oy2:y2_.ok V V.heap.size) (oz2:z2_.ok V V.heap.size) (ow2:w2_.ok V V.heap.size) (ox3:x3_.ok V V.heap.size) (oy3:y3_.ok V V.heap.size) (hL:zcS [(b0_,x0_,y0_,d0_,z0_,w0_),(b1_,x1_,y1_,d1_,z1_,w1_),(b2_,x2_,y2_,d2_,z2_,w2_)]=false) (hT3:decide ((3:Int)<((max x3_.n y3_.n:Nat):Int))=true):
  Calls Tryz.prog 7 #[(aP b0_ x0_ y0_ d0_ z0_ w0_),(aP b1_ x1_ y1_ d1_ z1_ w1_),(aP b2_ x2_ y2_ d2_ z2_ w2_),(aG b3_ x3_ y3_)] V (zal V (fun v _=>v= .bool true)):=by
 obtain ⟨hL0,hL1,hL2⟩:=zd7 hL
 obtain ⟨hkx0,hky0,hkz0,hkw0⟩:=zbX hL0
 obtain ⟨hkx1,hky1,hkz1,hkw1⟩:=zbX hL1
 obtain ⟨hkx2,hky2,hkz2,hkw2⟩:=zbX hL2
 obtain ⟨q0,hqa0⟩: ∃q,qOf b0_ x0_.N y0_.N=q:=⟨_,rfl⟩
 obtain ⟨r0,hra0⟩: ∃q,qOf d0_ z0_.N w0_.N=q:=⟨_,rfl⟩
 obtain ⟨q1,hqa1⟩: ∃q,qOf b1_ x1_.N y1_.N=q:=⟨_,rfl⟩
 obtain ⟨r1,hra1⟩: ∃q,qOf d1_ z1_.N w1_.N=q:=⟨_,rfl⟩
 obtain ⟨q2,hqa2⟩: ∃q,qOf b2_ x2_.N y2_.N=q:=⟨_,rfl⟩
 obtain ⟨r2,hra2⟩: ∃q,qOf d2_ z2_.N w2_.N=q:=⟨_,rfl⟩
 obtain ⟨q3,hqa3⟩: ∃q,qOf b3_ x3_.N y3_.N=q:=⟨_,rfl⟩
 refine zar (e:=[x3_,y3_,x2_,y2_,z2_,w2_,x1_,y1_,z1_,w1_,x0_,y0_,z0_,w0_]) Tryz.func7 rfl Tryz.ntmps7 (Nat.le_of_ble_eq_true rfl) [(0,(aP b0_ x0_ y0_ d0_ z0_ w0_)),(1,(aP b1_ x1_ y1_ d1_ z1_ w1_)),(2,(aP b2_ x2_ y2_ d2_ z2_ w2_)),(3,(aG b3_ x3_ y3_))] rfl (zaa ox3 (zaa oy3 (zaa ox2 (zaa oy2 (zaa oz2 (zaa ow2 (zaa ox1 (zaa oy1 (zaa oz1 (zaa ow1 (zaa ox0 (zaa oy0 (zaa oz0 (zaa ow0 zaE)))))))))))))) (fun a S=>?_)
 refine wp_seq_k fun K1 hK1=>?_
 refine zac ?_
 refine ti S (cs:=(lP b0_ x0_ y0_ d0_ z0_ w0_)) (zas rfl (S.at 0 rfl) rfl) (fun g1=>[⟨g1,53,(lP b0_ x0_ y0_ d0_ z0_ w0_)⟩]) fun g1 a V1 hgg1 S=>?_
 refine ti S (cs:=(lP b1_ x1_ y1_ d1_ z1_ w1_)) (zas rfl (S.at 2 rfl) rfl) (fun g2=>[⟨g1,53,(lP b0_ x0_ y0_ d0_ z0_ w0_)⟩,⟨g2,53,(lP b1_ x1_ y1_ d1_ z1_ w1_)⟩]) fun g2 a V2 hgg2 S=>?_
 refine ti S (cs:=(lP b2_ x2_ y2_ d2_ z2_ w2_)) (zas rfl (S.at 4 rfl) rfl) (fun g3=>[⟨g1,53,(lP b0_ x0_ y0_ d0_ z0_ w0_)⟩,⟨g2,53,(lP b1_ x1_ y1_ d1_ z1_ w1_)⟩,⟨g3,53,(lP b2_ x2_ y2_ d2_ z2_ w2_)⟩]) fun g3 a V3 hgg3 S=>?_
 refine ti S (cs:=(aL b3_ x3_ y3_)) (zas rfl (S.at 6 rfl) rfl) (fun g4=>[⟨g1,53,(lP b0_ x0_ y0_ d0_ z0_ w0_)⟩,⟨g2,53,(lP b1_ x1_ y1_ d1_ z1_ w1_)⟩,⟨g3,53,(lP b2_ x2_ y2_ d2_ z2_ w2_)⟩,⟨g4,27,(aL b3_ x3_ y3_)⟩]) fun g4 a V4 hgg4 S=>?_
 refine tv S (zaB rfl) fun a S=>?_
 refine hK1 _ _ ?_
 refine wp_seq_k fun K2 hK2=>?_
 refine wp_seq_k fun K3 hK3=>?_
 refine zac ?_
 refine tv S (zab rfl (S.at 4 rfl) (S.bx 0 rfl) Tryz.underlying53 rfl (vs:=(lP b0_ x0_ y0_ d0_ z0_ w0_)) zak rfl) fun a S=>?_
 refine tv S (zab rfl (S.at 4 rfl) (S.bx 1 rfl) Tryz.underlying53 rfl (vs:=(lP b1_ x1_ y1_ d1_ z1_ w1_)) zak rfl) fun a S=>?_
 refine tv S (zab rfl (S.at 4 rfl) (S.bx 2 rfl) Tryz.underlying53 rfl (vs:=(lP b2_ x2_ y2_ d2_ z2_ w2_)) zak rfl) fun a S=>?_
 refine ty S (F:=GP ([(b0_,x0_,y0_,d0_,z0_,w0_),(b1_,x1_,y1_,d1_,z1_,w1_),(b2_,x2_,y2_,d2_,z2_,w2_)])) (zbZ rfl (S.at 2 rfl) (S.at 1 rfl) (S.at 0 rfl) (S.num 10 rfl) (S.num 11 rfl) (S.num 12 rfl) (S.num 13 rfl) (S.num 6 rfl) (S.num 7 rfl) (S.num 8 rfl) (S.num 9 rfl) (S.num 2 rfl) (S.num 3 rfl) (S.num 4 rfl) (S.num 5 rfl)) fun v a V5 hF hb S=>?_
 obtain ⟨ov1,hov1⟩: ∃z,z=v:=⟨_,rfl⟩
 rw [←hov1] at hF S
 have rov1:=hF
 refine tc S (F:=(fun v _=>v= .bool false)) (rc1 Tryz.func75 (S.at 0 rfl)) (zdh rov1 hL) fun v a V6 hF hb S=>?_
 replace rov1:=rov1.keep hb
 subst hF
 refine tv S (zad rfl (S.at 0 rfl)) fun a S=>?_
 refine tvg S (S.at 0 rfl) (zae rfl (S.at 7 rfl) (za8 _)) fun a S=>?_
 refine tvg S (S.at 1 rfl) (zae rfl (S.at 0 rfl) (zbI _)) fun a S=>?_
 refine tvg S (S.at 2 rfl) (zav rfl (S.at 0 rfl) (S.bx 3 rfl) (Tryz.isAgg23 _) rfl) fun a S=>?_
 refine tvg S (S.at 3 rfl) (zbJ (by decide) rfl (S.at 0 rfl)) fun a S=>?_
 refine tvg S (S.at 4 rfl) (zae rfl (S.at 11 rfl) (za2 _)) fun a S=>?_
 refine tvg S (S.at 5 rfl) (zav rfl (S.at 0 rfl) (S.bx 3 rfl) (Tryz.isAgg23 _) rfl) fun a S=>?_
 refine tvg S (S.at 6 rfl) (zbJ (by decide) rfl (S.at 0 rfl)) fun a S=>?_
 refine tvg S (S.at 7 rfl) (zf7 rfl (S.at 3 rfl) (S.at 0 rfl)) fun a S=>?_
 refine tvg S (S.at 8 rfl) (zaQ (zc6 rfl (S.at 0 rfl) rfl) (show (decide (3<((max x3_.n y3_.n:Nat):Int)))=true from hT3)) fun a S=>?_
 refine tv S (zaq false rfl (S.at 9 rfl) (S.at 0 rfl)) fun a S=>?_
 refine hK3 _ _ ?_
 refine wp_cond_true (S.at 0 rfl) ?_
 refine wp_seq_k fun K4 hK4=>?_
 have S:=S.keep [8] (ls':=[(8,.bool false)]) rfl
 refine zac ?_
 refine tc S (F:=(fun v _=>v= .bool true)) (rc0 Tryz.func47) (zb5 (T.keep S.below)) fun v a V7 hF hb S=>?_
 subst hF
 refine zbe S (v:= .bool true) (zan rfl (S.at 0 rfl)) rfl rfl (by decide) (ls':=[(28,.bool true)]) rfl (fun a S=>?_)
 refine hK4 _ _ ?_
 refine wp_ret ?_
 exact zaO rfl S (S.at 0 rfl) ⟨_,rfl,rfl,S.below⟩
theorem zkZ (b0_:Bool) (x0_ y0_:Num) (d0_:Bool) (z0_ w0_:Num) (b1_:Bool) (x1_ y1_:Num) (d1_:Bool) (z1_ w1_:Num) (b2_:Bool) (x2_ y2_:Num) (d2_:Bool) (z2_ w2_:Num) (b3_:Bool) (x3_ y3_:Num) {V:World} (T:TT V) (ox0:x0_.ok V V.heap.size) (oy0:y0_.ok V V.heap.size) (oz0:z0_.ok V V.heap.size) (ow0:w0_.ok V V.heap.size) (ox1:x1_.ok V V.heap.size) (oy1:y1_.ok V V.heap.size) (oz1:z1_.ok V V.heap.size) (ow1:w1_.ok V V.heap.size) (ox2:x2_.ok V V.heap.size) (oy2:y2_.ok V V.heap.size) (oz2:z2_.ok V V.heap.size) (ow2:w2_.ok V V.heap.size) (ox3:x3_.ok V V.heap.size) (oy3:y3_.ok V V.heap.size) (hL:zcS [(b0_,x0_,y0_,d0_,z0_,w0_),(b1_,x1_,y1_,d1_,z1_,w1_),(b2_,x2_,y2_,d2_,z2_,w2_)]=true):
  Calls Tryz.prog 7 #[(aP b0_ x0_ y0_ d0_ z0_ w0_),(aP b1_ x1_ y1_ d1_ z1_ w1_),(aP b2_ x2_ y2_ d2_ z2_ w2_),(aG b3_ x3_ y3_)] V (zal V (fun v _=>v= .bool true)):=by
 obtain ⟨q0,hqa0⟩: ∃q,qOf b0_ x0_.N y0_.N=q:=⟨_,rfl⟩
 obtain ⟨r0,hra0⟩: ∃q,qOf d0_ z0_.N w0_.N=q:=⟨_,rfl⟩
 obtain ⟨q1,hqa1⟩: ∃q,qOf b1_ x1_.N y1_.N=q:=⟨_,rfl⟩
 obtain ⟨r1,hra1⟩: ∃q,qOf d1_ z1_.N w1_.N=q:=⟨_,rfl⟩
 obtain ⟨q2,hqa2⟩: ∃q,qOf b2_ x2_.N y2_.N=q:=⟨_,rfl⟩
 obtain ⟨r2,hra2⟩: ∃q,qOf d2_ z2_.N w2_.N=q:=⟨_,rfl⟩
 obtain ⟨q3,hqa3⟩: ∃q,qOf b3_ x3_.N y3_.N=q:=⟨_,rfl⟩
 refine zar (e:=[x3_,y3_,x2_,y2_,z2_,w2_,x1_,y1_,z1_,w1_,x0_,y0_,z0_,w0_]) Tryz.func7 rfl Tryz.ntmps7 (Nat.le_of_ble_eq_true rfl) [(0,(aP b0_ x0_ y0_ d0_ z0_ w0_)),(1,(aP b1_ x1_ y1_ d1_ z1_ w1_)),(2,(aP b2_ x2_ y2_ d2_ z2_ w2_)),(3,(aG b3_ x3_ y3_))] rfl (zaa ox3 (zaa oy3 (zaa ox2 (zaa oy2 (zaa oz2 (zaa ow2 (zaa ox1 (zaa oy1 (zaa oz1 (zaa ow1 (zaa ox0 (zaa oy0 (zaa oz0 (zaa ow0 zaE)))))))))))))) (fun a S=>?_)
 refine wp_seq_k fun K1 hK1=>?_
 refine zac ?_
 refine ti S (cs:=(lP b0_ x0_ y0_ d0_ z0_ w0_)) (zas rfl (S.at 0 rfl) rfl) (fun g1=>[⟨g1,53,(lP b0_ x0_ y0_ d0_ z0_ w0_)⟩]) fun g1 a V1 hgg1 S=>?_
 refine ti S (cs:=(lP b1_ x1_ y1_ d1_ z1_ w1_)) (zas rfl (S.at 2 rfl) rfl) (fun g2=>[⟨g1,53,(lP b0_ x0_ y0_ d0_ z0_ w0_)⟩,⟨g2,53,(lP b1_ x1_ y1_ d1_ z1_ w1_)⟩]) fun g2 a V2 hgg2 S=>?_
 refine ti S (cs:=(lP b2_ x2_ y2_ d2_ z2_ w2_)) (zas rfl (S.at 4 rfl) rfl) (fun g3=>[⟨g1,53,(lP b0_ x0_ y0_ d0_ z0_ w0_)⟩,⟨g2,53,(lP b1_ x1_ y1_ d1_ z1_ w1_)⟩,⟨g3,53,(lP b2_ x2_ y2_ d2_ z2_ w2_)⟩]) fun g3 a V3 hgg3 S=>?_
 refine ti S (cs:=(aL b3_ x3_ y3_)) (zas rfl (S.at 6 rfl) rfl) (fun g4=>[⟨g1,53,(lP b0_ x0_ y0_ d0_ z0_ w0_)⟩,⟨g2,53,(lP b1_ x1_ y1_ d1_ z1_ w1_)⟩,⟨g3,53,(lP b2_ x2_ y2_ d2_ z2_ w2_)⟩,⟨g4,27,(aL b3_ x3_ y3_)⟩]) fun g4 a V4 hgg4 S=>?_
 refine tv S (zaB rfl) fun a S=>?_
 refine hK1 _ _ ?_
 refine wp_seq_k fun K2 hK2=>?_
 refine wp_seq_k fun K3 hK3=>?_
 refine zac ?_
 refine tv S (zab rfl (S.at 4 rfl) (S.bx 0 rfl) Tryz.underlying53 rfl (vs:=(lP b0_ x0_ y0_ d0_ z0_ w0_)) zak rfl) fun a S=>?_
 refine tv S (zab rfl (S.at 4 rfl) (S.bx 1 rfl) Tryz.underlying53 rfl (vs:=(lP b1_ x1_ y1_ d1_ z1_ w1_)) zak rfl) fun a S=>?_
 refine tv S (zab rfl (S.at 4 rfl) (S.bx 2 rfl) Tryz.underlying53 rfl (vs:=(lP b2_ x2_ y2_ d2_ z2_ w2_)) zak rfl) fun a S=>?_
 refine ty S (F:=GP ([(b0_,x0_,y0_,d0_,z0_,w0_),(b1_,x1_,y1_,d1_,z1_,w1_),(b2_,x2_,y2_,d2_,z2_,w2_)])) (zbZ rfl (S.at 2 rfl) (S.at 1 rfl) (S.at 0 rfl) (S.num 10 rfl) (S.num 11 rfl) (S.num 12 rfl) (S.num 13 rfl) (S.num 6 rfl) (S.num 7 rfl) (S.num 8 rfl) (S.num 9 rfl) (S.num 2 rfl) (S.num 3 rfl) (S.num 4 rfl) (S.num 5 rfl)) fun v a V5 hF hb S=>?_
 obtain ⟨ov1,hov1⟩: ∃z,z=v:=⟨_,rfl⟩
 rw [←hov1] at hF S
 have rov1:=hF
 refine tc S (F:=(fun v _=>v= .bool true)) (rc1 Tryz.func75 (S.at 0 rfl)) (zdh rov1 hL) fun v a V6 hF hb S=>?_
 replace rov1:=rov1.keep hb
 subst hF
 refine tv S (zad rfl (S.at 0 rfl)) fun a S=>?_
 refine tk S (S.at 0 rfl) fun a S=>?_
 refine tk S (S.at 1 rfl) fun a S=>?_
 refine tk S (S.at 2 rfl) fun a S=>?_
 refine tk S (S.at 3 rfl) fun a S=>?_
 refine tk S (S.at 4 rfl) fun a S=>?_
 refine tk S (S.at 5 rfl) fun a S=>?_
 refine tk S (S.at 6 rfl) fun a S=>?_
 refine tk S (S.at 7 rfl) fun a S=>?_
 refine tk S (S.at 8 rfl) fun a S=>?_
 refine tv S (zaq true rfl (S.at 9 rfl) rfl) fun a S=>?_
 refine hK3 _ _ ?_
 refine wp_cond_true (S.at 0 rfl) ?_
 refine wp_seq_k fun K4 hK4=>?_
 have S:=S.keep [8] (ls':=[(8,.bool false)]) rfl
 refine zac ?_
 refine tc S (F:=(fun v _=>v= .bool true)) (rc0 Tryz.func47) (zb5 (T.keep S.below)) fun v a V7 hF hb S=>?_
 subst hF
 refine zbe S (v:= .bool true) (zan rfl (S.at 0 rfl)) rfl rfl (by decide) (ls':=[(28,.bool true)]) rfl (fun a S=>?_)
 refine hK4 _ _ ?_
 refine wp_ret ?_
 exact zaO rfl S (S.at 0 rfl) ⟨_,rfl,rfl,S.below⟩
end Go.Proofs.YtafokgknenienaaGreatDoor
