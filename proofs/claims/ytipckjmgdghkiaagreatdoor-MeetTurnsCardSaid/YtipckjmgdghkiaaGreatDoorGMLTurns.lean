/- A part. -/
import Derived.Test.YtipckjmgdghkiaaGreatDoorGMtG
set_option maxHeartbeats 4000000
set_option maxRecDepth 100000
namespace Go.Proofs.YtipckjmgdghkiaaGreatDoor
open Go Go.RowKit
theorem zn0 (b0_:Bool)(x0_ y0_:Num)(d0_:Bool)(z0_ w0_:Num)(b1_:Bool)(x1_ y1_:Num)(d1_:Bool)(z1_ w1_:Num)(b2_:Bool)(x2_ y2_:Num)(d2_:Bool)(z2_ w2_:Num)(b3_:Bool)(x3_ y3_:Num)(d3_:Bool)(z3_ w3_:Num)(b4_:Bool)(x4_ y4_:Num)(d4_:Bool)(z4_ w4_:Num){V:World}(T:TT V)(ox0:x0_.oo V)(oy0:y0_.oo V)(oz0:z0_.oo V)(ow0:w0_.oo V)(ox1:x1_.oo V)(oy1:y1_.oo V)(oz1:z1_.oo V)(ow1:w1_.oo V)(ox2:x2_.oo V)(oy2:y2_.oo V)(oz2:z2_.oo V)(ow2:w2_.oo V)(ox3:x3_.oo V)(oy3:y3_.oo V)(oz3:z3_.oo V)(ow3:w3_.oo V)(ox4:x4_.oo V)(oy4:y4_.oo V)(oz4:z4_.oo V)(ow4:w4_.oo V)(hL:zcB [(b0_,x0_,y0_,d0_,z0_,w0_),(b1_,x1_,y1_,d1_,z1_,w1_),(b2_,x2_,y2_,d2_,z2_,w2_),(b3_,x3_,y3_,d3_,z3_,w3_),(b4_,x4_,y4_,d4_,z4_,w4_)]=false):
  Calls Tryz.prog 4 #[(aP b0_ x0_ y0_ d0_ z0_ w0_),(aP b1_ x1_ y1_ d1_ z1_ w1_),(aP b2_ x2_ y2_ d2_ z2_ w2_),(aP b3_ x3_ y3_ d3_ z3_ w3_),(aP b4_ x4_ y4_ d4_ z4_ w4_)] V (zag V (fun v _=>v= .bool true)):=by
 obtain⟨hL0,hL1,hL2,hL3,hL4⟩:=zlR hL
 obtain⟨hkx0,hky0,hkz0,hkw0⟩:=zer hL0
 obtain⟨hkx1,hky1,hkz1,hkw1⟩:=zer hL1
 obtain⟨hkx2,hky2,hkz2,hkw2⟩:=zer hL2
 obtain⟨hkx3,hky3,hkz3,hkw3⟩:=zer hL3
 obtain⟨hkx4,hky4,hkz4,hkw4⟩:=zer hL4
 obtain⟨q0,hqa0⟩:∃q,qOf b0_ x0_.N y0_.N=q:=⟨_,rfl⟩
 obtain⟨r0,hra0⟩:∃q,qOf d0_ z0_.N w0_.N=q:=⟨_,rfl⟩
 obtain⟨q1,hqa1⟩:∃q,qOf b1_ x1_.N y1_.N=q:=⟨_,rfl⟩
 obtain⟨r1,hra1⟩:∃q,qOf d1_ z1_.N w1_.N=q:=⟨_,rfl⟩
 obtain⟨q2,hqa2⟩:∃q,qOf b2_ x2_.N y2_.N=q:=⟨_,rfl⟩
 obtain⟨r2,hra2⟩:∃q,qOf d2_ z2_.N w2_.N=q:=⟨_,rfl⟩
 obtain⟨q3,hqa3⟩:∃q,qOf b3_ x3_.N y3_.N=q:=⟨_,rfl⟩
 obtain⟨r3,hra3⟩:∃q,qOf d3_ z3_.N w3_.N=q:=⟨_,rfl⟩
 obtain⟨q4,hqa4⟩:∃q,qOf b4_ x4_.N y4_.N=q:=⟨_,rfl⟩
 obtain⟨r4,hra4⟩:∃q,qOf d4_ z4_.N w4_.N=q:=⟨_,rfl⟩
 have hP0:∀ {V':World},Below V.heap.size V V'->P1 2 q0 r0 ((aP b0_ x0_ y0_ d0_ z0_ w0_)) V':=fun h=>p1m hqa0 hra0 hkx0 hky0 hkz0 hkw0 (ox0.later h) (oy0.later h) (oz0.later h) (ow0.later h)
 have hM0:SmP 2 (q0,r0):=(hP0 (Below.refl _ V)).sm
 have hP1:∀ {V':World},Below V.heap.size V V'->P1 2 q1 r1 ((aP b1_ x1_ y1_ d1_ z1_ w1_)) V':=fun h=>p1m hqa1 hra1 hkx1 hky1 hkz1 hkw1 (ox1.later h) (oy1.later h) (oz1.later h) (ow1.later h)
 have hM1:SmP 2 (q1,r1):=(hP1 (Below.refl _ V)).sm
 have hP2:∀ {V':World},Below V.heap.size V V'->P1 2 q2 r2 ((aP b2_ x2_ y2_ d2_ z2_ w2_)) V':=fun h=>p1m hqa2 hra2 hkx2 hky2 hkz2 hkw2 (ox2.later h) (oy2.later h) (oz2.later h) (ow2.later h)
 have hM2:SmP 2 (q2,r2):=(hP2 (Below.refl _ V)).sm
 have hP3:∀ {V':World},Below V.heap.size V V'->P1 2 q3 r3 ((aP b3_ x3_ y3_ d3_ z3_ w3_)) V':=fun h=>p1m hqa3 hra3 hkx3 hky3 hkz3 hkw3 (ox3.later h) (oy3.later h) (oz3.later h) (ow3.later h)
 have hM3:SmP 2 (q3,r3):=(hP3 (Below.refl _ V)).sm
 have hP4:∀ {V':World},Below V.heap.size V V'->P1 2 q4 r4 ((aP b4_ x4_ y4_ d4_ z4_ w4_)) V':=fun h=>p1m hqa4 hra4 hkx4 hky4 hkz4 hkw4 (ox4.later h) (oy4.later h) (oz4.later h) (ow4.later h)
 have hM4:SmP 2 (q4,r4):=(hP4 (Below.refl _ V)).sm
 have b0x:Sm 5 (q0+q4):=(hM0.1.add hM4.1).mono (by decide)
 have b0y:Sm 5 (r0+r4):=(hM0.2.add hM4.2).mono (by decide)
 have b1x:Sm 5 (q1+q4):=(hM1.1.add hM4.1).mono (by decide)
 have b1y:Sm 5 (r1+r4):=(hM1.2.add hM4.2).mono (by decide)
 have b2x:Sm 5 (q2+q4):=(hM2.1.add hM4.1).mono (by decide)
 have b2y:Sm 5 (r2+r4):=(hM2.2.add hM4.2).mono (by decide)
 have b3x:Sm 5 (q3+q4):=(hM3.1.add hM4.1).mono (by decide)
 have b3y:Sm 5 (r3+r4):=(hM3.2.add hM4.2).mono (by decide)
 have a0x:Sm 349 (q0+q4):=(hM0.1.add hM4.1).mono (by decide)
 have a0y:Sm 349 (r0+r4):=(hM0.2.add hM4.2).mono (by decide)
 have a1x:Sm 349 (q1+q4):=(hM1.1.add hM4.1).mono (by decide)
 have a1y:Sm 349 (r1+r4):=(hM1.2.add hM4.2).mono (by decide)
 have a2x:Sm 349 (q2+q4):=(hM2.1.add hM4.1).mono (by decide)
 have a2y:Sm 349 (r2+r4):=(hM2.2.add hM4.2).mono (by decide)
 have a3x:Sm 349 (q3+q4):=(hM3.1.add hM4.1).mono (by decide)
 have a3y:Sm 349 (r3+r4):=(hM3.2.add hM4.2).mono (by decide)
 refine fb Tryz.func4 Tryz.ntmps4 (zaa ox4 (zaa oy4 (zaa oz4 (zaa ow4 (zaa ox3 (zaa oy3 (zaa oz3 (zaa ow3 (zaa ox2 (zaa oy2 (zaa oz2 (zaa ow2 (zaa ox1 (zaa oy1 (zaa oz1 (zaa ow1 (zaa ox0 (zaa oy0 (zaa oz0 (zaa ow0 zav)))))))))))))))))))) (fun a S=>?_)
 refine wsp fun K1 hK1=>?_
 refine tb S 0 (lP b0_ x0_ y0_ d0_ z0_ w0_) fun g1 a V1 hgg1 S=>?_
 refine tb S 2 (lP b1_ x1_ y1_ d1_ z1_ w1_) fun g2 a V2 hgg2 S=>?_
 refine tb S 4 (lP b2_ x2_ y2_ d2_ z2_ w2_) fun g3 a V3 hgg3 S=>?_
 refine tb S 6 (lP b3_ x3_ y3_ d3_ z3_ w3_) fun g4 a V4 hgg4 S=>?_
 refine tb S 8 (lP b4_ x4_ y4_ d4_ z4_ w4_) fun g5 a V5 hgg5 S=>?_
 refine ac S fun a S=>?_
 refine hK1 _ _ ?_
 refine wp_seq_k fun K2 hK2=>?_
 refine wsp fun K3 hK3=>?_
 refine lp S 5 0 fun a S=>?_
 refine lp S 5 1 fun a S=>?_
 refine lp S 5 2 fun a S=>?_
 refine lp S 5 3 fun a S=>?_
 refine lp S 5 4 fun a S=>?_
 refine ty S (F:=GP ([(b0_,x0_,y0_,d0_,z0_,w0_),(b1_,x1_,y1_,d1_,z1_,w1_),(b2_,x2_,y2_,d2_,z2_,w2_),(b3_,x3_,y3_,d3_,z3_,w3_),(b4_,x4_,y4_,d4_,z4_,w4_)])) (zkx rfl (S.at 4 rfl) (S.at 3 rfl) (S.at 2 rfl) (S.at 1 rfl) (S.at 0 rfl) (S.num 16 rfl) (S.num 17 rfl) (S.num 18 rfl) (S.num 19 rfl) (S.num 12 rfl) (S.num 13 rfl) (S.num 14 rfl) (S.num 15 rfl) (S.num 8 rfl) (S.num 9 rfl) (S.num 10 rfl) (S.num 11 rfl) (S.num 4 rfl) (S.num 5 rfl) (S.num 6 rfl) (S.num 7 rfl) (S.num 0 rfl) (S.num 1 rfl) (S.num 2 rfl) (S.num 3 rfl)) fun v a V6 hF hb S=>?_
 obtain⟨ov1,hov1⟩:∃z,z=v:=⟨_,rfl⟩
 rw[<-hov1]at hF S
 have rov1:=hF
 refine tc S (rc1 Tryz.func8 (S.at 0 rfl)) (zeJ rov1 hL) fun v a V7 hF hb S=>?_
 replace rov1:=rov1.keep hb
 subst hF
 refine hK3 _ _ ?_
 refine wp_cond_false (S.at 0 rfl) ?_
 refine wp_skip ?_
 refine hK2 _ _ ?_
 refine wp_seq_k fun K4 hK4=>?_
 have S:=S.keep [9,8,7,6,5] (ls':=[(9,pT g5 0),(8,pT g4 0),(7,pT g3 0),(6,pT g2 0),(5,pT g1 0)]) rfl
 refine zaA ?_
 refine lp S 4 0 fun a S=>?_
 refine lp S 4 1 fun a S=>?_
 refine lp S 4 2 fun a S=>?_
 refine lp S 4 3 fun a S=>?_
 refine tc S (F:=MT 50 (zaB (q0,r0) (q1,r1) (q2,r2) (q3,r3))) (rc4 Tryz.func17 (S.at 3 rfl) (S.at 2 rfl) (S.at 1 rfl) (S.at 0 rfl)) (zgU (T.keep S.below) (hP0 S.below) (hP1 S.below) (hP2 S.below) (hP3 S.below) (by decide)) fun v a V8 hF hb S=>?_
 obtain⟨b1,x1,y1,b2,x2,y2,b3,x3,y3,b4,x4,y4,rfl,⟨hq1,hq2,hk1,hk2,hk3,hk4,ok1,ok2,ok3,ok4⟩,⟨hq3,hq4,hk5,hk6,hk7,hk8,ok5,ok6,ok7,ok8⟩⟩:=hF
 have S:=S.know ok1
 have S:=S.know ok2
 have S:=S.know ok3
 have S:=S.know ok4
 have S:=S.know ok5
 have S:=S.know ok6
 have S:=S.know ok7
 have S:=S.know ok8
 refine ti S (cs:=[.int .i8 0,.bool false,.slice none 0 0,.slice none 0 0,.bool false,.slice none 0 0,.slice none 0 0,.bool false,.slice none 0 0,.slice none 0 0,.bool false,.slice none 0 0,.slice none 0 0]) (zam rfl (Tryz.zeroValue42 _) rfl) (fun g6=>[⟨g1,29,(lP b0_ x0_ y0_ d0_ z0_ w0_)⟩,⟨g2,29,(lP b1_ x1_ y1_ d1_ z1_ w1_)⟩,⟨g3,29,(lP b2_ x2_ y2_ d2_ z2_ w2_)⟩,⟨g4,29,(lP b3_ x3_ y3_ d3_ z3_ w3_)⟩,⟨g5,29,(lP b4_ x4_ y4_ d4_ z4_ w4_)⟩,⟨g6,42,[.int .i8 0,.bool false,.slice none 0 0,.slice none 0 0,.bool false,.slice none 0 0,.slice none 0 0,.bool false,.slice none 0 0,.slice none 0 0,.bool false,.slice none 0 0,.slice none 0 0]⟩]) fun g6 a V9 hgg6 S=>?_
 refine sto S 5 (fun ht=>zai rfl (S.at 0 rfl) (S.at 1 rfl) zaQ rfl (zv5 rfl) ht) fun V10 S=>?_
 refine hK4 _ _ ?_
 refine wp_seq_k fun K5 hK5=>?_
 refine wp_seq_k fun K6 hK6=>?_
 obtain⟨W1,hW1⟩:∃W,W=V10:=⟨_,rfl⟩
 rw[<-hW1]at S ⊢
 have S0:=S
 refine fr 39 [26,27,28,29,30,31,32,33,34,35,36,37,38,39,40,41,42,43,44,45,46,47,48,49,50,51,52,53,54,55,56,57,58,59,60,61,62,63,64] [IsV ((aM ((zaB (q0,r0) (q1,r1) (q2,r2) (q3,r3)).kind) b1 x1 y1 b2 x2 y2 b3 x3 y3 b4 x4 y4)),IsV ((aP b1_ x1_ y1_ d1_ z1_ w1_)),IsV ((aP b0_ x0_ y0_ d0_ z0_ w0_)),IsV ((aP b2_ x2_ y2_ d2_ z2_ w2_)),IsV ((aP b3_ x3_ y3_ d3_ z3_ w3_)),MT 50 (zaB (q1,r1) (q0,r0) (q2,r2) (q3,r3)),iB,iF,iF,IsV ((aM ((zaB (q0,r0) (q1,r1) (q2,r2) (q3,r3)).kind) b1 x1 y1 b2 x2 y2 b3 x3 y3 b4 x4 y4)),IsV ((aP b0_ x0_ y0_ d0_ z0_ w0_)),IsV ((aP b1_ x1_ y1_ d1_ z1_ w1_)),IsV ((aP b3_ x3_ y3_ d3_ z3_ w3_)),IsV ((aP b2_ x2_ y2_ d2_ z2_ w2_)),MT 50 (zaB (q0,r0) (q1,r1) (q3,r3) (q2,r2)),iB,iF,iF,iF,IsV ((aM ((zaB (q0,r0) (q1,r1) (q2,r2) (q3,r3)).kind) b1 x1 y1 b2 x2 y2 b3 x3 y3 b4 x4 y4)),IsV ((aP b2_ x2_ y2_ d2_ z2_ w2_)),IsV ((aP b3_ x3_ y3_ d3_ z3_ w3_)),IsV ((aP b0_ x0_ y0_ d0_ z0_ w0_)),IsV ((aP b1_ x1_ y1_ d1_ z1_ w1_)),MT 50 (zaB (q2,r2) (q3,r3) (q0,r0) (q1,r1)),iB,iF,iF,iF,IsV ((aP b3_ x3_ y3_ d3_ z3_ w3_)),IsV ((aP b2_ x2_ y2_ d2_ z2_ w2_)),IsV ((aP b1_ x1_ y1_ d1_ z1_ w1_)),IsV ((aP b0_ x0_ y0_ d0_ z0_ w0_)),IsV (.bool ((zaB (q3,r3) (q2,r2) (q1,r1) (q0,r0)).has)),IsV (pT g6 0),IsV (.int .i8 ((zaB (q0,r0) (q1,r1) (q2,r2) (q3,r3)).kind)),IsV (.bool (!decide ((zaB (q0,r0) (q1,r1) (q2,r2) (q3,r3)).kind=0))),iF,iF] S ?_ ?_
 ·refine sc (fun _ _ S _ _=>sv rfl (zad rfl (S.at 0 rfl) (S.bx 5 rfl) Tryz.underlying42 rfl (vs:=(lM ((zaB (q0,r0) (q1,r1) (q2,r2) (q3,r3)).kind) b1 x1 y1 b2 x2 y2 b3 x3 y3 b4 x4 y4)) zaQ rfl)) ?_
  refine sc (fun _ _ S _ _=>sv rfl (za5 rfl (S.at 9 rfl) (S.bx 1 rfl) rfl)) ?_
  refine sc (fun _ _ S _ _=>sv rfl (za5 rfl (S.at 10 rfl) (S.bx 0 rfl) rfl)) ?_
  refine sc (fun _ _ S _ _=>sv rfl (za5 rfl (S.at 8 rfl) (S.bx 2 rfl) rfl)) ?_
  refine sc (fun _ _ S _ _=>sv rfl (za5 rfl (S.at 7 rfl) (S.bx 3 rfl) rfl)) ?_
  refine sc (fun _ _ S _ hd=>sl rfl (rc4 Tryz.func17 (hd.v 1 rfl rfl) (hd.v 2 rfl rfl) (hd.v 3 rfl rfl) (hd.v 4 rfl rfl)) (zgU (T.keep S.below) (hP1 S.below) (hP0 S.below) (hP2 S.below) (hP3 S.below) (by decide))) ?_
  refine sc (fun _ _ S _ hd=>sl rfl (rc2 Tryz.func16 (hd.v 0 rfl rfl) rfl) (zd2 ((show MT 50 (zaB (q0,r0) (q1,r1) (q2,r2) (q3,r3)) _ _ from mtm (zew S 4 hq1 hq2 hk1 hk2 hk3 hk4) (zew S 0 hq3 hq4 hk5 hk6 hk7 hk8))) (MT.of ((hd.r 5 rfl rfl)) (by first|exact zee|exact zdG|exact zef)))) ?_
  refine sc (fun _ _ _ _ hd=>sv rfl (zbS (b:=true) rfl (hd.v 6 rfl rfl))) ?_
  refine sc (fun _ _ _ _ hd=>sv rfl (zan rfl (hd.v 7 rfl rfl))) ?_
  refine sc (fun _ _ S _ hd=>svg rfl (hd.v 8 rfl rfl) (zad rfl (S.at 0 rfl) (S.bx 5 rfl) Tryz.underlying42 rfl (vs:=(lM ((zaB (q0,r0) (q1,r1) (q2,r2) (q3,r3)).kind) b1 x1 y1 b2 x2 y2 b3 x3 y3 b4 x4 y4)) zaQ rfl)) ?_
  refine sc (fun _ _ S _ hd=>svg rfl (hd.v 8 rfl rfl) (za5 rfl (S.at 10 rfl) (S.bx 0 rfl) rfl)) ?_
  refine sc (fun _ _ S _ hd=>svg rfl (hd.v 8 rfl rfl) (za5 rfl (S.at 9 rfl) (S.bx 1 rfl) rfl)) ?_
  refine sc (fun _ _ S _ hd=>svg rfl (hd.v 8 rfl rfl) (za5 rfl (S.at 7 rfl) (S.bx 3 rfl) rfl)) ?_
  refine sc (fun _ _ S _ hd=>svg rfl (hd.v 8 rfl rfl) (za5 rfl (S.at 8 rfl) (S.bx 2 rfl) rfl)) ?_
  refine sc (fun _ _ S _ hd=>slg rfl (hd.v 8 rfl rfl) (rc4 Tryz.func17 (hd.v 10 rfl rfl) (hd.v 11 rfl rfl) (hd.v 12 rfl rfl) (hd.v 13 rfl rfl)) (zgU (T.keep S.below) (hP0 S.below) (hP1 S.below) (hP3 S.below) (hP2 S.below) (by decide))) ?_
  refine sc (fun _ _ S _ hd=>slg rfl (hd.v 8 rfl rfl) (rc2 Tryz.func16 (hd.v 9 rfl rfl) rfl) (zd2 ((show MT 50 (zaB (q0,r0) (q1,r1) (q2,r2) (q3,r3)) _ _ from mtm (zew S 4 hq1 hq2 hk1 hk2 hk3 hk4) (zew S 0 hq3 hq4 hk5 hk6 hk7 hk8))) (MT.of ((hd.r 14 rfl rfl)) (by first|exact zee|exact zdG|exact zef)))) ?_
  refine sc (fun _ _ _ _ hd=>svg rfl (hd.v 8 rfl rfl) (zbS (b:=true) rfl (hd.v 15 rfl rfl))) ?_
  refine sc (fun _ _ _ _ hd=>sv rfl (zaG false rfl (hd.v 8 rfl rfl) (hd.v 16 rfl rfl))) ?_
  refine sc (fun _ _ _ _ hd=>sv rfl (zan rfl (hd.v 17 rfl rfl))) ?_
  refine sc (fun _ _ S _ hd=>svg rfl (hd.v 18 rfl rfl) (zad rfl (S.at 0 rfl) (S.bx 5 rfl) Tryz.underlying42 rfl (vs:=(lM ((zaB (q0,r0) (q1,r1) (q2,r2) (q3,r3)).kind) b1 x1 y1 b2 x2 y2 b3 x3 y3 b4 x4 y4)) zaQ rfl)) ?_
  refine sc (fun _ _ S _ hd=>svg rfl (hd.v 18 rfl rfl) (za5 rfl (S.at 8 rfl) (S.bx 2 rfl) rfl)) ?_
  refine sc (fun _ _ S _ hd=>svg rfl (hd.v 18 rfl rfl) (za5 rfl (S.at 7 rfl) (S.bx 3 rfl) rfl)) ?_
  refine sc (fun _ _ S _ hd=>svg rfl (hd.v 18 rfl rfl) (za5 rfl (S.at 10 rfl) (S.bx 0 rfl) rfl)) ?_
  refine sc (fun _ _ S _ hd=>svg rfl (hd.v 18 rfl rfl) (za5 rfl (S.at 9 rfl) (S.bx 1 rfl) rfl)) ?_
  refine sc (fun _ _ S _ hd=>slg rfl (hd.v 18 rfl rfl) (rc4 Tryz.func17 (hd.v 20 rfl rfl) (hd.v 21 rfl rfl) (hd.v 22 rfl rfl) (hd.v 23 rfl rfl)) (zgU (T.keep S.below) (hP2 S.below) (hP3 S.below) (hP0 S.below) (hP1 S.below) (by decide))) ?_
  refine sc (fun _ _ S _ hd=>slg rfl (hd.v 18 rfl rfl) (rc2 Tryz.func16 (hd.v 19 rfl rfl) rfl) (zd2 ((show MT 50 (zaB (q0,r0) (q1,r1) (q2,r2) (q3,r3)) _ _ from mtm (zew S 4 hq1 hq2 hk1 hk2 hk3 hk4) (zew S 0 hq3 hq4 hk5 hk6 hk7 hk8))) (MT.of ((hd.r 24 rfl rfl)) (by first|exact zee|exact zdG|exact zef)))) ?_
  refine sc (fun _ _ _ _ hd=>svg rfl (hd.v 18 rfl rfl) (zbS (b:=true) rfl (hd.v 25 rfl rfl))) ?_
  refine sc (fun _ _ _ _ hd=>sv rfl (zaG false rfl (hd.v 18 rfl rfl) (hd.v 26 rfl rfl))) ?_
  refine sc (fun _ _ _ _ hd=>sv rfl (zan rfl (hd.v 27 rfl rfl))) ?_
  refine sc (fun _ _ S _ hd=>svg rfl (hd.v 28 rfl rfl) (za5 rfl (S.at 7 rfl) (S.bx 3 rfl) rfl)) ?_
  refine sc (fun _ _ S _ hd=>svg rfl (hd.v 28 rfl rfl) (za5 rfl (S.at 8 rfl) (S.bx 2 rfl) rfl)) ?_
  refine sc (fun _ _ S _ hd=>svg rfl (hd.v 28 rfl rfl) (za5 rfl (S.at 9 rfl) (S.bx 1 rfl) rfl)) ?_
  refine sc (fun _ _ S _ hd=>svg rfl (hd.v 28 rfl rfl) (za5 rfl (S.at 10 rfl) (S.bx 0 rfl) rfl)) ?_
  refine sc (fun _ _ S _ hd=>slg rfl (hd.v 28 rfl rfl) (rc4 Tryz.func19 (hd.v 29 rfl rfl) (hd.v 30 rfl rfl) (hd.v 31 rfl rfl) (hd.v 32 rfl rfl)) (zm6 (T.keep S.below) (hP3 S.below) (hP2 S.below) (hP1 S.below) (hP0 S.below) (by decide))) ?_
  refine sc (fun _ _ S _ hd=>svg rfl (hd.v 28 rfl rfl) (zab rfl (S.at 0 rfl) (zb0 _))) ?_
  refine sc (fun _ _ S _ hd=>svg rfl (hd.v 28 rfl rfl) (zap rfl (hd.v 34 rfl rfl) (S.bx 5 rfl) (Tryz.isAgg40 _) rfl)) ?_
  refine sc (fun _ _ _ _ hd=>svg rfl (hd.v 28 rfl rfl) (zm4 rfl (hd.v 35 rfl rfl) rfl)) ?_
  refine sc (fun _ _ _ _ hd=>svg rfl (hd.v 28 rfl rfl) (zbU (c:=false) (znn rfl (hd.v 33 rfl rfl) (hd.v 36 rfl rfl)) zn1)) ?_
  refine sc (fun _ _ _ _ hd=>sv rfl (zaG false rfl (hd.v 28 rfl rfl) (hd.v 37 rfl rfl))) ?_
  exact sn
 ·intro a1 V11 S hB hf
  have S:=S.add (hf.v 38 rfl rfl)
  clear hf S0
  show wpList _ _ _ [] _ _
  refine hK6 _ _ ?_
  refine wp_cond_false (S.at 0 rfl) ?_
  refine wp_skip ?_
  refine hK5 _ _ ?_
  refine wp_seq_k fun K7 hK7=>?_
  obtain⟨W2,hW2⟩:∃W,W=V11:=⟨_,rfl⟩
  rw[<-hW2]at S ⊢
  have S0:=S
  refine fr 14 [65,66,67,68,69,70,71,72,73,74,75,76,77,12] [IsV ((aP b0_ x0_ y0_ d0_ z0_ w0_)),IsV ((aP b4_ x4_ y4_ d4_ z4_ w4_)),PT 5 (q0+q4) (r0+r4),IsV ((aP b1_ x1_ y1_ d1_ z1_ w1_)),IsV ((aP b4_ x4_ y4_ d4_ z4_ w4_)),PT 5 (q1+q4) (r1+r4),IsV ((aP b2_ x2_ y2_ d2_ z2_ w2_)),IsV ((aP b4_ x4_ y4_ d4_ z4_ w4_)),PT 5 (q2+q4) (r2+r4),IsV ((aP b3_ x3_ y3_ d3_ z3_ w3_)),IsV ((aP b4_ x4_ y4_ d4_ z4_ w4_)),PT 5 (q3+q4) (r3+r4),MT 107 (zaB (q0+q4,r0+r4) (q1+q4,r1+r4) (q2+q4,r2+r4) (q3+q4,r3+r4)),RBx (W2) (42) ([.int .i8 0,.bool false,.slice none 0 0,.slice none 0 0,.bool false,.slice none 0 0,.slice none 0 0,.bool false,.slice none 0 0,.slice none 0 0,.bool false,.slice none 0 0,.slice none 0 0])] S ?_ ?_
  ·refine sc (fun _ _ S _ _=>sv rfl (za5 rfl (S.at 11 rfl) (S.bx 0 rfl) rfl)) ?_
   refine sc (fun _ _ S _ _=>sv rfl (za5 rfl (S.at 7 rfl) (S.bx 4 rfl) rfl)) ?_
   refine sc (fun _ _ S _ hd=>sl rfl (rc2 Tryz.func24 (hd.v 0 rfl rfl) (hd.v 1 rfl rfl)) (zcS (zgL (((hP0 S.below)).to rfl rfl (by decide)) (((hP4 S.below)).to rfl rfl (by decide)) a0x a0y) (fun _ _ h=>h.sml b0x b0y))) ?_
   refine sc (fun _ _ S _ _=>sv rfl (za5 rfl (S.at 10 rfl) (S.bx 1 rfl) rfl)) ?_
   refine sc (fun _ _ S _ _=>sv rfl (za5 rfl (S.at 7 rfl) (S.bx 4 rfl) rfl)) ?_
   refine sc (fun _ _ S _ hd=>sl rfl (rc2 Tryz.func24 (hd.v 3 rfl rfl) (hd.v 4 rfl rfl)) (zcS (zgL (((hP1 S.below)).to rfl rfl (by decide)) (((hP4 S.below)).to rfl rfl (by decide)) a1x a1y) (fun _ _ h=>h.sml b1x b1y))) ?_
   refine sc (fun _ _ S _ _=>sv rfl (za5 rfl (S.at 9 rfl) (S.bx 2 rfl) rfl)) ?_
   refine sc (fun _ _ S _ _=>sv rfl (za5 rfl (S.at 7 rfl) (S.bx 4 rfl) rfl)) ?_
   refine sc (fun _ _ S _ hd=>sl rfl (rc2 Tryz.func24 (hd.v 6 rfl rfl) (hd.v 7 rfl rfl)) (zcS (zgL (((hP2 S.below)).to rfl rfl (by decide)) (((hP4 S.below)).to rfl rfl (by decide)) a2x a2y) (fun _ _ h=>h.sml b2x b2y))) ?_
   refine sc (fun _ _ S _ _=>sv rfl (za5 rfl (S.at 8 rfl) (S.bx 3 rfl) rfl)) ?_
   refine sc (fun _ _ S _ _=>sv rfl (za5 rfl (S.at 7 rfl) (S.bx 4 rfl) rfl)) ?_
   refine sc (fun _ _ S _ hd=>sl rfl (rc2 Tryz.func24 (hd.v 9 rfl rfl) (hd.v 10 rfl rfl)) (zcS (zgL (((hP3 S.below)).to rfl rfl (by decide)) (((hP4 S.below)).to rfl rfl (by decide)) a3x a3y) (fun _ _ h=>h.sml b3x b3y))) ?_
   refine sc (fun _ _ S _ hd=>sl rfl (rc4 Tryz.func17 rfl rfl rfl rfl) (zgU (T.keep S.below) ((hd.r 2 rfl rfl)).any ((hd.r 5 rfl rfl)).any ((hd.r 8 rfl rfl)).any ((hd.r 11 rfl rfl)).any (by decide))) ?_
   refine sc (fun _ _ _ hB _=>sy rfl (zq9 (cs:=[.int .i8 0,.bool false,.slice none 0 0,.slice none 0 0,.bool false,.slice none 0 0,.slice none 0 0,.bool false,.slice none 0 0,.slice none 0 0,.bool false,.slice none 0 0,.slice none 0 0]) (zam rfl (Tryz.zeroValue42 _) rfl) hB.size)) ?_
   exact sn
  ·intro a2 V12 S hB hf
   obtain⟨b5,x5,y5,b6,x6,y6,b7,x7,y7,b8,x8,y8,hv1,⟨hq5,hq6,hk9,hk10,hk11,hk12,ok9,ok10,ok11,ok12⟩,⟨hq7,hq8,hk13,hk14,hk15,hk16,ok13,ok14,ok15,ok16⟩⟩:=hf.r 12 rfl rfl
   have S:=S.add hv1
   have S:=S.know ok9
   have S:=S.know ok10
   have S:=S.know ok11
   have S:=S.know ok12
   have S:=S.know ok13
   have S:=S.know ok14
   have S:=S.know ok15
   have S:=S.know ok16
   obtain⟨g7,hvg7,hgg7,hbg7⟩:=hf.r 13 rfl rfl
   have S:=Frm.box (S.add hvg7) S0 hgg7 hbg7 rfl
   have S:Frm 118 [(12,pT g7 0),(77,(aM ((zaB (q0+q4,r0+r4) (q1+q4,r1+r4) (q2+q4,r2+r4) (q3+q4,r3+r4)).kind) b5 x5 y5 b6 x6 y6 b7 x7 y7 b8 x8 y8)),(64,.bool false),(11,pT g6 0),(25,(aM ((zaB (q0,r0) (q1,r1) (q2,r2) (q3,r3)).kind) b1 x1 y1 b2 x2 y2 b3 x3 y3 b4 x4 y4)),(24,(aP b3_ x3_ y3_ d3_ z3_ w3_)),(23,(aP b2_ x2_ y2_ d2_ z2_ w2_)),(22,(aP b1_ x1_ y1_ d1_ z1_ w1_)),(21,(aP b0_ x0_ y0_ d0_ z0_ w0_)),(9,pT g5 0),(8,pT g4 0),(7,pT g3 0),(6,pT g2 0),(5,pT g1 0)] [⟨g1,29,(lP b0_ x0_ y0_ d0_ z0_ w0_)⟩,⟨g2,29,(lP b1_ x1_ y1_ d1_ z1_ w1_)⟩,⟨g3,29,(lP b2_ x2_ y2_ d2_ z2_ w2_)⟩,⟨g4,29,(lP b3_ x3_ y3_ d3_ z3_ w3_)⟩,⟨g5,29,(lP b4_ x4_ y4_ d4_ z4_ w4_)⟩,⟨g6,42,(lM ((zaB (q0,r0) (q1,r1) (q2,r2) (q3,r3)).kind) b1 x1 y1 b2 x2 y2 b3 x3 y3 b4 x4 y4)⟩,⟨g7,42,[.int .i8 0,.bool false,.slice none 0 0,.slice none 0 0,.bool false,.slice none 0 0,.slice none 0 0,.bool false,.slice none 0 0,.slice none 0 0,.bool false,.slice none 0 0,.slice none 0 0]⟩] V _ _ _:=S
   clear hf S0
   show wpList _ _ _ [_] _ _
   refine sto S 6 (fun ht=>zai rfl (S.at 0 rfl) (S.at 1 rfl) zaQ rfl (zv5 rfl) ht) fun V13 S=>?_
   refine hK7 _ _ ?_
   refine wp_seq_k fun K8 hK8=>?_
   refine wsp fun K9 hK9=>?_
   refine tv S (zab rfl (S.at 0 rfl) (zb0 _)) fun a S=>?_
   refine tv S (zap rfl (S.at 0 rfl) (S.bx 6 rfl) (Tryz.isAgg40 _) rfl) fun a S=>?_
   refine tv S (zab rfl (S.at 5 rfl) (zb0 _)) fun a S=>?_
   refine tv S (zap rfl (S.at 0 rfl) (S.bx 5 rfl) (Tryz.isAgg40 _) rfl) fun a S=>?_
   refine tv S (zbU (zm4 rfl (S.at 2 rfl) (S.at 0 rfl)) (show(!decide ((zaB (q0+q4,r0+r4) (q1+q4,r1+r4) (q2+q4,r2+r4) (q3+q4,r3+r4)).kind=(zaB (q0,r0) (q1,r1) (q2,r2) (q3,r3)).kind))=false from(by rw[(zkv (q0:=q0) (r0:=r0) (q1:=q1) (r1:=r1) (q2:=q2) (r2:=r2) (q3:=q3) (r3:=r3) (q4:=q4) (r4:=r4)),zpL];simp))) fun a S=>?_
   refine hK9 _ _ ?_
   refine wp_cond_false (S.at 0 rfl) ?_
   refine wp_skip ?_
   refine hK8 _ _ ?_
   refine wp_seq_k fun K10 hK10=>?_
   refine wp_seq_k fun K11 hK11=>?_
   have S:=S.keep [12,11,9] (ls':=[(12,pT g7 0),(11,pT g6 0),(9,pT g5 0)]) rfl
   refine zaA ?_
   refine tv S (zab rfl (S.at 1 rfl) (zb0 _)) fun a S=>?_
   refine tv S (zap rfl (S.at 0 rfl) (S.bx 5 rfl) (Tryz.isAgg40 _) rfl) fun a S=>?_
   refine tv S (zm3 rfl (S.at 0 rfl) rfl) fun a S=>?_
   refine hK11 _ _ ?_
   rcases zwf (decide ((zaB (q0,r0) (q1,r1) (q2,r2) (q3,r3)).kind=0))with hc85|hc85
   ·refine wp_cond_true ((S.at 0 rfl).trans (congrArg Value.bool hc85)) ?_
    refine wp_seq_k fun K12 hK12=>?_
    obtain⟨W3,hW3⟩:∃W,W=V13:=⟨_,rfl⟩
    rw[<-hW3]at S ⊢
    have S0:=S
    refine fr 13 [86,87,88,89,90,91,92,93,94,95,96,97,98] [IsV (pT g6 1),IsV ((aP b1 x1 y1 b2 x2 y2)),PT 2 (((0:Int):Rat)) (((0:Int):Rat)),iB,iB,IsV (pT g6 7),IsV ((aP b3 x3 y3 b4 x4 y4)),PT 2 (((0:Int):Rat)) (((0:Int):Rat)),iB,iB,iB,iB,iB] S ?_ ?_
    ·refine sc (fun _ _ S _ _=>sv rfl (zab rfl (S.at 4 rfl) (zcf _))) ?_
     refine sc (fun _ _ S _ hd=>sv rfl (za5 rfl (hd.v 0 rfl rfl) (S.bx 5 rfl) rfl)) ?_
     refine sc (fun _ _ _ _ _=>sl rfl (zcZ Tryz.func25) (zbC (n:=0) (m:=0) (by decide))) ?_
     refine sc (fun _ _ S _ hd=>sl rfl (rc2 Tryz.func15 (hd.v 1 rfl rfl) rfl) (zfk (zcz S 12 hq1 hq2 hk1 hk2 hk3 hk4) (hd.r 2 rfl rfl) (congrArg Prod.fst (zfS hc85).1) (congrArg Prod.snd (zfS hc85).1))) ?_
     refine sc (fun _ _ _ _ hd=>sv rfl (zan rfl (hd.v 3 rfl rfl))) ?_
     refine sc (fun _ _ S _ hd=>svg rfl (hd.v 4 rfl rfl) (zab rfl (S.at 4 rfl) (zcg _))) ?_
     refine sc (fun _ _ S _ hd=>svg rfl (hd.v 4 rfl rfl) (za5 rfl (hd.v 5 rfl rfl) (S.bx 5 rfl) rfl)) ?_
     refine sc (fun _ _ _ _ hd=>slg rfl (hd.v 4 rfl rfl) (zcZ Tryz.func25) (zbC (n:=0) (m:=0) (by decide))) ?_
     refine sc (fun _ _ S _ hd=>slg rfl (hd.v 4 rfl rfl) (rc2 Tryz.func15 (hd.v 6 rfl rfl) rfl) (zfk (zcz S 8 hq3 hq4 hk5 hk6 hk7 hk8) (hd.r 7 rfl rfl) (congrArg Prod.fst (zfS hc85).2) (congrArg Prod.snd (zfS hc85).2))) ?_
     refine sc (fun _ _ _ _ hd=>sv rfl (zaG true rfl (hd.v 4 rfl rfl) (hd.v 8 rfl rfl))) ?_
     refine sc (fun _ _ _ _ hd=>sv rfl (zan rfl (hd.v 9 rfl rfl))) ?_
     refine sc (fun _ _ S _ hd=>slg rfl (hd.v 10 rfl rfl) (rc0 Tryz.func9) (zdv (T.keep S.below))) ?_
     refine sc (fun _ _ _ _ hd=>sv rfl (zaG true rfl (hd.v 10 rfl rfl) (hd.v 11 rfl rfl))) ?_
     exact sn
    ·intro a3 V14 S hB hf
     have S:=S.add (hf.v 12 rfl rfl)
     clear hf S0
     show wpList _ _ _ [_] _ _
     refine tv S (zaj rfl (S.at 0 rfl)) fun a S=>?_
     refine hK12 _ _ ?_
     refine wp_ret ?_
     exact zaC rfl S (S.at 0 rfl) ⟨_,rfl,rfl,S.below⟩
   ·refine wp_cond_false ((S.at 0 rfl).trans (congrArg Value.bool hc85)) ?_
    have hknz:(zaB (q0,r0) (q1,r1) (q2,r2) (q3,r3)).kind≠0:=of_decide_eq_false hc85
    obtain⟨hs9,hs9b⟩:=zr1 (by decide) hM0 hM1 hM2 hM3
    have e9f1:(zaB (q0+q4,r0+r4) (q1+q4,r1+r4) (q2+q4,r2+r4) (q3+q4,r3+r4)).fst.1=(zaB (q0,r0) (q1,r1) (q2,r2) (q3,r3)).fst.1+q4:=by rw[(zkv (q0:=q0) (r0:=r0) (q1:=q1) (r1:=r1) (q2:=q2) (r2:=r2) (q3:=q3) (r3:=r3) (q4:=q4) (r4:=r4)),zmV hknz];rfl
    have s9f1:Sm 349 ((zaB (q0,r0) (q1,r1) (q2,r2) (q3,r3)).fst.1+q4):=(hs9.1.add hM4.1).mono (by decide)
    have e9f2:(zaB (q0+q4,r0+r4) (q1+q4,r1+r4) (q2+q4,r2+r4) (q3+q4,r3+r4)).fst.2=(zaB (q0,r0) (q1,r1) (q2,r2) (q3,r3)).fst.2+r4:=by rw[(zkv (q0:=q0) (r0:=r0) (q1:=q1) (r1:=r1) (q2:=q2) (r2:=r2) (q3:=q3) (r3:=r3) (q4:=q4) (r4:=r4)),zmV hknz];rfl
    have s9f2:Sm 349 ((zaB (q0,r0) (q1,r1) (q2,r2) (q3,r3)).fst.2+r4):=(hs9.2.add hM4.2).mono (by decide)
    have e9s1:(zaB (q0+q4,r0+r4) (q1+q4,r1+r4) (q2+q4,r2+r4) (q3+q4,r3+r4)).snd.1=(zaB (q0,r0) (q1,r1) (q2,r2) (q3,r3)).snd.1+q4:=by rw[(zkv (q0:=q0) (r0:=r0) (q1:=q1) (r1:=r1) (q2:=q2) (r2:=r2) (q3:=q3) (r3:=r3) (q4:=q4) (r4:=r4)),zmW hknz];rfl
    have s9s1:Sm 349 ((zaB (q0,r0) (q1,r1) (q2,r2) (q3,r3)).snd.1+q4):=(hs9b.1.add hM4.1).mono (by decide)
    have e9s2:(zaB (q0+q4,r0+r4) (q1+q4,r1+r4) (q2+q4,r2+r4) (q3+q4,r3+r4)).snd.2=(zaB (q0,r0) (q1,r1) (q2,r2) (q3,r3)).snd.2+r4:=by rw[(zkv (q0:=q0) (r0:=r0) (q1:=q1) (r1:=r1) (q2:=q2) (r2:=r2) (q3:=q3) (r3:=r3) (q4:=q4) (r4:=r4)),zmW hknz];rfl
    have s9s2:Sm 349 ((zaB (q0,r0) (q1,r1) (q2,r2) (q3,r3)).snd.2+r4):=(hs9b.2.add hM4.2).mono (by decide)
    refine wp_skip ?_
    refine hK10 _ _ ?_
    refine wp_seq_k fun K13 hK13=>?_
    obtain⟨W4,hW4⟩:∃W,W=V13:=⟨_,rfl⟩
    rw[<-hW4]at S ⊢
    have S0:=S
    refine fr 19 [99,100,101,102,103,104,105,106,107,108,109,110,111,112,113,114,115,116,117] [IsV (pT g7 1),IsV ((aP b5 x5 y5 b6 x6 y6)),IsV (pT g6 1),IsV ((aP b1 x1 y1 b2 x2 y2)),IsV ((aP b4_ x4_ y4_ d4_ z4_ w4_)),PT 349 (((zaB (q0,r0) (q1,r1) (q2,r2) (q3,r3)).fst.1)+q4) (((zaB (q0,r0) (q1,r1) (q2,r2) (q3,r3)).fst.2)+r4),iB,iB,IsV (pT g7 7),IsV ((aP b7 x7 y7 b8 x8 y8)),IsV (pT g6 7),IsV ((aP b3 x3 y3 b4 x4 y4)),IsV ((aP b4_ x4_ y4_ d4_ z4_ w4_)),PT 349 (((zaB (q0,r0) (q1,r1) (q2,r2) (q3,r3)).snd.1)+q4) (((zaB (q0,r0) (q1,r1) (q2,r2) (q3,r3)).snd.2)+r4),iB,iB,iB,iB,iB] S ?_ ?_
    ·refine sc (fun _ _ S _ _=>sv rfl (zab rfl (S.at 3 rfl) (zcf _))) ?_
     refine sc (fun _ _ S _ hd=>sv rfl (za5 rfl (hd.v 0 rfl rfl) (S.bx 6 rfl) rfl)) ?_
     refine sc (fun _ _ S _ _=>sv rfl (zab rfl (S.at 4 rfl) (zcf _))) ?_
     refine sc (fun _ _ S _ hd=>sv rfl (za5 rfl (hd.v 2 rfl rfl) (S.bx 5 rfl) rfl)) ?_
     refine sc (fun _ _ S _ _=>sv rfl (za5 rfl (S.at 5 rfl) (S.bx 4 rfl) rfl)) ?_
     refine sc (fun _ _ S _ hd=>sl rfl (rc2 Tryz.func24 (hd.v 3 rfl rfl) (hd.v 4 rfl rfl)) (zgL (((zcz S 12 hq1 hq2 hk1 hk2 hk3 hk4).any).to rfl rfl (by decide)) (((hP4 S.below)).to rfl rfl (by decide)) s9f1 s9f2)) ?_
     refine sc (fun _ _ S _ hd=>sl rfl (rc2 Tryz.func15 (hd.v 1 rfl rfl) rfl) (zfk (zcz S 4 hq5 hq6 hk9 hk10 hk11 hk12) (hd.r 5 rfl rfl) e9f1 e9f2)) ?_
     refine sc (fun _ _ _ _ hd=>sv rfl (zan rfl (hd.v 6 rfl rfl))) ?_
     refine sc (fun _ _ S _ hd=>svg rfl (hd.v 7 rfl rfl) (zab rfl (S.at 3 rfl) (zcg _))) ?_
     refine sc (fun _ _ S _ hd=>svg rfl (hd.v 7 rfl rfl) (za5 rfl (hd.v 8 rfl rfl) (S.bx 6 rfl) rfl)) ?_
     refine sc (fun _ _ S _ hd=>svg rfl (hd.v 7 rfl rfl) (zab rfl (S.at 4 rfl) (zcg _))) ?_
     refine sc (fun _ _ S _ hd=>svg rfl (hd.v 7 rfl rfl) (za5 rfl (hd.v 10 rfl rfl) (S.bx 5 rfl) rfl)) ?_
     refine sc (fun _ _ S _ hd=>svg rfl (hd.v 7 rfl rfl) (za5 rfl (S.at 5 rfl) (S.bx 4 rfl) rfl)) ?_
     refine sc (fun _ _ S _ hd=>slg rfl (hd.v 7 rfl rfl) (rc2 Tryz.func24 (hd.v 11 rfl rfl) (hd.v 12 rfl rfl)) (zgL (((zcz S 8 hq3 hq4 hk5 hk6 hk7 hk8).any).to rfl rfl (by decide)) (((hP4 S.below)).to rfl rfl (by decide)) s9s1 s9s2)) ?_
     refine sc (fun _ _ S _ hd=>slg rfl (hd.v 7 rfl rfl) (rc2 Tryz.func15 (hd.v 9 rfl rfl) rfl) (zfk (zcz S 0 hq7 hq8 hk13 hk14 hk15 hk16) (hd.r 13 rfl rfl) e9s1 e9s2)) ?_
     refine sc (fun _ _ _ _ hd=>sv rfl (zaG true rfl (hd.v 7 rfl rfl) (hd.v 14 rfl rfl))) ?_
     refine sc (fun _ _ _ _ hd=>sv rfl (zan rfl (hd.v 15 rfl rfl))) ?_
     refine sc (fun _ _ S _ hd=>slg rfl (hd.v 16 rfl rfl) (rc0 Tryz.func9) (zdv (T.keep S.below))) ?_
     refine sc (fun _ _ _ _ hd=>sv rfl (zaG true rfl (hd.v 16 rfl rfl) (hd.v 17 rfl rfl))) ?_
     exact sn
    ·intro a4 V15 S hB hf
     have S:=S.add (hf.v 18 rfl rfl)
     clear hf S0
     show wpList _ _ _ [_] _ _
     refine tv S (zaj rfl (S.at 0 rfl)) fun a S=>?_
     refine hK13 _ _ ?_
     refine wp_ret ?_
     exact zaC rfl S (S.at 0 rfl) ⟨_,rfl,rfl,S.below⟩
theorem zku (b0_:Bool)(x0_ y0_:Num)(d0_:Bool)(z0_ w0_:Num)(b1_:Bool)(x1_ y1_:Num)(d1_:Bool)(z1_ w1_:Num)(b2_:Bool)(x2_ y2_:Num)(d2_:Bool)(z2_ w2_:Num)(b3_:Bool)(x3_ y3_:Num)(d3_:Bool)(z3_ w3_:Num)(b4_:Bool)(x4_ y4_:Num)(d4_:Bool)(z4_ w4_:Num){V:World}(T:TT V)(ox0:x0_.oo V)(oy0:y0_.oo V)(oz0:z0_.oo V)(ow0:w0_.oo V)(ox1:x1_.oo V)(oy1:y1_.oo V)(oz1:z1_.oo V)(ow1:w1_.oo V)(ox2:x2_.oo V)(oy2:y2_.oo V)(oz2:z2_.oo V)(ow2:w2_.oo V)(ox3:x3_.oo V)(oy3:y3_.oo V)(oz3:z3_.oo V)(ow3:w3_.oo V)(ox4:x4_.oo V)(oy4:y4_.oo V)(oz4:z4_.oo V)(ow4:w4_.oo V)(hL:zcB [(b0_,x0_,y0_,d0_,z0_,w0_),(b1_,x1_,y1_,d1_,z1_,w1_),(b2_,x2_,y2_,d2_,z2_,w2_),(b3_,x3_,y3_,d3_,z3_,w3_),(b4_,x4_,y4_,d4_,z4_,w4_)]=true):
  Calls Tryz.prog 4 #[(aP b0_ x0_ y0_ d0_ z0_ w0_),(aP b1_ x1_ y1_ d1_ z1_ w1_),(aP b2_ x2_ y2_ d2_ z2_ w2_),(aP b3_ x3_ y3_ d3_ z3_ w3_),(aP b4_ x4_ y4_ d4_ z4_ w4_)] V (zag V (fun v _=>v= .bool true)):=by
 obtain⟨q0,hqa0⟩:∃q,qOf b0_ x0_.N y0_.N=q:=⟨_,rfl⟩
 obtain⟨r0,hra0⟩:∃q,qOf d0_ z0_.N w0_.N=q:=⟨_,rfl⟩
 obtain⟨q1,hqa1⟩:∃q,qOf b1_ x1_.N y1_.N=q:=⟨_,rfl⟩
 obtain⟨r1,hra1⟩:∃q,qOf d1_ z1_.N w1_.N=q:=⟨_,rfl⟩
 obtain⟨q2,hqa2⟩:∃q,qOf b2_ x2_.N y2_.N=q:=⟨_,rfl⟩
 obtain⟨r2,hra2⟩:∃q,qOf d2_ z2_.N w2_.N=q:=⟨_,rfl⟩
 obtain⟨q3,hqa3⟩:∃q,qOf b3_ x3_.N y3_.N=q:=⟨_,rfl⟩
 obtain⟨r3,hra3⟩:∃q,qOf d3_ z3_.N w3_.N=q:=⟨_,rfl⟩
 obtain⟨q4,hqa4⟩:∃q,qOf b4_ x4_.N y4_.N=q:=⟨_,rfl⟩
 obtain⟨r4,hra4⟩:∃q,qOf d4_ z4_.N w4_.N=q:=⟨_,rfl⟩
 refine fb Tryz.func4 Tryz.ntmps4 (zaa ox4 (zaa oy4 (zaa oz4 (zaa ow4 (zaa ox3 (zaa oy3 (zaa oz3 (zaa ow3 (zaa ox2 (zaa oy2 (zaa oz2 (zaa ow2 (zaa ox1 (zaa oy1 (zaa oz1 (zaa ow1 (zaa ox0 (zaa oy0 (zaa oz0 (zaa ow0 zav)))))))))))))))))))) (fun a S=>?_)
 refine wsp fun K1 hK1=>?_
 refine tb S 0 (lP b0_ x0_ y0_ d0_ z0_ w0_) fun g1 a V1 hgg1 S=>?_
 refine tb S 2 (lP b1_ x1_ y1_ d1_ z1_ w1_) fun g2 a V2 hgg2 S=>?_
 refine tb S 4 (lP b2_ x2_ y2_ d2_ z2_ w2_) fun g3 a V3 hgg3 S=>?_
 refine tb S 6 (lP b3_ x3_ y3_ d3_ z3_ w3_) fun g4 a V4 hgg4 S=>?_
 refine tb S 8 (lP b4_ x4_ y4_ d4_ z4_ w4_) fun g5 a V5 hgg5 S=>?_
 refine ac S fun a S=>?_
 refine hK1 _ _ ?_
 refine wp_seq_k fun K2 hK2=>?_
 refine wsp fun K3 hK3=>?_
 refine lp S 5 0 fun a S=>?_
 refine lp S 5 1 fun a S=>?_
 refine lp S 5 2 fun a S=>?_
 refine lp S 5 3 fun a S=>?_
 refine lp S 5 4 fun a S=>?_
 refine ty S (F:=GP ([(b0_,x0_,y0_,d0_,z0_,w0_),(b1_,x1_,y1_,d1_,z1_,w1_),(b2_,x2_,y2_,d2_,z2_,w2_),(b3_,x3_,y3_,d3_,z3_,w3_),(b4_,x4_,y4_,d4_,z4_,w4_)])) (zkx rfl (S.at 4 rfl) (S.at 3 rfl) (S.at 2 rfl) (S.at 1 rfl) (S.at 0 rfl) (S.num 16 rfl) (S.num 17 rfl) (S.num 18 rfl) (S.num 19 rfl) (S.num 12 rfl) (S.num 13 rfl) (S.num 14 rfl) (S.num 15 rfl) (S.num 8 rfl) (S.num 9 rfl) (S.num 10 rfl) (S.num 11 rfl) (S.num 4 rfl) (S.num 5 rfl) (S.num 6 rfl) (S.num 7 rfl) (S.num 0 rfl) (S.num 1 rfl) (S.num 2 rfl) (S.num 3 rfl)) fun v a V6 hF hb S=>?_
 obtain⟨ov1,hov1⟩:∃z,z=v:=⟨_,rfl⟩
 rw[<-hov1]at hF S
 have rov1:=hF
 refine tc S (rc1 Tryz.func8 (S.at 0 rfl)) (zeJ rov1 hL) fun v a V7 hF hb S=>?_
 replace rov1:=rov1.keep hb
 subst hF
 refine hK3 _ _ ?_
 refine wp_cond_true (S.at 0 rfl) ?_
 refine wp_seq_k fun K4 hK4=>?_
 have S:=S.keep [10] (ls':=[(10,.bool false)]) rfl
 refine zaA ?_
 refine tc S (rc0 Tryz.func9) (zdv (T.keep S.below)) fun v a V8 hF hb S=>?_
 subst hF
 refine av S (zaj rfl (S.at 0 rfl)) fun a S=>?_
 refine hK4 _ _ ?_
 refine wp_ret ?_
 exact zaC rfl S (S.at 0 rfl) ⟨_,rfl,rfl,S.below⟩
end Go.Proofs.YtipckjmgdghkiaaGreatDoor
