/- A part. -/
import Derived.Test.YtipckjmgdghkiaaGreatDoorGMtG
set_option maxHeartbeats 4000000
set_option maxRecDepth 100000
namespace Go.Proofs.YtipckjmgdghkiaaGreatDoor
open Go Go.RowKit
theorem zpt (b0_:Bool)(x0_ y0_:Num)(d0_:Bool)(z0_ w0_:Num)(b1_:Bool)(x1_ y1_:Num)(d1_:Bool)(z1_ w1_:Num)(b2_:Bool)(x2_ y2_:Num)(d2_:Bool)(z2_ w2_:Num)(b3_:Bool)(x3_ y3_:Num){V:World}(T:TT V)(ox0:x0_.oo V)(oy0:y0_.oo V)(oz0:z0_.oo V)(ow0:w0_.oo V)(ox1:x1_.oo V)(oy1:y1_.oo V)(oz1:z1_.oo V)(ow1:w1_.oo V)(ox2:x2_.oo V)(oy2:y2_.oo V)(oz2:z2_.oo V)(ow2:w2_.oo V)(ox3:x3_.oo V)(oy3:y3_.oo V)(hL:zdK [(b0_,x0_,y0_,d0_,z0_,w0_),(b1_,x1_,y1_,d1_,z1_,w1_),(b2_,x2_,y2_,d2_,z2_,w2_)]=false)(hT3:decide ((2:Int)<((max x3_.n y3_.n:Nat):Int))=false):
  Calls Tryz.prog 5 #[(aP b0_ x0_ y0_ d0_ z0_ w0_),(aP b1_ x1_ y1_ d1_ z1_ w1_),(aP b2_ x2_ y2_ d2_ z2_ w2_),(aG b3_ x3_ y3_)] V (zaf V (fun v _=>v= .bool true)):=by
 obtain⟨hL0,hL1,hL2⟩:=zlG hL
 obtain⟨hkx0,hky0,hkz0,hkw0⟩:=zjV hL0
 obtain⟨hkx1,hky1,hkz1,hkw1⟩:=zjV hL1
 obtain⟨hkx2,hky2,hkz2,hkw2⟩:=zjV hL2
 have hkx3:x3_.n<=2:=by have:=of_decide_eq_false hT3;omega
 have hky3:y3_.n<=2:=by have:=of_decide_eq_false hT3;omega
 obtain⟨q0,hqa0⟩:∃q,qOf b0_ x0_.N y0_.N=q:=⟨_,rfl⟩
 obtain⟨r0,hra0⟩:∃q,qOf d0_ z0_.N w0_.N=q:=⟨_,rfl⟩
 obtain⟨q1,hqa1⟩:∃q,qOf b1_ x1_.N y1_.N=q:=⟨_,rfl⟩
 obtain⟨r1,hra1⟩:∃q,qOf d1_ z1_.N w1_.N=q:=⟨_,rfl⟩
 obtain⟨q2,hqa2⟩:∃q,qOf b2_ x2_.N y2_.N=q:=⟨_,rfl⟩
 obtain⟨r2,hra2⟩:∃q,qOf d2_ z2_.N w2_.N=q:=⟨_,rfl⟩
 obtain⟨q3,hqa3⟩:∃q,qOf b3_ x3_.N y3_.N=q:=⟨_,rfl⟩
 have hP0:∀ {V':World},Below V.heap.size V V'->P1 2 q0 r0 ((aP b0_ x0_ y0_ d0_ z0_ w0_)) V':=fun h=>p1m hqa0 hra0 hkx0 hky0 hkz0 hkw0 (ox0.later h) (oy0.later h) (oz0.later h) (ow0.later h)
 have hM0:SmP 2 (q0,r0):=(hP0 (Below.refl _ V)).sm
 have hP1:∀ {V':World},Below V.heap.size V V'->P1 2 q1 r1 ((aP b1_ x1_ y1_ d1_ z1_ w1_)) V':=fun h=>p1m hqa1 hra1 hkx1 hky1 hkz1 hkw1 (ox1.later h) (oy1.later h) (oz1.later h) (ow1.later h)
 have hM1:SmP 2 (q1,r1):=(hP1 (Below.refl _ V)).sm
 have hP2:∀ {V':World},Below V.heap.size V V'->P1 2 q2 r2 ((aP b2_ x2_ y2_ d2_ z2_ w2_)) V':=fun h=>p1m hqa2 hra2 hkx2 hky2 hkz2 hkw2 (ox2.later h) (oy2.later h) (oz2.later h) (ow2.later h)
 have hM2:SmP 2 (q2,r2):=(hP2 (Below.refl _ V)).sm
 have hP3:∀ {V':World},Below V.heap.size V V'->Q1 2 q3 ((aG b3_ x3_ y3_)) V':=fun hb=>⟨b3_,x3_,y3_,rfl,hqa3,hkx3,hky3,ox3.later hb,oy3.later hb⟩
 have hM3:Sm 2 q3:=(hP3 (Below.refl _ V)).sm
 refine fb Tryz.func5 Tryz.ntmps5 (zaa ox3 (zaa oy3 (zaa ox2 (zaa oy2 (zaa oz2 (zaa ow2 (zaa ox1 (zaa oy1 (zaa oz1 (zaa ow1 (zaa ox0 (zaa oy0 (zaa oz0 (zaa ow0 zau)))))))))))))) (fun a S=>?_)
 refine wsp fun K1 hK1=>?_
 refine tb S 0 (lP b0_ x0_ y0_ d0_ z0_ w0_) fun g1 a V1 hgg1 S=>?_
 refine tb S 2 (lP b1_ x1_ y1_ d1_ z1_ w1_) fun g2 a V2 hgg2 S=>?_
 refine tb S 4 (lP b2_ x2_ y2_ d2_ z2_ w2_) fun g3 a V3 hgg3 S=>?_
 refine tb S 6 (aL b3_ x3_ y3_) fun g4 a V4 hgg4 S=>?_
 refine ac S fun a S=>?_
 refine hK1 _ _ ?_
 refine wp_seq_k fun K2 hK2=>?_
 refine wp_seq_k fun K3 hK3=>?_
 rcases zv9 (decide (zan q3 0<0))with hs1_|hs1_
 ·skip
  obtain⟨W1,hW1⟩:∃W,W=V4:=⟨_,rfl⟩
  rw[<-hW1]at S ⊢
  have S0:=S
  refine fr 27 [14,15,16,17,18,19,20,21,22,23,24,25,26,27,28,29,30,31,32,33,34,35,36,37,38,39,40] [IsV ((aP b0_ x0_ y0_ d0_ z0_ w0_)),IsV ((aP b1_ x1_ y1_ d1_ z1_ w1_)),IsV ((aP b2_ x2_ y2_ d2_ z2_ w2_)),GP ([(b0_,x0_,y0_,d0_,z0_,w0_),(b1_,x1_,y1_,d1_,z1_,w1_),(b2_,x2_,y2_,d2_,z2_,w2_)]),iF,iF,IsV (pT g4 0),IsV (pT g4 1),IsV (aS x3_),iI ((((x3_.n:Nat):Int))),IsV (pT g4 2),IsV (aS y3_),iI ((((y3_.n:Nat):Int))),iI ((((max x3_.n y3_.n:Nat):Int))),iF,iF,iF,IsV ((aG b3_ x3_ y3_)),iI ((zan q3 0)),iB,iB,iB,iU,iU,iU,iU,iB] S ?_ ?_
  ·refine sc (fun _ _ S _ _=>sv rfl (zaL rfl (S.at 4 rfl) (S.bx 0 rfl) rfl)) ?_
   refine sc (fun _ _ S _ _=>sv rfl (zaL rfl (S.at 3 rfl) (S.bx 1 rfl) rfl)) ?_
   refine sc (fun _ _ S _ _=>sv rfl (zaL rfl (S.at 2 rfl) (S.bx 2 rfl) rfl)) ?_
   refine sc (fun _ _ S _ hd=>sy rfl (zeO rfl (hd.v 0 rfl rfl) (hd.v 1 rfl rfl) (hd.v 2 rfl rfl) (S.num 10 rfl) (S.num 11 rfl) (S.num 12 rfl) (S.num 13 rfl) (S.num 6 rfl) (S.num 7 rfl) (S.num 8 rfl) (S.num 9 rfl) (S.num 2 rfl) (S.num 3 rfl) (S.num 4 rfl) (S.num 5 rfl))) ?_
   refine sc (fun _ _ _ _ hd=>sl rfl (rc1 Tryz.func8 rfl) (zeC (hd.r 3 rfl rfl) hL)) ?_
   refine sc (fun _ _ _ _ hd=>sv rfl (zao rfl (hd.v 4 rfl rfl))) ?_
   refine sc (fun _ _ S _ hd=>svg rfl (hd.v 5 rfl rfl) (zab rfl (S.at 1 rfl) (zbD _))) ?_
   refine sc (fun _ _ _ _ hd=>svg rfl (hd.v 5 rfl rfl) (zab rfl (hd.v 6 rfl rfl) (zbX _))) ?_
   refine sc (fun _ _ S _ hd=>svg rfl (hd.v 5 rfl rfl) (zap rfl (hd.v 7 rfl rfl) (S.bx 3 rfl) (Tryz.isAgg23 _) rfl)) ?_
   refine sc (fun _ _ _ _ hd=>svg rfl (hd.v 5 rfl rfl) (zbY (by decide) rfl (hd.v 8 rfl rfl))) ?_
   refine sc (fun _ _ S _ hd=>svg rfl (hd.v 5 rfl rfl) (zab rfl (S.at 1 rfl) (zbc _))) ?_
   refine sc (fun _ _ S _ hd=>svg rfl (hd.v 5 rfl rfl) (zap rfl (hd.v 10 rfl rfl) (S.bx 3 rfl) (Tryz.isAgg23 _) rfl)) ?_
   refine sc (fun _ _ _ _ hd=>svg rfl (hd.v 5 rfl rfl) (zbY (by decide) rfl (hd.v 11 rfl rfl))) ?_
   refine sc (fun _ _ _ _ hd=>svg rfl (hd.v 5 rfl rfl) (zg9 rfl (hd.v 9 rfl rfl) (hd.v 12 rfl rfl))) ?_
   refine sc (fun _ _ _ _ hd=>svg rfl (hd.v 5 rfl rfl) (zbz (c:=false) (zcp rfl (hd.v 13 rfl rfl) rfl) hT3)) ?_
   refine sc (fun _ _ _ _ hd=>sv rfl (zas false rfl (hd.v 5 rfl rfl) (hd.v 14 rfl rfl))) ?_
   refine sc (fun _ _ _ _ hd=>sv rfl (zao rfl (hd.v 15 rfl rfl))) ?_
   refine sc (fun _ _ S _ hd=>svg rfl (hd.v 16 rfl rfl) (zeM rfl (S.at 1 rfl) (S.bx 3 rfl) rfl)) ?_
   refine sc (fun _ _ S _ hd=>slg rfl (hd.v 16 rfl rfl) (rc1 Tryz.func26 (hd.v 17 rfl rfl)) (zhO (hP3 S.below))) ?_
   refine sc (fun _ _ _ _ hd=>svg rfl (hd.v 16 rfl rfl) (zbz (c:=true) (zc9 rfl (hd.v 18 rfl rfl) rfl) hs1_)) ?_
   refine sc (fun _ _ _ _ hd=>sv rfl (zas false rfl (hd.v 16 rfl rfl) (hd.v 19 rfl rfl))) ?_
   refine sc (fun _ _ _ _ hd=>sv rfl (zao rfl (hd.v 20 rfl rfl))) ?_
   refine sc (fun _ _ _ _ hd=>sk rfl (hd.v 21 rfl rfl)) ?_
   refine sc (fun _ _ _ _ hd=>sk rfl (hd.v 21 rfl rfl)) ?_
   refine sc (fun _ _ _ _ hd=>sk rfl (hd.v 21 rfl rfl)) ?_
   refine sc (fun _ _ _ _ hd=>sk rfl (hd.v 21 rfl rfl)) ?_
   refine sc (fun _ _ _ _ hd=>sv rfl (zas true rfl (hd.v 21 rfl rfl) rfl)) ?_
   exact sn
  ·intro a1 V5 S hB hf
   have S:=S.add (hf.v 26 rfl rfl)
   clear hf S0
   show wpList _ _ _ [] _ _
   refine hK3 _ _ ?_
   refine wp_cond_true (S.at 0 rfl) ?_
   refine wsp fun K4 hK4=>?_
   refine tc S (rc0 Tryz.func9) (zdY (T.keep S.below)) fun v a V6 hF hb S=>?_
   subst hF
   refine av S (zak rfl (S.at 0 rfl)) fun a S=>?_
   refine hK4 _ _ ?_
   refine wp_ret ?_
   exact zay rfl S (S.at 0 rfl) ⟨_,rfl,rfl,S.below⟩
 ·skip
  rcases zv9 (decide (0<zan q3 ((1:Int):Rat)))with hs2_|hs2_
  ·skip
   obtain⟨W2,hW2⟩:∃W,W=V4:=⟨_,rfl⟩
   rw[<-hW2]at S ⊢
   have S0:=S
   refine fr 27 [14,15,16,17,18,19,20,21,22,23,24,25,26,27,28,29,30,31,32,33,34,35,36,37,38,39,40] [IsV ((aP b0_ x0_ y0_ d0_ z0_ w0_)),IsV ((aP b1_ x1_ y1_ d1_ z1_ w1_)),IsV ((aP b2_ x2_ y2_ d2_ z2_ w2_)),GP ([(b0_,x0_,y0_,d0_,z0_,w0_),(b1_,x1_,y1_,d1_,z1_,w1_),(b2_,x2_,y2_,d2_,z2_,w2_)]),iF,iF,IsV (pT g4 0),IsV (pT g4 1),IsV (aS x3_),iI ((((x3_.n:Nat):Int))),IsV (pT g4 2),IsV (aS y3_),iI ((((y3_.n:Nat):Int))),iI ((((max x3_.n y3_.n:Nat):Int))),iF,iF,iF,IsV ((aG b3_ x3_ y3_)),iI ((zan q3 0)),iF,iF,iF,IsV ((aG b3_ x3_ y3_)),QT 2 ((1:Int)),iI ((zan q3 (1:Int))),iB,iB] S ?_ ?_
   ·refine sc (fun _ _ S _ _=>sv rfl (zaL rfl (S.at 4 rfl) (S.bx 0 rfl) rfl)) ?_
    refine sc (fun _ _ S _ _=>sv rfl (zaL rfl (S.at 3 rfl) (S.bx 1 rfl) rfl)) ?_
    refine sc (fun _ _ S _ _=>sv rfl (zaL rfl (S.at 2 rfl) (S.bx 2 rfl) rfl)) ?_
    refine sc (fun _ _ S _ hd=>sy rfl (zeO rfl (hd.v 0 rfl rfl) (hd.v 1 rfl rfl) (hd.v 2 rfl rfl) (S.num 10 rfl) (S.num 11 rfl) (S.num 12 rfl) (S.num 13 rfl) (S.num 6 rfl) (S.num 7 rfl) (S.num 8 rfl) (S.num 9 rfl) (S.num 2 rfl) (S.num 3 rfl) (S.num 4 rfl) (S.num 5 rfl))) ?_
    refine sc (fun _ _ _ _ hd=>sl rfl (rc1 Tryz.func8 rfl) (zeC (hd.r 3 rfl rfl) hL)) ?_
    refine sc (fun _ _ _ _ hd=>sv rfl (zao rfl (hd.v 4 rfl rfl))) ?_
    refine sc (fun _ _ S _ hd=>svg rfl (hd.v 5 rfl rfl) (zab rfl (S.at 1 rfl) (zbD _))) ?_
    refine sc (fun _ _ _ _ hd=>svg rfl (hd.v 5 rfl rfl) (zab rfl (hd.v 6 rfl rfl) (zbX _))) ?_
    refine sc (fun _ _ S _ hd=>svg rfl (hd.v 5 rfl rfl) (zap rfl (hd.v 7 rfl rfl) (S.bx 3 rfl) (Tryz.isAgg23 _) rfl)) ?_
    refine sc (fun _ _ _ _ hd=>svg rfl (hd.v 5 rfl rfl) (zbY (by decide) rfl (hd.v 8 rfl rfl))) ?_
    refine sc (fun _ _ S _ hd=>svg rfl (hd.v 5 rfl rfl) (zab rfl (S.at 1 rfl) (zbc _))) ?_
    refine sc (fun _ _ S _ hd=>svg rfl (hd.v 5 rfl rfl) (zap rfl (hd.v 10 rfl rfl) (S.bx 3 rfl) (Tryz.isAgg23 _) rfl)) ?_
    refine sc (fun _ _ _ _ hd=>svg rfl (hd.v 5 rfl rfl) (zbY (by decide) rfl (hd.v 11 rfl rfl))) ?_
    refine sc (fun _ _ _ _ hd=>svg rfl (hd.v 5 rfl rfl) (zg9 rfl (hd.v 9 rfl rfl) (hd.v 12 rfl rfl))) ?_
    refine sc (fun _ _ _ _ hd=>svg rfl (hd.v 5 rfl rfl) (zbz (c:=false) (zcp rfl (hd.v 13 rfl rfl) rfl) hT3)) ?_
    refine sc (fun _ _ _ _ hd=>sv rfl (zas false rfl (hd.v 5 rfl rfl) (hd.v 14 rfl rfl))) ?_
    refine sc (fun _ _ _ _ hd=>sv rfl (zao rfl (hd.v 15 rfl rfl))) ?_
    refine sc (fun _ _ S _ hd=>svg rfl (hd.v 16 rfl rfl) (zeM rfl (S.at 1 rfl) (S.bx 3 rfl) rfl)) ?_
    refine sc (fun _ _ S _ hd=>slg rfl (hd.v 16 rfl rfl) (rc1 Tryz.func26 (hd.v 17 rfl rfl)) (zhO (hP3 S.below))) ?_
    refine sc (fun _ _ _ _ hd=>svg rfl (hd.v 16 rfl rfl) (zbz (c:=false) (zc9 rfl (hd.v 18 rfl rfl) rfl) hs1_)) ?_
    refine sc (fun _ _ _ _ hd=>sv rfl (zas false rfl (hd.v 16 rfl rfl) (hd.v 19 rfl rfl))) ?_
    refine sc (fun _ _ _ _ hd=>sv rfl (zao rfl (hd.v 20 rfl rfl))) ?_
    refine sc (fun _ _ S _ hd=>svg rfl (hd.v 21 rfl rfl) (zeM rfl (S.at 1 rfl) (S.bx 3 rfl) rfl)) ?_
    refine sc (fun _ _ _ _ hd=>slg rfl (hd.v 21 rfl rfl) (rcc Tryz.func28) (zmn (n:=1) (by decide))) ?_
    refine sc (fun _ _ S _ hd=>slg rfl (hd.v 21 rfl rfl) (rc2 Tryz.func27 (hd.v 22 rfl rfl) rfl) (zkU (hP3 S.below) ((hd.r 23 rfl rfl)).any (by decide) (by decide))) ?_
    refine sc (fun _ _ _ _ hd=>svg rfl (hd.v 21 rfl rfl) (zbz (c:=true) (zcp rfl (hd.v 24 rfl rfl) rfl) hs2_)) ?_
    refine sc (fun _ _ _ _ hd=>sv rfl (zas false rfl (hd.v 21 rfl rfl) (hd.v 25 rfl rfl))) ?_
    exact sn
   ·intro a2 V7 S hB hf
    have S:=S.add (hf.v 26 rfl rfl)
    clear hf S0
    show wpList _ _ _ [] _ _
    refine hK3 _ _ ?_
    refine wp_cond_true (S.at 0 rfl) ?_
    refine wsp fun K5 hK5=>?_
    refine tc S (rc0 Tryz.func9) (zdY (T.keep S.below)) fun v a V8 hF hb S=>?_
    subst hF
    refine av S (zak rfl (S.at 0 rfl)) fun a S=>?_
    refine hK5 _ _ ?_
    refine wp_ret ?_
    exact zay rfl S (S.at 0 rfl) ⟨_,rfl,rfl,S.below⟩
  ·skip
   obtain⟨W3,hW3⟩:∃W,W=V4:=⟨_,rfl⟩
   rw[<-hW3]at S ⊢
   have S0:=S
   refine fr 27 [14,15,16,17,18,19,20,21,22,23,24,25,26,27,28,29,30,31,32,33,34,35,36,37,38,39,40] [IsV ((aP b0_ x0_ y0_ d0_ z0_ w0_)),IsV ((aP b1_ x1_ y1_ d1_ z1_ w1_)),IsV ((aP b2_ x2_ y2_ d2_ z2_ w2_)),GP ([(b0_,x0_,y0_,d0_,z0_,w0_),(b1_,x1_,y1_,d1_,z1_,w1_),(b2_,x2_,y2_,d2_,z2_,w2_)]),iF,iF,IsV (pT g4 0),IsV (pT g4 1),IsV (aS x3_),iI ((((x3_.n:Nat):Int))),IsV (pT g4 2),IsV (aS y3_),iI ((((y3_.n:Nat):Int))),iI ((((max x3_.n y3_.n:Nat):Int))),iF,iF,iF,IsV ((aG b3_ x3_ y3_)),iI ((zan q3 0)),iF,iF,iF,IsV ((aG b3_ x3_ y3_)),QT 2 ((1:Int)),iI ((zan q3 (1:Int))),iF,iF] S ?_ ?_
   ·refine sc (fun _ _ S _ _=>sv rfl (zaL rfl (S.at 4 rfl) (S.bx 0 rfl) rfl)) ?_
    refine sc (fun _ _ S _ _=>sv rfl (zaL rfl (S.at 3 rfl) (S.bx 1 rfl) rfl)) ?_
    refine sc (fun _ _ S _ _=>sv rfl (zaL rfl (S.at 2 rfl) (S.bx 2 rfl) rfl)) ?_
    refine sc (fun _ _ S _ hd=>sy rfl (zeO rfl (hd.v 0 rfl rfl) (hd.v 1 rfl rfl) (hd.v 2 rfl rfl) (S.num 10 rfl) (S.num 11 rfl) (S.num 12 rfl) (S.num 13 rfl) (S.num 6 rfl) (S.num 7 rfl) (S.num 8 rfl) (S.num 9 rfl) (S.num 2 rfl) (S.num 3 rfl) (S.num 4 rfl) (S.num 5 rfl))) ?_
    refine sc (fun _ _ _ _ hd=>sl rfl (rc1 Tryz.func8 rfl) (zeC (hd.r 3 rfl rfl) hL)) ?_
    refine sc (fun _ _ _ _ hd=>sv rfl (zao rfl (hd.v 4 rfl rfl))) ?_
    refine sc (fun _ _ S _ hd=>svg rfl (hd.v 5 rfl rfl) (zab rfl (S.at 1 rfl) (zbD _))) ?_
    refine sc (fun _ _ _ _ hd=>svg rfl (hd.v 5 rfl rfl) (zab rfl (hd.v 6 rfl rfl) (zbX _))) ?_
    refine sc (fun _ _ S _ hd=>svg rfl (hd.v 5 rfl rfl) (zap rfl (hd.v 7 rfl rfl) (S.bx 3 rfl) (Tryz.isAgg23 _) rfl)) ?_
    refine sc (fun _ _ _ _ hd=>svg rfl (hd.v 5 rfl rfl) (zbY (by decide) rfl (hd.v 8 rfl rfl))) ?_
    refine sc (fun _ _ S _ hd=>svg rfl (hd.v 5 rfl rfl) (zab rfl (S.at 1 rfl) (zbc _))) ?_
    refine sc (fun _ _ S _ hd=>svg rfl (hd.v 5 rfl rfl) (zap rfl (hd.v 10 rfl rfl) (S.bx 3 rfl) (Tryz.isAgg23 _) rfl)) ?_
    refine sc (fun _ _ _ _ hd=>svg rfl (hd.v 5 rfl rfl) (zbY (by decide) rfl (hd.v 11 rfl rfl))) ?_
    refine sc (fun _ _ _ _ hd=>svg rfl (hd.v 5 rfl rfl) (zg9 rfl (hd.v 9 rfl rfl) (hd.v 12 rfl rfl))) ?_
    refine sc (fun _ _ _ _ hd=>svg rfl (hd.v 5 rfl rfl) (zbz (c:=false) (zcp rfl (hd.v 13 rfl rfl) rfl) hT3)) ?_
    refine sc (fun _ _ _ _ hd=>sv rfl (zas false rfl (hd.v 5 rfl rfl) (hd.v 14 rfl rfl))) ?_
    refine sc (fun _ _ _ _ hd=>sv rfl (zao rfl (hd.v 15 rfl rfl))) ?_
    refine sc (fun _ _ S _ hd=>svg rfl (hd.v 16 rfl rfl) (zeM rfl (S.at 1 rfl) (S.bx 3 rfl) rfl)) ?_
    refine sc (fun _ _ S _ hd=>slg rfl (hd.v 16 rfl rfl) (rc1 Tryz.func26 (hd.v 17 rfl rfl)) (zhO (hP3 S.below))) ?_
    refine sc (fun _ _ _ _ hd=>svg rfl (hd.v 16 rfl rfl) (zbz (c:=false) (zc9 rfl (hd.v 18 rfl rfl) rfl) hs1_)) ?_
    refine sc (fun _ _ _ _ hd=>sv rfl (zas false rfl (hd.v 16 rfl rfl) (hd.v 19 rfl rfl))) ?_
    refine sc (fun _ _ _ _ hd=>sv rfl (zao rfl (hd.v 20 rfl rfl))) ?_
    refine sc (fun _ _ S _ hd=>svg rfl (hd.v 21 rfl rfl) (zeM rfl (S.at 1 rfl) (S.bx 3 rfl) rfl)) ?_
    refine sc (fun _ _ _ _ hd=>slg rfl (hd.v 21 rfl rfl) (rcc Tryz.func28) (zmn (n:=1) (by decide))) ?_
    refine sc (fun _ _ S _ hd=>slg rfl (hd.v 21 rfl rfl) (rc2 Tryz.func27 (hd.v 22 rfl rfl) rfl) (zkU (hP3 S.below) ((hd.r 23 rfl rfl)).any (by decide) (by decide))) ?_
    refine sc (fun _ _ _ _ hd=>svg rfl (hd.v 21 rfl rfl) (zbz (c:=false) (zcp rfl (hd.v 24 rfl rfl) rfl) hs2_)) ?_
    refine sc (fun _ _ _ _ hd=>sv rfl (zas false rfl (hd.v 21 rfl rfl) (hd.v 25 rfl rfl))) ?_
    exact sn
   ·intro a3 V9 S hB hf
    have S:=S.add (hf.v 26 rfl rfl)
    clear hf S0
    show wpList _ _ _ [] _ _
    refine hK3 _ _ ?_
    refine wp_cond_false (S.at 0 rfl) ?_
    refine wp_skip ?_
    refine hK2 _ _ ?_
    refine wp_seq_k fun K6 hK6=>?_
    have h09:=zuG hs1_
    have h19:=zty hs2_
    have hp9:onS (q0,r0) (q1,r1) (q0+(q1 - q0)*q3,r0+(r1 - r0)*q3):=zje h09 h19
    have pM:SmP 10 (q0+(q1 - q0)*q3,r0+(r1 - r0)*q3):=⟨(hM0.1.add ((hM1.1.sub hM0.1).mul hM3)).mono (by decide),(hM0.2.add ((hM1.2.sub hM0.2).mul hM3)).mono (by decide)⟩
    have n09:SmP 10 (q0,r0):=hM0.mono (by decide)
    have n19:SmP 10 (q1,r1):=hM1.mono (by decide)
    have n29:SmP 10 (q2,r2):=hM2.mono (by decide)
    have hl:Lies (q0,r0) (q1,r1) (q2,r2) (q0+(q1 - q0)*q3,r0+(r1 - r0)*q3) (zbG (q0,r0) (q1,r1) (q2,r2) (q0+(q1 - q0)*q3,r0+(r1 - r0)*q3)) 10:=lies hp9 n09 n19 n29 pM
    have u19:Sm 349 (q1 - q0):=(hM1.1.sub hM0.1).mono (by decide)
    have u29:Sm 349 (r1 - r0):=(hM1.2.sub hM0.2).mono (by decide)
    have u39:Sm 349 ((q1 - q0)*q3):=((hM1.1.sub hM0.1).mul hM3).mono (by decide)
    have u49:Sm 349 ((r1 - r0)*q3):=((hM1.2.sub hM0.2).mul hM3).mono (by decide)
    have u59:Sm 349 (q0+(q1 - q0)*q3):=pM.1.mono (by decide)
    have u69:Sm 349 (r0+(r1 - r0)*q3):=pM.2.mono (by decide)
    refine zaD ?_
    refine lp S 5 0 fun a S=>?_
    refine lp S 5 1 fun a S=>?_
    refine tv S (zeM rfl (S.at 4 rfl) (S.bx 3 rfl) rfl) fun a S=>?_
    refine tc S (F:=PT 10 (q0+(q1 - q0)*q3) (r0+(r1 - r0)*q3)) (rc3 Tryz.func29 (S.at 2 rfl) (S.at 1 rfl) (S.at 0 rfl)) (zdd (zvR (((hP0 S.below)).to rfl rfl (by decide)) (((hP1 S.below)).to rfl rfl (by decide)) (((hP3 S.below)).to rfl (by decide)) u19 u29 u39 u49 u59 u69) (fun _ _ h=>h.sml pM.1 pM.2)) fun v a V10 hF hb S=>?_
    obtain⟨b1,x1,y1,b2,x2,y2,rfl,hq1,hq2,⟨hk1,hk2⟩,⟨hk3,hk4⟩,⟨ok1,ok2⟩,ok3,ok4⟩:=hF
    have S:=S.know ok1
    have S:=S.know ok2
    have S:=S.know ok3
    have S:=S.know ok4
    refine ti S (cs:=lY) (zam rfl (Tryz.zeroValue29 _) rfl) (fun g5=>[⟨g1,29,(lP b0_ x0_ y0_ d0_ z0_ w0_)⟩,⟨g2,29,(lP b1_ x1_ y1_ d1_ z1_ w1_)⟩,⟨g3,29,(lP b2_ x2_ y2_ d2_ z2_ w2_)⟩,⟨g4,27,(aL b3_ x3_ y3_)⟩,⟨g5,29,lY⟩]) fun g5 a V11 hgg5 S=>?_
    refine sto S 4 (fun ht=>zaj rfl (S.at 0 rfl) (S.at 1 rfl) zaR rfl (zvZ rfl) ht) fun V12 S=>?_
    refine hK6 _ _ ?_
    refine wsp fun K7 hK7=>?_
    refine lp S 10 0 fun a S=>?_
    refine lp S 10 1 fun a S=>?_
    refine lp S 10 2 fun a S=>?_
    refine lp S 3 4 fun a S=>?_
    refine tc S (F:=MT 10 (zbG (q0,r0) (q1,r1) (q2,r2) (q0+(q1 - q0)*q3,r0+(r1 - r0)*q3))) (rc4 Tryz.func17 (S.at 3 rfl) (S.at 2 rfl) (S.at 1 rfl) (S.at 0 rfl)) (zdd (zmR (T.keep S.below) (((hP0 S.below)).to rfl rfl (by omega)) (((hP1 S.below)).to rfl rfl (by omega)) (((hP2 S.below)).to rfl rfl (by omega)) (zby S 0 hq1 hq2 hk1 hk2 hk3 hk4).any (by decide)) (fun _ _ h=>h.lim hl.sm.1 hl.sm.2 hl.sm2.1 hl.sm2.2)) fun v a V13 hF hb S=>?_
    obtain⟨b3,x3,y3,b4,x4,y4,b5,x5,y5,b6,x6,y6,rfl,⟨hq3,hq4,hk5,hk6,hk7,hk8,ok5,ok6,ok7,ok8⟩,⟨hq5,hq6,hk9,hk10,hk11,hk12,ok9,ok10,ok11,ok12⟩⟩:=hF
    have S:=S.know ok5
    have S:=S.know ok6
    have S:=S.know ok7
    have S:=S.know ok8
    have S:=S.know ok9
    have S:=S.know ok10
    have S:=S.know ok11
    have S:=S.know ok12
    refine ti S (cs:=[.int .i8 0,.bool false,.slice none 0 0,.slice none 0 0,.bool false,.slice none 0 0,.slice none 0 0,.bool false,.slice none 0 0,.slice none 0 0,.bool false,.slice none 0 0,.slice none 0 0]) (zam rfl (Tryz.zeroValue42 _) rfl) (fun g6=>[⟨g1,29,(lP b0_ x0_ y0_ d0_ z0_ w0_)⟩,⟨g2,29,(lP b1_ x1_ y1_ d1_ z1_ w1_)⟩,⟨g3,29,(lP b2_ x2_ y2_ d2_ z2_ w2_)⟩,⟨g4,27,(aL b3_ x3_ y3_)⟩,⟨g5,29,(lP b1 x1 y1 b2 x2 y2)⟩,⟨g6,42,[.int .i8 0,.bool false,.slice none 0 0,.slice none 0 0,.bool false,.slice none 0 0,.slice none 0 0,.bool false,.slice none 0 0,.slice none 0 0,.bool false,.slice none 0 0,.slice none 0 0]⟩]) fun g6 a V14 hgg6 S=>?_
    refine sto S 5 (fun ht=>zaj rfl (S.at 0 rfl) (S.at 1 rfl) zaZ rfl (zvZ rfl) ht) fun V15 S=>?_
    refine hK7 _ _ ?_
    refine wp_seq_k fun K8 hK8=>?_
    have S:=S.keep [10,9,8,6,5,4] (ls':=[(10,pT g6 0),(9,pT g5 0),(8,.bool false),(6,pT g3 0),(5,pT g2 0),(4,pT g1 0)]) rfl
    refine via (P:=∀(a4:Act) (V16:World),Frm 133 [(10,pT g6 0),(9,pT g5 0),(6,pT g3 0),(5,pT g2 0),(4,pT g1 0)] [⟨g1,29,(lP b0_ x0_ y0_ d0_ z0_ w0_)⟩,⟨g2,29,(lP b1_ x1_ y1_ d1_ z1_ w1_)⟩,⟨g3,29,(lP b2_ x2_ y2_ d2_ z2_ w2_)⟩,⟨g4,27,(aL b3_ x3_ y3_)⟩,⟨g5,29,(lP b1 x1 y1 b2 x2 y2)⟩,⟨g6,42,(lM ((zbG (q0,r0) (q1,r1) (q2,r2) (q0+(q1 - q0)*q3,r0+(r1 - r0)*q3)).kind) b3 x3 y3 b4 x4 y4 b5 x5 y5 b6 x6 y6)⟩] V [y6,x6,y5,x5,y4,x4,y3,x3,y2,x2,y1,x1,x3_,y3_,x2_,y2_,z2_,w2_,x1_,y1_,z1_,w1_,x0_,y0_,z0_,w0_] a4 V16->K8 a4 V16) ?_ fun hJ1=>?_
    ·intro a4 V16 S
     refine hK8 _ _ ?_
     refine wsp fun K9 hK9=>?_
     refine tv S (zab rfl (S.at 0 rfl) (zbi _)) fun a S=>?_
     refine lp S 0 5 fun a S=>?_
     refine tv S (zab rfl (S.at 2 rfl) (zbj _)) fun a S=>?_
     refine lp S 0 5 fun a S=>?_
     refine tc S (rc2 Tryz.func31 (S.at 2 rfl) (S.at 0 rfl)) (zrC (((zby S 4 hq3 hq4 hk5 hk6 hk7 hk8).any).to rfl rfl (by decide)) (((zby S 0 hq5 hq6 hk9 hk10 hk11 hk12).any).to rfl rfl (by decide))) fun v a V17 hF hb S=>?_
     subst hF
     refine tv S (zak rfl (S.at 0 rfl)) fun a S=>?_
     refine hK9 _ _ ?_
     refine wp_seq_k fun K10 hK10=>?_
     refine wsp fun K11 hK11=>?_
     refine mv S 0 fun a S=>?_
     refine tv S (zdx _ (by decide) rfl (S.at 0 rfl) rfl) fun a S=>?_
     refine tv S (zab rfl (S.at 8 rfl) (zb5 _)) fun a S=>?_
     refine tv S (zap rfl (S.at 0 rfl) (S.bx 5 rfl) (Tryz.isAgg40 _) rfl) fun a S=>?_
     refine tv S (zmP rfl (S.at 0 rfl) rfl) fun a S=>?_
     refine tv S (zbz (c:=false) (zm9 rfl (S.at 3 rfl) (S.at 0 rfl)) hl.cmp.1) fun a S=>?_
     refine mv S 0 fun a S=>?_
     refine tvg S (S.at 0 rfl) (zao rfl (S.at 7 rfl)) fun a S=>?_
     refine tvg S (S.at 1 rfl) (zbz (c:=false) (zcp rfl (S.at 0 rfl) rfl) hl.cmp.2) fun a S=>?_
     refine tv S (zas false rfl (S.at 2 rfl) (S.at 0 rfl)) fun a S=>?_
     refine hK11 _ _ ?_
     refine wp_cond_false (S.at 0 rfl) ?_
     refine wp_skip ?_
     refine hK10 _ _ ?_
     refine wp_seq_k fun K12 hK12=>?_
     have S:=S.keep [9,6,5,4] (ls':=[(9,pT g5 0),(6,pT g3 0),(5,pT g2 0),(4,pT g1 0)]) rfl
     refine zaD ?_
     refine lp S 3 0 fun a S=>?_
     refine lp S 3 1 fun a S=>?_
     refine lp S 3 2 fun a S=>?_
     refine lp S 3 4 fun a S=>?_
     refine tc S (F:=PB 202 ((zcx (q0,r0) (q1,r1) (q2,r2) (q0+(q1 - q0)*q3,r0+(r1 - r0)*q3)).1) ((zcx (q0,r0) (q1,r1) (q2,r2) (q0+(q1 - q0)*q3,r0+(r1 - r0)*q3)).2) (.bool (decide (den (q0,r0) (q1,r1) (q2,r2) (q0+(q1 - q0)*q3,r0+(r1 - r0)*q3)≠0)))) (rc4 Tryz.func12 (S.at 3 rfl) (S.at 2 rfl) (S.at 1 rfl) (S.at 0 rfl)) (zpI (T.keep S.below) (((hP0 S.below)).to rfl rfl (by omega)) (((hP1 S.below)).to rfl rfl (by omega)) (((hP2 S.below)).to rfl rfl (by omega)) (zby S 8 hq1 hq2 hk1 hk2 hk3 hk4).any (by decide)) fun v a V18 hF hb S=>?_
     obtain⟨b7,x7,y7,b8,x8,y8,rfl,hq7,hq8,hk13,hk14,hk15,hk16,ok13,ok14,ok15,ok16⟩:=hF
     have S:=S.know ok13
     have S:=S.know ok14
     have S:=S.know ok15
     have S:=S.know ok16
     refine mv S 0 fun a S=>?_
     refine tv S (zaT rfl (S.at 0 rfl) rfl) fun a S=>?_
     refine tv S (zaT rfl (S.at 1 rfl) rfl) fun a S=>?_
     refine ti S (cs:=lY) (zam rfl (Tryz.zeroValue29 _) rfl) (fun g7=>[⟨g1,29,(lP b0_ x0_ y0_ d0_ z0_ w0_)⟩,⟨g2,29,(lP b1_ x1_ y1_ d1_ z1_ w1_)⟩,⟨g3,29,(lP b2_ x2_ y2_ d2_ z2_ w2_)⟩,⟨g4,27,(aL b3_ x3_ y3_)⟩,⟨g5,29,(lP b1 x1 y1 b2 x2 y2)⟩,⟨g6,42,(lM ((zbG (q0,r0) (q1,r1) (q2,r2) (q0+(q1 - q0)*q3,r0+(r1 - r0)*q3)).kind) b3 x3 y3 b4 x4 y4 b5 x5 y5 b6 x6 y6)⟩,⟨g7,29,lY⟩]) fun g7 a V19 hgg7 S=>?_
     refine sto S 6 (fun ht=>zaj rfl (S.at 0 rfl) (S.at 2 rfl) zaR rfl (zvZ rfl) ht) fun V20 S=>?_
     refine tv S (zak rfl (S.at 1 rfl)) fun a S=>?_
     refine hK12 _ _ ?_
     refine wp_seq_k fun K13 hK13=>?_
     rcases zv9 (decide (den (q0,r0) (q1,r1) (q2,r2) (q0+(q1 - q0)*q3,r0+(r1 - r0)*q3)≠0))with hs11_|hs11_
     ·skip
      refine zaD ?_
      refine mv S 0 fun a S=>?_
      refine tv S (zbz (zbl rfl (S.at 0 rfl)) (show(!(decide (den (q0,r0) (q1,r1) (q2,r2) (q0+(q1 - q0)*q3,r0+(r1 - r0)*q3)≠0)))=false from(by rw[hs11_];rfl))) fun a S=>?_
      refine mv S 0 fun a S=>?_
      refine tvg S (S.at 0 rfl) (zaL rfl (S.at 4 rfl) (S.bx 6 rfl) rfl) fun a S=>?_
      refine tvg S (S.at 1 rfl) (zaL rfl (S.at 14 rfl) (S.bx 4 rfl) rfl) fun a S=>?_
      refine tcg S (S.at 2 rfl) (rc2 Tryz.func32 (S.at 1 rfl) (S.at 0 rfl)) (gtr (zs2 (((zby S 0 hq7 hq8 hk13 hk14 hk15 hk16).any).to rfl rfl (by decide)) (((zby S 12 hq1 hq2 hk1 hk2 hk3 hk4).any).to rfl rfl (by decide))) (decide_eq_true (znP hp9 hs11_ rfl))) fun v a V21 hF hb S=>?_
      subst hF
      refine tv S (zas false rfl (S.at 3 rfl) (S.at 0 rfl)) fun a S=>?_
      refine mv S 0 fun a S=>?_
      refine tcg S (S.at 0 rfl) (rc0 Tryz.func9) (zdY (T.keep S.below)) fun v a V22 hF hb S=>?_
      subst hF
      refine tv S (zas true rfl (S.at 1 rfl) (S.at 0 rfl)) fun a S=>?_
      refine tv S (zak rfl (S.at 0 rfl)) fun a S=>?_
      refine hK13 _ _ ?_
      refine wp_ret ?_
      exact zay rfl S (S.at 0 rfl) ⟨_,rfl,rfl,S.below⟩
     ·skip
      refine zaD ?_
      refine mv S 0 fun a S=>?_
      refine tv S (zbz (zbl rfl (S.at 0 rfl)) (show(!(decide (den (q0,r0) (q1,r1) (q2,r2) (q0+(q1 - q0)*q3,r0+(r1 - r0)*q3)≠0)))=true from(by rw[hs11_];rfl))) fun a S=>?_
      refine mv S 0 fun a S=>?_
      refine tk S (S.at 0 rfl) fun a S=>?_
      refine tk S (S.at 1 rfl) fun a S=>?_
      refine tk S (S.at 2 rfl) fun a S=>?_
      refine tv S (zas true rfl (S.at 3 rfl) rfl) fun a S=>?_
      refine mv S 0 fun a S=>?_
      refine tcg S (S.at 0 rfl) (rc0 Tryz.func9) (zdY (T.keep S.below)) fun v a V23 hF hb S=>?_
      subst hF
      refine tv S (zas true rfl (S.at 1 rfl) (S.at 0 rfl)) fun a S=>?_
      refine tv S (zak rfl (S.at 0 rfl)) fun a S=>?_
      refine hK13 _ _ ?_
      refine wp_ret ?_
      exact zay rfl S (S.at 0 rfl) ⟨_,rfl,rfl,S.below⟩
    refine wp_seq_k fun K14 hK14=>?_
    rcases zv9 (decide ((zbG (q0,r0) (q1,r1) (q2,r2) (q0+(q1 - q0)*q3,r0+(r1 - r0)*q3)).kind=1))with hs5_|hs5_
    ·skip
     refine zaD ?_
     refine tv S (zab rfl (S.at 0 rfl) (zb5 _)) fun a S=>?_
     refine tv S (zap rfl (S.at 0 rfl) (S.bx 5 rfl) (Tryz.isAgg40 _) rfl) fun a S=>?_
     refine tv S (zbz (zji rfl (S.at 0 rfl) rfl) (show(!decide ((zbG (q0,r0) (q1,r1) (q2,r2) (q0+(q1 - q0)*q3,r0+(r1 - r0)*q3)).kind=1))=false from(by rw[hs5_];rfl))) fun a S=>?_
     refine mv S 0 fun a S=>?_
     refine tk S (S.at 0 rfl) fun a S=>?_
     refine tk S (S.at 1 rfl) fun a S=>?_
     refine tk S (S.at 2 rfl) fun a S=>?_
     refine tv S (zas false rfl (S.at 3 rfl) rfl) fun a S=>?_
     refine mv S 0 fun a S=>?_
     refine tvg S (S.at 0 rfl) (zaL rfl (S.at 14 rfl) (S.bx 0 rfl) rfl) fun a S=>?_
     refine tvg S (S.at 1 rfl) (zaL rfl (S.at 14 rfl) (S.bx 1 rfl) rfl) fun a S=>?_
     refine tvg S (S.at 2 rfl) (zab rfl (S.at 11 rfl) (zbi _)) fun a S=>?_
     refine tvg S (S.at 3 rfl) (zaL rfl (S.at 0 rfl) (S.bx 5 rfl) rfl) fun a S=>?_
     refine tcg S (S.at 4 rfl) (rc3 Tryz.func30 (S.at 3 rfl) (S.at 2 rfl) (S.at 0 rfl)) (gtr (zfi (((hP0 S.below)).to rfl rfl (by decide)) (((hP1 S.below)).to rfl rfl (by decide)) (((zby S 4 hq3 hq4 hk5 hk6 hk7 hk8).any).to rfl rfl (by decide)) n09 n19 hl.sm) (zcX hl.fst.1)) fun v a V24 hF hb S=>?_
     subst hF
     refine tvg S (S.at 5 rfl) (zbl (b:=true) rfl (S.at 0 rfl)) fun a S=>?_
     refine tv S (zas false rfl (S.at 6 rfl) (S.at 0 rfl)) fun a S=>?_
     refine mv S 0 fun a S=>?_
     refine tvg S (S.at 0 rfl) (zaL rfl (S.at 22 rfl) (S.bx 0 rfl) rfl) fun a S=>?_
     refine tvg S (S.at 1 rfl) (zaL rfl (S.at 22 rfl) (S.bx 1 rfl) rfl) fun a S=>?_
     refine tvg S (S.at 2 rfl) (zab rfl (S.at 19 rfl) (zbj _)) fun a S=>?_
     refine tvg S (S.at 3 rfl) (zaL rfl (S.at 0 rfl) (S.bx 5 rfl) rfl) fun a S=>?_
     refine tcg S (S.at 4 rfl) (rc3 Tryz.func30 (S.at 3 rfl) (S.at 2 rfl) (S.at 0 rfl)) (gtr (zfi (((hP0 S.below)).to rfl rfl (by decide)) (((hP1 S.below)).to rfl rfl (by decide)) (((zby S 0 hq5 hq6 hk9 hk10 hk11 hk12).any).to rfl rfl (by decide)) n09 n19 hl.sm2) (zcX hl.snd.1)) fun v a V25 hF hb S=>?_
     subst hF
     refine tvg S (S.at 5 rfl) (zbl (b:=true) rfl (S.at 0 rfl)) fun a S=>?_
     refine tv S (zas false rfl (S.at 6 rfl) (S.at 0 rfl)) fun a S=>?_
     refine mv S 0 fun a S=>?_
     refine tvg S (S.at 0 rfl) (zaL rfl (S.at 28 rfl) (S.bx 2 rfl) rfl) fun a S=>?_
     refine tvg S (S.at 1 rfl) (zaL rfl (S.at 27 rfl) (S.bx 4 rfl) rfl) fun a S=>?_
     refine tvg S (S.at 2 rfl) (zab rfl (S.at 27 rfl) (zbi _)) fun a S=>?_
     refine tvg S (S.at 3 rfl) (zaL rfl (S.at 0 rfl) (S.bx 5 rfl) rfl) fun a S=>?_
     refine tcg S (S.at 4 rfl) (rc3 Tryz.func30 (S.at 3 rfl) (S.at 2 rfl) (S.at 0 rfl)) (gtr (zfi (((hP2 S.below)).to rfl rfl (by decide)) (((zby S 8 hq1 hq2 hk1 hk2 hk3 hk4).any).to rfl rfl (by decide)) (((zby S 4 hq3 hq4 hk5 hk6 hk7 hk8).any).to rfl rfl (by decide)) n29 pM hl.sm) (zcX hl.fst.2)) fun v a V26 hF hb S=>?_
     subst hF
     refine tvg S (S.at 5 rfl) (zbl (b:=true) rfl (S.at 0 rfl)) fun a S=>?_
     refine tv S (zas false rfl (S.at 6 rfl) (S.at 0 rfl)) fun a S=>?_
     refine mv S 0 fun a S=>?_
     refine tvg S (S.at 0 rfl) (zaL rfl (S.at 36 rfl) (S.bx 2 rfl) rfl) fun a S=>?_
     refine tvg S (S.at 1 rfl) (zaL rfl (S.at 35 rfl) (S.bx 4 rfl) rfl) fun a S=>?_
     refine tvg S (S.at 2 rfl) (zab rfl (S.at 35 rfl) (zbj _)) fun a S=>?_
     refine tvg S (S.at 3 rfl) (zaL rfl (S.at 0 rfl) (S.bx 5 rfl) rfl) fun a S=>?_
     refine tcg S (S.at 4 rfl) (rc3 Tryz.func30 (S.at 3 rfl) (S.at 2 rfl) (S.at 0 rfl)) (gtr (zfi (((hP2 S.below)).to rfl rfl (by decide)) (((zby S 8 hq1 hq2 hk1 hk2 hk3 hk4).any).to rfl rfl (by decide)) (((zby S 0 hq5 hq6 hk9 hk10 hk11 hk12).any).to rfl rfl (by decide)) n29 pM hl.sm2) (zcX hl.snd.2)) fun v a V27 hF hb S=>?_
     subst hF
     refine tvg S (S.at 5 rfl) (zbl (b:=true) rfl (S.at 0 rfl)) fun a S=>?_
     refine tv S (zas false rfl (S.at 6 rfl) (S.at 0 rfl)) fun a S=>?_
     refine mv S 0 fun a S=>?_
     refine tvg S (S.at 0 rfl) (zab rfl (S.at 41 rfl) (zbi _)) fun a S=>?_
     refine tvg S (S.at 1 rfl) (zaL rfl (S.at 0 rfl) (S.bx 5 rfl) rfl) fun a S=>?_
     refine tvg S (S.at 2 rfl) (zab rfl (S.at 43 rfl) (zbj _)) fun a S=>?_
     refine tvg S (S.at 3 rfl) (zaL rfl (S.at 0 rfl) (S.bx 5 rfl) rfl) fun a S=>?_
     refine tvg S (S.at 4 rfl) (zaL rfl (S.at 46 rfl) (S.bx 4 rfl) rfl) fun a S=>?_
     refine tcg S (S.at 5 rfl) (rc3 Tryz.func30 (S.at 3 rfl) (S.at 1 rfl) (S.at 0 rfl)) (gtr (zfi (((zby S 4 hq3 hq4 hk5 hk6 hk7 hk8).any).to rfl rfl (by decide)) (((zby S 0 hq5 hq6 hk9 hk10 hk11 hk12).any).to rfl rfl (by decide)) (((zby S 8 hq1 hq2 hk1 hk2 hk3 hk4).any).to rfl rfl (by decide)) hl.sm hl.sm2 pM) (zcX hl.p_in)) fun v a V28 hF hb S=>?_
     subst hF
     refine tvg S (S.at 6 rfl) (zbl (b:=true) rfl (S.at 0 rfl)) fun a S=>?_
     refine tv S (zas false rfl (S.at 7 rfl) (S.at 0 rfl)) fun a S=>?_
     refine hK14 _ _ ?_
     refine wp_cond_false (S.at 0 rfl) ?_
     refine wp_skip ?_
     have S:=S.sel [49,50,52,53,54] rfl
     have S:=S.seln [0,1,2,3,4,5,6,7,8,9,10,11,12,13,14,15,16,17,18,19,20,21,22,23,24,25] rfl
     have S:=S.reorder [0,1,2,3,4,5] rfl (by decide)
     exact hJ1 _ _ S
    ·skip
     refine zaD ?_
     refine tv S (zab rfl (S.at 0 rfl) (zb5 _)) fun a S=>?_
     refine tv S (zap rfl (S.at 0 rfl) (S.bx 5 rfl) (Tryz.isAgg40 _) rfl) fun a S=>?_
     refine tv S (zbz (zji rfl (S.at 0 rfl) rfl) (show(!decide ((zbG (q0,r0) (q1,r1) (q2,r2) (q0+(q1 - q0)*q3,r0+(r1 - r0)*q3)).kind=1))=true from(by rw[hs5_];rfl))) fun a S=>?_
     refine mv S 0 fun a S=>?_
     refine tvg S (S.at 0 rfl) (zab rfl (S.at 4 rfl) (zb5 _)) fun a S=>?_
     refine tvg S (S.at 1 rfl) (zap rfl (S.at 0 rfl) (S.bx 5 rfl) (Tryz.isAgg40 _) rfl) fun a S=>?_
     refine tvg S (S.at 2 rfl) (zbz (c:=false) (zji rfl (S.at 0 rfl) rfl) (hl.not12 (by rw[hs5_];rfl))) fun a S=>?_
     refine tv S (zas true rfl (S.at 3 rfl) (S.at 0 rfl)) fun a S=>?_
     refine mv S 0 fun a S=>?_
     refine tvg S (S.at 0 rfl) (zaL rfl (S.at 14 rfl) (S.bx 0 rfl) rfl) fun a S=>?_
     refine tvg S (S.at 1 rfl) (zaL rfl (S.at 14 rfl) (S.bx 1 rfl) rfl) fun a S=>?_
     refine tvg S (S.at 2 rfl) (zab rfl (S.at 11 rfl) (zbi _)) fun a S=>?_
     refine tvg S (S.at 3 rfl) (zaL rfl (S.at 0 rfl) (S.bx 5 rfl) rfl) fun a S=>?_
     refine tcg S (S.at 4 rfl) (rc3 Tryz.func30 (S.at 3 rfl) (S.at 2 rfl) (S.at 0 rfl)) (gtr (zfi (((hP0 S.below)).to rfl rfl (by decide)) (((hP1 S.below)).to rfl rfl (by decide)) (((zby S 4 hq3 hq4 hk5 hk6 hk7 hk8).any).to rfl rfl (by decide)) n09 n19 hl.sm) (zcX hl.fst.1)) fun v a V29 hF hb S=>?_
     subst hF
     refine tvg S (S.at 5 rfl) (zbl (b:=true) rfl (S.at 0 rfl)) fun a S=>?_
     refine tv S (zas false rfl (S.at 6 rfl) (S.at 0 rfl)) fun a S=>?_
     refine mv S 0 fun a S=>?_
     refine tvg S (S.at 0 rfl) (zaL rfl (S.at 22 rfl) (S.bx 0 rfl) rfl) fun a S=>?_
     refine tvg S (S.at 1 rfl) (zaL rfl (S.at 22 rfl) (S.bx 1 rfl) rfl) fun a S=>?_
     refine tvg S (S.at 2 rfl) (zab rfl (S.at 19 rfl) (zbj _)) fun a S=>?_
     refine tvg S (S.at 3 rfl) (zaL rfl (S.at 0 rfl) (S.bx 5 rfl) rfl) fun a S=>?_
     refine tcg S (S.at 4 rfl) (rc3 Tryz.func30 (S.at 3 rfl) (S.at 2 rfl) (S.at 0 rfl)) (gtr (zfi (((hP0 S.below)).to rfl rfl (by decide)) (((hP1 S.below)).to rfl rfl (by decide)) (((zby S 0 hq5 hq6 hk9 hk10 hk11 hk12).any).to rfl rfl (by decide)) n09 n19 hl.sm2) (zcX hl.snd.1)) fun v a V30 hF hb S=>?_
     subst hF
     refine tvg S (S.at 5 rfl) (zbl (b:=true) rfl (S.at 0 rfl)) fun a S=>?_
     refine tv S (zas false rfl (S.at 6 rfl) (S.at 0 rfl)) fun a S=>?_
     refine mv S 0 fun a S=>?_
     refine tvg S (S.at 0 rfl) (zaL rfl (S.at 28 rfl) (S.bx 2 rfl) rfl) fun a S=>?_
     refine tvg S (S.at 1 rfl) (zaL rfl (S.at 27 rfl) (S.bx 4 rfl) rfl) fun a S=>?_
     refine tvg S (S.at 2 rfl) (zab rfl (S.at 27 rfl) (zbi _)) fun a S=>?_
     refine tvg S (S.at 3 rfl) (zaL rfl (S.at 0 rfl) (S.bx 5 rfl) rfl) fun a S=>?_
     refine tcg S (S.at 4 rfl) (rc3 Tryz.func30 (S.at 3 rfl) (S.at 2 rfl) (S.at 0 rfl)) (gtr (zfi (((hP2 S.below)).to rfl rfl (by decide)) (((zby S 8 hq1 hq2 hk1 hk2 hk3 hk4).any).to rfl rfl (by decide)) (((zby S 4 hq3 hq4 hk5 hk6 hk7 hk8).any).to rfl rfl (by decide)) n29 pM hl.sm) (zcX hl.fst.2)) fun v a V31 hF hb S=>?_
     subst hF
     refine tvg S (S.at 5 rfl) (zbl (b:=true) rfl (S.at 0 rfl)) fun a S=>?_
     refine tv S (zas false rfl (S.at 6 rfl) (S.at 0 rfl)) fun a S=>?_
     refine mv S 0 fun a S=>?_
     refine tvg S (S.at 0 rfl) (zaL rfl (S.at 36 rfl) (S.bx 2 rfl) rfl) fun a S=>?_
     refine tvg S (S.at 1 rfl) (zaL rfl (S.at 35 rfl) (S.bx 4 rfl) rfl) fun a S=>?_
     refine tvg S (S.at 2 rfl) (zab rfl (S.at 35 rfl) (zbj _)) fun a S=>?_
     refine tvg S (S.at 3 rfl) (zaL rfl (S.at 0 rfl) (S.bx 5 rfl) rfl) fun a S=>?_
     refine tcg S (S.at 4 rfl) (rc3 Tryz.func30 (S.at 3 rfl) (S.at 2 rfl) (S.at 0 rfl)) (gtr (zfi (((hP2 S.below)).to rfl rfl (by decide)) (((zby S 8 hq1 hq2 hk1 hk2 hk3 hk4).any).to rfl rfl (by decide)) (((zby S 0 hq5 hq6 hk9 hk10 hk11 hk12).any).to rfl rfl (by decide)) n29 pM hl.sm2) (zcX hl.snd.2)) fun v a V32 hF hb S=>?_
     subst hF
     refine tvg S (S.at 5 rfl) (zbl (b:=true) rfl (S.at 0 rfl)) fun a S=>?_
     refine tv S (zas false rfl (S.at 6 rfl) (S.at 0 rfl)) fun a S=>?_
     refine mv S 0 fun a S=>?_
     refine tvg S (S.at 0 rfl) (zab rfl (S.at 41 rfl) (zbi _)) fun a S=>?_
     refine tvg S (S.at 1 rfl) (zaL rfl (S.at 0 rfl) (S.bx 5 rfl) rfl) fun a S=>?_
     refine tvg S (S.at 2 rfl) (zab rfl (S.at 43 rfl) (zbj _)) fun a S=>?_
     refine tvg S (S.at 3 rfl) (zaL rfl (S.at 0 rfl) (S.bx 5 rfl) rfl) fun a S=>?_
     refine tvg S (S.at 4 rfl) (zaL rfl (S.at 46 rfl) (S.bx 4 rfl) rfl) fun a S=>?_
     refine tcg S (S.at 5 rfl) (rc3 Tryz.func30 (S.at 3 rfl) (S.at 1 rfl) (S.at 0 rfl)) (gtr (zfi (((zby S 4 hq3 hq4 hk5 hk6 hk7 hk8).any).to rfl rfl (by decide)) (((zby S 0 hq5 hq6 hk9 hk10 hk11 hk12).any).to rfl rfl (by decide)) (((zby S 8 hq1 hq2 hk1 hk2 hk3 hk4).any).to rfl rfl (by decide)) hl.sm hl.sm2 pM) (zcX hl.p_in)) fun v a V33 hF hb S=>?_
     subst hF
     refine tvg S (S.at 6 rfl) (zbl (b:=true) rfl (S.at 0 rfl)) fun a S=>?_
     refine tv S (zas false rfl (S.at 7 rfl) (S.at 0 rfl)) fun a S=>?_
     refine hK14 _ _ ?_
     refine wp_cond_false (S.at 0 rfl) ?_
     refine wp_skip ?_
     have S:=S.sel [49,50,52,53,54] rfl
     have S:=S.seln [0,1,2,3,4,5,6,7,8,9,10,11,12,13,14,15,16,17,18,19,20,21,22,23,24,25] rfl
     have S:=S.reorder [0,1,2,3,4,5] rfl (by decide)
     exact hJ1 _ _ S
theorem znN (b0_:Bool)(x0_ y0_:Num)(d0_:Bool)(z0_ w0_:Num)(b1_:Bool)(x1_ y1_:Num)(d1_:Bool)(z1_ w1_:Num)(b2_:Bool)(x2_ y2_:Num)(d2_:Bool)(z2_ w2_:Num)(b3_:Bool)(x3_ y3_:Num){V:World}(T:TT V)(ox0:x0_.oo V)(oy0:y0_.oo V)(oz0:z0_.oo V)(ow0:w0_.oo V)(ox1:x1_.oo V)(oy1:y1_.oo V)(oz1:z1_.oo V)(ow1:w1_.oo V)(ox2:x2_.oo V)(oy2:y2_.oo V)(oz2:z2_.oo V)(ow2:w2_.oo V)(ox3:x3_.oo V)(oy3:y3_.oo V)(hL:zdK [(b0_,x0_,y0_,d0_,z0_,w0_),(b1_,x1_,y1_,d1_,z1_,w1_),(b2_,x2_,y2_,d2_,z2_,w2_)]=false)(hT3:decide ((2:Int)<((max x3_.n y3_.n:Nat):Int))=true):
  Calls Tryz.prog 5 #[(aP b0_ x0_ y0_ d0_ z0_ w0_),(aP b1_ x1_ y1_ d1_ z1_ w1_),(aP b2_ x2_ y2_ d2_ z2_ w2_),(aG b3_ x3_ y3_)] V (zaf V (fun v _=>v= .bool true)):=by
 obtain⟨q0,hqa0⟩:∃q,qOf b0_ x0_.N y0_.N=q:=⟨_,rfl⟩
 obtain⟨r0,hra0⟩:∃q,qOf d0_ z0_.N w0_.N=q:=⟨_,rfl⟩
 obtain⟨q1,hqa1⟩:∃q,qOf b1_ x1_.N y1_.N=q:=⟨_,rfl⟩
 obtain⟨r1,hra1⟩:∃q,qOf d1_ z1_.N w1_.N=q:=⟨_,rfl⟩
 obtain⟨q2,hqa2⟩:∃q,qOf b2_ x2_.N y2_.N=q:=⟨_,rfl⟩
 obtain⟨r2,hra2⟩:∃q,qOf d2_ z2_.N w2_.N=q:=⟨_,rfl⟩
 obtain⟨q3,hqa3⟩:∃q,qOf b3_ x3_.N y3_.N=q:=⟨_,rfl⟩
 refine fb Tryz.func5 Tryz.ntmps5 (zaa ox3 (zaa oy3 (zaa ox2 (zaa oy2 (zaa oz2 (zaa ow2 (zaa ox1 (zaa oy1 (zaa oz1 (zaa ow1 (zaa ox0 (zaa oy0 (zaa oz0 (zaa ow0 zau)))))))))))))) (fun a S=>?_)
 refine wsp fun K1 hK1=>?_
 refine tb S 0 (lP b0_ x0_ y0_ d0_ z0_ w0_) fun g1 a V1 hgg1 S=>?_
 refine tb S 2 (lP b1_ x1_ y1_ d1_ z1_ w1_) fun g2 a V2 hgg2 S=>?_
 refine tb S 4 (lP b2_ x2_ y2_ d2_ z2_ w2_) fun g3 a V3 hgg3 S=>?_
 refine tb S 6 (aL b3_ x3_ y3_) fun g4 a V4 hgg4 S=>?_
 refine ac S fun a S=>?_
 refine hK1 _ _ ?_
 refine wp_seq_k fun K2 hK2=>?_
 refine wp_seq_k fun K3 hK3=>?_
 obtain⟨W1,hW1⟩:∃W,W=V4:=⟨_,rfl⟩
 rw[<-hW1]at S ⊢
 have S0:=S
 refine fr 27 [14,15,16,17,18,19,20,21,22,23,24,25,26,27,28,29,30,31,32,33,34,35,36,37,38,39,40] [IsV ((aP b0_ x0_ y0_ d0_ z0_ w0_)),IsV ((aP b1_ x1_ y1_ d1_ z1_ w1_)),IsV ((aP b2_ x2_ y2_ d2_ z2_ w2_)),GP ([(b0_,x0_,y0_,d0_,z0_,w0_),(b1_,x1_,y1_,d1_,z1_,w1_),(b2_,x2_,y2_,d2_,z2_,w2_)]),iF,iF,IsV (pT g4 0),IsV (pT g4 1),IsV (aS x3_),iI ((((x3_.n:Nat):Int))),IsV (pT g4 2),IsV (aS y3_),iI ((((y3_.n:Nat):Int))),iI ((((max x3_.n y3_.n:Nat):Int))),iB,iB,iB,iU,iU,iU,iB,iB,iU,iU,iU,iU,iB] S ?_ ?_
 ·refine sc (fun _ _ S _ _=>sv rfl (zaL rfl (S.at 4 rfl) (S.bx 0 rfl) rfl)) ?_
  refine sc (fun _ _ S _ _=>sv rfl (zaL rfl (S.at 3 rfl) (S.bx 1 rfl) rfl)) ?_
  refine sc (fun _ _ S _ _=>sv rfl (zaL rfl (S.at 2 rfl) (S.bx 2 rfl) rfl)) ?_
  refine sc (fun _ _ S _ hd=>sy rfl (zeO rfl (hd.v 0 rfl rfl) (hd.v 1 rfl rfl) (hd.v 2 rfl rfl) (S.num 10 rfl) (S.num 11 rfl) (S.num 12 rfl) (S.num 13 rfl) (S.num 6 rfl) (S.num 7 rfl) (S.num 8 rfl) (S.num 9 rfl) (S.num 2 rfl) (S.num 3 rfl) (S.num 4 rfl) (S.num 5 rfl))) ?_
  refine sc (fun _ _ _ _ hd=>sl rfl (rc1 Tryz.func8 rfl) (zeC (hd.r 3 rfl rfl) hL)) ?_
  refine sc (fun _ _ _ _ hd=>sv rfl (zao rfl (hd.v 4 rfl rfl))) ?_
  refine sc (fun _ _ S _ hd=>svg rfl (hd.v 5 rfl rfl) (zab rfl (S.at 1 rfl) (zbD _))) ?_
  refine sc (fun _ _ _ _ hd=>svg rfl (hd.v 5 rfl rfl) (zab rfl (hd.v 6 rfl rfl) (zbX _))) ?_
  refine sc (fun _ _ S _ hd=>svg rfl (hd.v 5 rfl rfl) (zap rfl (hd.v 7 rfl rfl) (S.bx 3 rfl) (Tryz.isAgg23 _) rfl)) ?_
  refine sc (fun _ _ _ _ hd=>svg rfl (hd.v 5 rfl rfl) (zbY (by decide) rfl (hd.v 8 rfl rfl))) ?_
  refine sc (fun _ _ S _ hd=>svg rfl (hd.v 5 rfl rfl) (zab rfl (S.at 1 rfl) (zbc _))) ?_
  refine sc (fun _ _ S _ hd=>svg rfl (hd.v 5 rfl rfl) (zap rfl (hd.v 10 rfl rfl) (S.bx 3 rfl) (Tryz.isAgg23 _) rfl)) ?_
  refine sc (fun _ _ _ _ hd=>svg rfl (hd.v 5 rfl rfl) (zbY (by decide) rfl (hd.v 11 rfl rfl))) ?_
  refine sc (fun _ _ _ _ hd=>svg rfl (hd.v 5 rfl rfl) (zg9 rfl (hd.v 9 rfl rfl) (hd.v 12 rfl rfl))) ?_
  refine sc (fun _ _ _ _ hd=>svg rfl (hd.v 5 rfl rfl) (zbz (c:=true) (zcp rfl (hd.v 13 rfl rfl) rfl) hT3)) ?_
  refine sc (fun _ _ _ _ hd=>sv rfl (zas false rfl (hd.v 5 rfl rfl) (hd.v 14 rfl rfl))) ?_
  refine sc (fun _ _ _ _ hd=>sv rfl (zao rfl (hd.v 15 rfl rfl))) ?_
  refine sc (fun _ _ _ _ hd=>sk rfl (hd.v 16 rfl rfl)) ?_
  refine sc (fun _ _ _ _ hd=>sk rfl (hd.v 16 rfl rfl)) ?_
  refine sc (fun _ _ _ _ hd=>sk rfl (hd.v 16 rfl rfl)) ?_
  refine sc (fun _ _ _ _ hd=>sv rfl (zas true rfl (hd.v 16 rfl rfl) rfl)) ?_
  refine sc (fun _ _ _ _ hd=>sv rfl (zao rfl (hd.v 20 rfl rfl))) ?_
  refine sc (fun _ _ _ _ hd=>sk rfl (hd.v 21 rfl rfl)) ?_
  refine sc (fun _ _ _ _ hd=>sk rfl (hd.v 21 rfl rfl)) ?_
  refine sc (fun _ _ _ _ hd=>sk rfl (hd.v 21 rfl rfl)) ?_
  refine sc (fun _ _ _ _ hd=>sk rfl (hd.v 21 rfl rfl)) ?_
  refine sc (fun _ _ _ _ hd=>sv rfl (zas true rfl (hd.v 21 rfl rfl) rfl)) ?_
  exact sn
 ·intro a1 V5 S hB hf
  have S:=S.add (hf.v 26 rfl rfl)
  clear hf S0
  show wpList _ _ _ [] _ _
  refine hK3 _ _ ?_
  refine wp_cond_true (S.at 0 rfl) ?_
  refine wsp fun K4 hK4=>?_
  refine tc S (rc0 Tryz.func9) (zdY (T.keep S.below)) fun v a V6 hF hb S=>?_
  subst hF
  refine av S (zak rfl (S.at 0 rfl)) fun a S=>?_
  refine hK4 _ _ ?_
  refine wp_ret ?_
  exact zay rfl S (S.at 0 rfl) ⟨_,rfl,rfl,S.below⟩
theorem zlE (b0_:Bool)(x0_ y0_:Num)(d0_:Bool)(z0_ w0_:Num)(b1_:Bool)(x1_ y1_:Num)(d1_:Bool)(z1_ w1_:Num)(b2_:Bool)(x2_ y2_:Num)(d2_:Bool)(z2_ w2_:Num)(b3_:Bool)(x3_ y3_:Num){V:World}(T:TT V)(ox0:x0_.oo V)(oy0:y0_.oo V)(oz0:z0_.oo V)(ow0:w0_.oo V)(ox1:x1_.oo V)(oy1:y1_.oo V)(oz1:z1_.oo V)(ow1:w1_.oo V)(ox2:x2_.oo V)(oy2:y2_.oo V)(oz2:z2_.oo V)(ow2:w2_.oo V)(ox3:x3_.oo V)(oy3:y3_.oo V)(hL:zdK [(b0_,x0_,y0_,d0_,z0_,w0_),(b1_,x1_,y1_,d1_,z1_,w1_),(b2_,x2_,y2_,d2_,z2_,w2_)]=true):
  Calls Tryz.prog 5 #[(aP b0_ x0_ y0_ d0_ z0_ w0_),(aP b1_ x1_ y1_ d1_ z1_ w1_),(aP b2_ x2_ y2_ d2_ z2_ w2_),(aG b3_ x3_ y3_)] V (zaf V (fun v _=>v= .bool true)):=by
 obtain⟨q0,hqa0⟩:∃q,qOf b0_ x0_.N y0_.N=q:=⟨_,rfl⟩
 obtain⟨r0,hra0⟩:∃q,qOf d0_ z0_.N w0_.N=q:=⟨_,rfl⟩
 obtain⟨q1,hqa1⟩:∃q,qOf b1_ x1_.N y1_.N=q:=⟨_,rfl⟩
 obtain⟨r1,hra1⟩:∃q,qOf d1_ z1_.N w1_.N=q:=⟨_,rfl⟩
 obtain⟨q2,hqa2⟩:∃q,qOf b2_ x2_.N y2_.N=q:=⟨_,rfl⟩
 obtain⟨r2,hra2⟩:∃q,qOf d2_ z2_.N w2_.N=q:=⟨_,rfl⟩
 obtain⟨q3,hqa3⟩:∃q,qOf b3_ x3_.N y3_.N=q:=⟨_,rfl⟩
 refine fb Tryz.func5 Tryz.ntmps5 (zaa ox3 (zaa oy3 (zaa ox2 (zaa oy2 (zaa oz2 (zaa ow2 (zaa ox1 (zaa oy1 (zaa oz1 (zaa ow1 (zaa ox0 (zaa oy0 (zaa oz0 (zaa ow0 zau)))))))))))))) (fun a S=>?_)
 refine wsp fun K1 hK1=>?_
 refine tb S 0 (lP b0_ x0_ y0_ d0_ z0_ w0_) fun g1 a V1 hgg1 S=>?_
 refine tb S 2 (lP b1_ x1_ y1_ d1_ z1_ w1_) fun g2 a V2 hgg2 S=>?_
 refine tb S 4 (lP b2_ x2_ y2_ d2_ z2_ w2_) fun g3 a V3 hgg3 S=>?_
 refine tb S 6 (aL b3_ x3_ y3_) fun g4 a V4 hgg4 S=>?_
 refine ac S fun a S=>?_
 refine hK1 _ _ ?_
 refine wp_seq_k fun K2 hK2=>?_
 refine wp_seq_k fun K3 hK3=>?_
 obtain⟨W1,hW1⟩:∃W,W=V4:=⟨_,rfl⟩
 rw[<-hW1]at S ⊢
 have S0:=S
 refine fr 27 [14,15,16,17,18,19,20,21,22,23,24,25,26,27,28,29,30,31,32,33,34,35,36,37,38,39,40] [IsV ((aP b0_ x0_ y0_ d0_ z0_ w0_)),IsV ((aP b1_ x1_ y1_ d1_ z1_ w1_)),IsV ((aP b2_ x2_ y2_ d2_ z2_ w2_)),GP ([(b0_,x0_,y0_,d0_,z0_,w0_),(b1_,x1_,y1_,d1_,z1_,w1_),(b2_,x2_,y2_,d2_,z2_,w2_)]),iB,iB,iU,iU,iU,iU,iU,iU,iU,iU,iU,iB,iB,iU,iU,iU,iB,iB,iU,iU,iU,iU,iB] S ?_ ?_
 ·refine sc (fun _ _ S _ _=>sv rfl (zaL rfl (S.at 4 rfl) (S.bx 0 rfl) rfl)) ?_
  refine sc (fun _ _ S _ _=>sv rfl (zaL rfl (S.at 3 rfl) (S.bx 1 rfl) rfl)) ?_
  refine sc (fun _ _ S _ _=>sv rfl (zaL rfl (S.at 2 rfl) (S.bx 2 rfl) rfl)) ?_
  refine sc (fun _ _ S _ hd=>sy rfl (zeO rfl (hd.v 0 rfl rfl) (hd.v 1 rfl rfl) (hd.v 2 rfl rfl) (S.num 10 rfl) (S.num 11 rfl) (S.num 12 rfl) (S.num 13 rfl) (S.num 6 rfl) (S.num 7 rfl) (S.num 8 rfl) (S.num 9 rfl) (S.num 2 rfl) (S.num 3 rfl) (S.num 4 rfl) (S.num 5 rfl))) ?_
  refine sc (fun _ _ _ _ hd=>sl rfl (rc1 Tryz.func8 rfl) (zeC (hd.r 3 rfl rfl) hL)) ?_
  refine sc (fun _ _ _ _ hd=>sv rfl (zao rfl (hd.v 4 rfl rfl))) ?_
  refine sc (fun _ _ _ _ hd=>sk rfl (hd.v 5 rfl rfl)) ?_
  refine sc (fun _ _ _ _ hd=>sk rfl (hd.v 5 rfl rfl)) ?_
  refine sc (fun _ _ _ _ hd=>sk rfl (hd.v 5 rfl rfl)) ?_
  refine sc (fun _ _ _ _ hd=>sk rfl (hd.v 5 rfl rfl)) ?_
  refine sc (fun _ _ _ _ hd=>sk rfl (hd.v 5 rfl rfl)) ?_
  refine sc (fun _ _ _ _ hd=>sk rfl (hd.v 5 rfl rfl)) ?_
  refine sc (fun _ _ _ _ hd=>sk rfl (hd.v 5 rfl rfl)) ?_
  refine sc (fun _ _ _ _ hd=>sk rfl (hd.v 5 rfl rfl)) ?_
  refine sc (fun _ _ _ _ hd=>sk rfl (hd.v 5 rfl rfl)) ?_
  refine sc (fun _ _ _ _ hd=>sv rfl (zas true rfl (hd.v 5 rfl rfl) rfl)) ?_
  refine sc (fun _ _ _ _ hd=>sv rfl (zao rfl (hd.v 15 rfl rfl))) ?_
  refine sc (fun _ _ _ _ hd=>sk rfl (hd.v 16 rfl rfl)) ?_
  refine sc (fun _ _ _ _ hd=>sk rfl (hd.v 16 rfl rfl)) ?_
  refine sc (fun _ _ _ _ hd=>sk rfl (hd.v 16 rfl rfl)) ?_
  refine sc (fun _ _ _ _ hd=>sv rfl (zas true rfl (hd.v 16 rfl rfl) rfl)) ?_
  refine sc (fun _ _ _ _ hd=>sv rfl (zao rfl (hd.v 20 rfl rfl))) ?_
  refine sc (fun _ _ _ _ hd=>sk rfl (hd.v 21 rfl rfl)) ?_
  refine sc (fun _ _ _ _ hd=>sk rfl (hd.v 21 rfl rfl)) ?_
  refine sc (fun _ _ _ _ hd=>sk rfl (hd.v 21 rfl rfl)) ?_
  refine sc (fun _ _ _ _ hd=>sk rfl (hd.v 21 rfl rfl)) ?_
  refine sc (fun _ _ _ _ hd=>sv rfl (zas true rfl (hd.v 21 rfl rfl) rfl)) ?_
  exact sn
 ·intro a1 V5 S hB hf
  have S:=S.add (hf.v 26 rfl rfl)
  clear hf S0
  show wpList _ _ _ [] _ _
  refine hK3 _ _ ?_
  refine wp_cond_true (S.at 0 rfl) ?_
  refine wsp fun K4 hK4=>?_
  refine tc S (rc0 Tryz.func9) (zdY (T.keep S.below)) fun v a V6 hF hb S=>?_
  subst hF
  refine av S (zak rfl (S.at 0 rfl)) fun a S=>?_
  refine hK4 _ _ ?_
  refine wp_ret ?_
  exact zay rfl S (S.at 0 rfl) ⟨_,rfl,rfl,S.below⟩
end Go.Proofs.YtipckjmgdghkiaaGreatDoor
