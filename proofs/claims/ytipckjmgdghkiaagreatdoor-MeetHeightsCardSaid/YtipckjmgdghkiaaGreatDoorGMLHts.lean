/- A part. -/
import Derived.Test.YtipckjmgdghkiaaGreatDoorGMtG
set_option maxHeartbeats 4000000
set_option maxRecDepth 100000
namespace Go.Proofs.YtipckjmgdghkiaaGreatDoor
open Go Go.RowKit
theorem zkt (b0_:Bool)(x0_ y0_:Num)(d0_:Bool)(z0_ w0_:Num)(b1_:Bool)(x1_ y1_:Num)(d1_:Bool)(z1_ w1_:Num)(b2_:Bool)(x2_ y2_:Num){V:World}(T:TT V)(ox0:x0_.oo V)(oy0:y0_.oo V)(oz0:z0_.oo V)(ow0:w0_.oo V)(ox1:x1_.oo V)(oy1:y1_.oo V)(oz1:z1_.oo V)(ow1:w1_.oo V)(ox2:x2_.oo V)(oy2:y2_.oo V)(hL:zcB [(b0_,x0_,y0_,d0_,z0_,w0_),(b1_,x1_,y1_,d1_,z1_,w1_)]=false)(hT3:decide ((3:Int)<((max x2_.n y2_.n:Nat):Int))=false):
  Calls Tryz.prog 6 #[(aP b0_ x0_ y0_ d0_ z0_ w0_),(aP b1_ x1_ y1_ d1_ z1_ w1_),(aG b2_ x2_ y2_)] V (zag V (fun v _=>v= .bool true)):=by
 obtain⟨hL0,hL1⟩:=zlQ hL
 obtain⟨hkx0,hky0,hkz0,hkw0⟩:=zer hL0
 obtain⟨hkx1,hky1,hkz1,hkw1⟩:=zer hL1
 have hkx2:x2_.n<=3:=by have:=of_decide_eq_false hT3;omega
 have hky2:y2_.n<=3:=by have:=of_decide_eq_false hT3;omega
 obtain⟨q0,hqa0⟩:∃q,qOf b0_ x0_.N y0_.N=q:=⟨_,rfl⟩
 obtain⟨r0,hra0⟩:∃q,qOf d0_ z0_.N w0_.N=q:=⟨_,rfl⟩
 obtain⟨q1,hqa1⟩:∃q,qOf b1_ x1_.N y1_.N=q:=⟨_,rfl⟩
 obtain⟨r1,hra1⟩:∃q,qOf d1_ z1_.N w1_.N=q:=⟨_,rfl⟩
 obtain⟨q2,hqa2⟩:∃q,qOf b2_ x2_.N y2_.N=q:=⟨_,rfl⟩
 have hP0:∀ {V':World},Below V.heap.size V V'->P1 2 q0 r0 ((aP b0_ x0_ y0_ d0_ z0_ w0_)) V':=fun h=>p1m hqa0 hra0 hkx0 hky0 hkz0 hkw0 (ox0.later h) (oy0.later h) (oz0.later h) (ow0.later h)
 have hM0:SmP 2 (q0,r0):=(hP0 (Below.refl _ V)).sm
 have hP1:∀ {V':World},Below V.heap.size V V'->P1 2 q1 r1 ((aP b1_ x1_ y1_ d1_ z1_ w1_)) V':=fun h=>p1m hqa1 hra1 hkx1 hky1 hkz1 hkw1 (ox1.later h) (oy1.later h) (oz1.later h) (ow1.later h)
 have hM1:SmP 2 (q1,r1):=(hP1 (Below.refl _ V)).sm
 have hP2:∀ {V':World},Below V.heap.size V V'->Q1 3 q2 ((aG b2_ x2_ y2_)) V':=fun hb=>⟨b2_,x2_,y2_,rfl,hqa2,hkx2,hky2,ox2.later hb,oy2.later hb⟩
 have hM2:Sm 3 q2:=(hP2 (Below.refl _ V)).sm
 refine fb Tryz.func6 Tryz.ntmps6 (zaa ox2 (zaa oy2 (zaa ox1 (zaa oy1 (zaa oz1 (zaa ow1 (zaa ox0 (zaa oy0 (zaa oz0 (zaa ow0 zav)))))))))) (fun a S=>?_)
 refine wsp fun K1 hK1=>?_
 refine tb S 0 (lP b0_ x0_ y0_ d0_ z0_ w0_) fun g1 a V1 hgg1 S=>?_
 refine tb S 2 (lP b1_ x1_ y1_ d1_ z1_ w1_) fun g2 a V2 hgg2 S=>?_
 refine tb S 4 (aL b2_ x2_ y2_) fun g3 a V3 hgg3 S=>?_
 refine ac S fun a S=>?_
 refine hK1 _ _ ?_
 refine wp_seq_k fun K2 hK2=>?_
 refine wsp fun K3 hK3=>?_
 refine lp S 3 0 fun a S=>?_
 refine lp S 3 1 fun a S=>?_
 refine ty S (F:=GP ([(b0_,x0_,y0_,d0_,z0_,w0_),(b1_,x1_,y1_,d1_,z1_,w1_)])) (zgj rfl (S.at 1 rfl) (S.at 0 rfl) (S.num 6 rfl) (S.num 7 rfl) (S.num 8 rfl) (S.num 9 rfl) (S.num 2 rfl) (S.num 3 rfl) (S.num 4 rfl) (S.num 5 rfl)) fun v a V4 hF hb S=>?_
 obtain⟨ov1,hov1⟩:∃z,z=v:=⟨_,rfl⟩
 rw[<-hov1]at hF S
 have rov1:=hF
 refine tc S (rc1 Tryz.func8 (S.at 0 rfl)) (zeJ rov1 hL) fun v a V5 hF hb S=>?_
 replace rov1:=rov1.keep hb
 subst hF
 refine mv S 0 fun a S=>?_
 refine tvg S (S.at 0 rfl) (zab rfl (S.at 6 rfl) (zbR _)) fun a S=>?_
 refine tvg S (S.at 1 rfl) (zab rfl (S.at 0 rfl) (zco _)) fun a S=>?_
 refine tvg S (S.at 2 rfl) (zap rfl (S.at 0 rfl) (S.bx 2 rfl) (Tryz.isAgg23 _) rfl) fun a S=>?_
 refine tvg S (S.at 3 rfl) (zcp (by decide) rfl (S.at 0 rfl)) fun a S=>?_
 refine tvg S (S.at 4 rfl) (zab rfl (S.at 10 rfl) (zbq _)) fun a S=>?_
 refine tvg S (S.at 5 rfl) (zap rfl (S.at 0 rfl) (S.bx 2 rfl) (Tryz.isAgg23 _) rfl) fun a S=>?_
 refine tvg S (S.at 6 rfl) (zcp (by decide) rfl (S.at 0 rfl)) fun a S=>?_
 refine tvg S (S.at 7 rfl) (znE rfl (S.at 3 rfl) (S.at 0 rfl)) fun a S=>?_
 refine tvg S (S.at 8 rfl) (zbU (c:=false) (zdd rfl (S.at 0 rfl) rfl) hT3) fun a S=>?_
 refine tv S (zaG false rfl (S.at 9 rfl) (S.at 0 rfl)) fun a S=>?_
 refine hK3 _ _ ?_
 refine wp_cond_false (S.at 0 rfl) ?_
 refine wp_skip ?_
 refine hK2 _ _ ?_
 refine wp_seq_k fun K4 hK4=>?_
 have S:=S.keep [5,4,3] (ls':=[(5,pT g3 0),(4,pT g2 0),(3,pT g1 0)]) rfl
 refine zaA ?_
 refine lp S 2 0 fun a S=>?_
 refine lp S 2 1 fun a S=>?_
 refine tv S (zca rfl (S.at 2 rfl) (S.bx 2 rfl) rfl) fun a S=>?_
 refine tc S (F:=QV 80 (za1 (q0,r0) (q1,r1) q2) (.bool (decide (q1 - q0≠0)))) (rc3 Tryz.func10 (S.at 2 rfl) (S.at 1 rfl) (S.at 0 rfl)) (zjs (T.keep S.below) (((hP0 S.below)).to rfl rfl (by omega)) (((hP1 S.below)).to rfl rfl (by omega)) (hP2 S.below) (by decide)) fun v a V6 hF hb S=>?_
 obtain⟨b1,x1,y1,rfl,hq1,hk1,hk2,ok1,ok2⟩:=hF
 have S:=S.know ok1
 have S:=S.know ok2
 refine mv S 0 fun a S=>?_
 refine tv S (zaL rfl (S.at 0 rfl) rfl) fun a S=>?_
 refine tv S (zaL rfl (S.at 1 rfl) rfl) fun a S=>?_
 refine ti S (cs:=lZ) (zam rfl (Tryz.zeroValue27 _) rfl) (fun g4=>[⟨g1,29,(lP b0_ x0_ y0_ d0_ z0_ w0_)⟩,⟨g2,29,(lP b1_ x1_ y1_ d1_ z1_ w1_)⟩,⟨g3,27,(aL b2_ x2_ y2_)⟩,⟨g4,27,lZ⟩]) fun g4 a V7 hgg4 S=>?_
 refine sto S 3 (fun ht=>zai rfl (S.at 0 rfl) (S.at 2 rfl) zak rfl (zv5 rfl) ht) fun V8 S=>?_
 refine tv S (zaj rfl (S.at 1 rfl)) fun a S=>?_
 refine hK4 _ _ ?_
 refine wp_seq_k fun K5 hK5=>?_
 refine wsp fun K6 hK6=>?_
 refine tv S (zab rfl (S.at 11 rfl) (zaS _)) fun a S=>?_
 refine tv S (zca rfl (S.at 0 rfl) (S.bx 0 rfl) rfl) fun a S=>?_
 refine tv S (zab rfl (S.at 12 rfl) (zaS _)) fun a S=>?_
 refine tv S (zca rfl (S.at 0 rfl) (S.bx 1 rfl) rfl) fun a S=>?_
 refine tc S (rc2 Tryz.func27 (S.at 2 rfl) (S.at 0 rfl)) (zqK (q2m S 8 hqa0 hkx0 hky0) (q2m S 4 hqa1 hkx1 hky1) (by decide) (by decide)) fun v a V9 hF hb S=>?_
 subst hF
 refine tv S (zde _ (by decide) rfl (S.at 0 rfl) rfl) fun a S=>?_
 refine hK6 _ _ ?_
 rcases zwf (decide (zaq q0 q1=0))with hc42|hc42
 ·refine wp_cond_true ((S.at 0 rfl).trans (congrArg Value.bool hc42)) ?_
  have he9:q0=q1:=zbT.1 (of_decide_eq_true hc42)
  refine wp_seq_k fun K7 hK7=>?_
  have S:=S.keep [8,7] (ls':=[(8,.bool (decide (q1 - q0≠0))),(7,pT g4 0)]) rfl
  refine zaA ?_
  refine mv S 0 fun a S=>?_
  refine tv S (zbU (c:=true) (zbS rfl (S.at 0 rfl)) (zn4 he9)) fun a S=>?_
  refine mv S 0 fun a S=>?_
  refine tvg S (S.at 0 rfl) (zca rfl (S.at 4 rfl) (S.bx 3 rfl) rfl) fun a S=>?_
  refine tcg S (S.at 1 rfl) (rc1 Tryz.func26 (S.at 0 rfl)) (zrf (show QT 80 (za1 (q0,r0) (q1,r1) q2) ((aG b1 x1 y1)) _ from⟨b1,x1,y1,rfl,hq1,hk1,hk2,(S.num 1 rfl),(S.num 0 rfl)⟩).any) fun v a V10 hF hb S=>?_
  subst hF
  refine tvg S (S.at 2 rfl) (zbU (c:=true) (zde _ (by decide) rfl (S.at 0 rfl) rfl) (zkw he9)) fun a S=>?_
  refine tv S (zaG true rfl (S.at 3 rfl) (S.at 0 rfl)) fun a S=>?_
  refine mv S 0 fun a S=>?_
  refine tcg S (S.at 0 rfl) (rc0 Tryz.func9) (zdv (T.keep S.below)) fun v a V11 hF hb S=>?_
  subst hF
  refine tv S (zaG true rfl (S.at 1 rfl) (S.at 0 rfl)) fun a S=>?_
  refine tv S (zaj rfl (S.at 0 rfl)) fun a S=>?_
  refine hK7 _ _ ?_
  refine wp_ret ?_
  exact zaC rfl S (S.at 0 rfl) ⟨_,rfl,rfl,S.below⟩
 ·refine wp_cond_false ((S.at 0 rfl).trans (congrArg Value.bool hc42)) ?_
  have hn9:q1 - q0≠0:=fun h=>of_decide_eq_false hc42 (zbT.2 (by grind))
  have hn9b:q0 - q1≠0:=fun h=>hn9 (by grind)
  have hh9:Sm 25 (za1 (q0,r0) (q1,r1) q2):=(zn3 (k:=3) (by decide) (hM0.mono (by decide)) (hM1.mono (by decide)) hM2).mono (by decide)
  have v09:Sm 349 (q1 - q0):=(hM1.1.sub hM0.1).mono (by decide)
  have v19:Sm 349 (r1 - r0):=(hM1.2.sub hM0.2).mono (by decide)
  have v29:Sm 349 (q2 - q0):=(hM2.sub hM0.1).mono (by decide)
  have v39:Sm 349 (za1 (q0,r0) (q1,r1) q2 - r0):=(hh9.sub hM0.2).mono (by decide)
  have v49:Sm 349 ((q1 - q0)*(za1 (q0,r0) (q1,r1) q2 - r0)):=((hM1.1.sub hM0.1).mul (hh9.sub hM0.2)).mono (by decide)
  have v59:Sm 349 ((r1 - r0)*(q2 - q0)):=((hM1.2.sub hM0.2).mul (hM2.sub hM0.1)).mono (by decide)
  have v69:Sm 349 ((q1 - q0)*(za1 (q0,r0) (q1,r1) q2 - r0) - (r1 - r0)*(q2 - q0)):=(((hM1.1.sub hM0.1).mul (hh9.sub hM0.2)).sub ((hM1.2.sub hM0.2).mul (hM2.sub hM0.1))).mono (by decide)
  refine wp_skip ?_
  refine hK5 _ _ ?_
  refine wp_seq_k fun K8 hK8=>?_
  have S:=S.keep [8,7,5,4,3] (ls':=[(8,.bool (decide (q1 - q0≠0))),(7,pT g4 0),(5,pT g3 0),(4,pT g2 0),(3,pT g1 0)]) rfl
  refine zaA ?_
  refine lp S 4 0 fun a S=>?_
  refine lp S 4 1 fun a S=>?_
  refine tv S (zab rfl (S.at 6 rfl) (zaS _)) fun a S=>?_
  refine tv S (zca rfl (S.at 0 rfl) (S.bx 0 rfl) rfl) fun a S=>?_
  refine tc S (F:=QV 60 (za1 (q0,r0) (q1,r1) q0) (.bool (decide (q1 - q0≠0)))) (rc3 Tryz.func10 (S.at 3 rfl) (S.at 2 rfl) (S.at 0 rfl)) (zjs (T.keep S.below) (hP0 S.below) (hP1 S.below) (q2m S 8 hqa0 hkx0 hky0) (by decide)) fun v a V12 hF hb S=>?_
  obtain⟨b2,x2,y2,rfl,hq2,hk3,hk4,ok3,ok4⟩:=hF
  have S:=S.know ok3
  have S:=S.know ok4
  refine mv S 0 fun a S=>?_
  refine tv S (zaL rfl (S.at 0 rfl) rfl) fun a S=>?_
  refine tv S (zaL rfl (S.at 1 rfl) rfl) fun a S=>?_
  refine ti S (cs:=lZ) (zam rfl (Tryz.zeroValue27 _) rfl) (fun g5=>[⟨g1,29,(lP b0_ x0_ y0_ d0_ z0_ w0_)⟩,⟨g2,29,(lP b1_ x1_ y1_ d1_ z1_ w1_)⟩,⟨g3,27,(aL b2_ x2_ y2_)⟩,⟨g4,27,(aL b1 x1 y1)⟩,⟨g5,27,lZ⟩]) fun g5 a V13 hgg5 S=>?_
  refine sto S 4 (fun ht=>zai rfl (S.at 0 rfl) (S.at 2 rfl) zak rfl (zv5 rfl) ht) fun V14 S=>?_
  refine tv S (zaj rfl (S.at 1 rfl)) fun a S=>?_
  refine hK8 _ _ ?_
  refine wsp fun K9 hK9=>?_
  refine lp S 13 1 fun a S=>?_
  refine lp S 15 0 fun a S=>?_
  refine tv S (zab rfl (S.at 15 rfl) (zaS _)) fun a S=>?_
  refine tv S (zca rfl (S.at 0 rfl) (S.bx 1 rfl) rfl) fun a S=>?_
  refine tc S (F:=QV 60 (za1 (q1,r1) (q0,r0) q1) (.bool (decide (q0 - q1≠0)))) (rc3 Tryz.func10 (S.at 3 rfl) (S.at 2 rfl) (S.at 0 rfl)) (zjs (T.keep S.below) (hP1 S.below) (hP0 S.below) (q2m S 6 hqa1 hkx1 hky1) (by decide)) fun v a V15 hF hb S=>?_
  obtain⟨b3,x3,y3,rfl,hq3,hk5,hk6,ok5,ok6⟩:=hF
  have S:=S.know ok5
  have S:=S.know ok6
  refine mv S 0 fun a S=>?_
  refine tv S (zaL rfl (S.at 0 rfl) rfl) fun a S=>?_
  refine tv S (zaL rfl (S.at 1 rfl) rfl) fun a S=>?_
  refine ti S (cs:=lZ) (zam rfl (Tryz.zeroValue27 _) rfl) (fun g6=>[⟨g1,29,(lP b0_ x0_ y0_ d0_ z0_ w0_)⟩,⟨g2,29,(lP b1_ x1_ y1_ d1_ z1_ w1_)⟩,⟨g3,27,(aL b2_ x2_ y2_)⟩,⟨g4,27,(aL b1 x1 y1)⟩,⟨g5,27,(aL b2 x2 y2)⟩,⟨g6,27,lZ⟩]) fun g6 a V16 hgg6 S=>?_
  refine sto S 5 (fun ht=>zai rfl (S.at 0 rfl) (S.at 2 rfl) zak rfl (zv5 rfl) ht) fun V17 S=>?_
  refine tv S (zaj rfl (S.at 1 rfl)) fun a S=>?_
  refine hK9 _ _ ?_
  refine wp_seq_k fun K10 hK10=>?_
  have S:=S.keep [12,11,10,9,8,7,5,4,3] (ls':=[(12,.bool (decide (q0 - q1≠0))),(11,pT g6 0),(10,.bool (decide (q1 - q0≠0))),(9,pT g5 0),(8,.bool (decide (q1 - q0≠0))),(7,pT g4 0),(5,pT g3 0),(4,pT g2 0),(3,pT g1 0)]) rfl
  refine zaA ?_
  refine tv S (zca rfl (S.at 6 rfl) (S.bx 2 rfl) rfl) fun a S=>?_
  refine tv S (zca rfl (S.at 6 rfl) (S.bx 3 rfl) rfl) fun a S=>?_
  refine tv S (zaW rfl (S.at 1 rfl) (S.at 0 rfl) (zlt _ _ _ _ _ _ _ _ _ _ _ _ _ _)) fun a S=>?_
  refine ti S (cs:=lY) (zam rfl (Tryz.zeroValue29 _) rfl) (fun g7=>[⟨g1,29,(lP b0_ x0_ y0_ d0_ z0_ w0_)⟩,⟨g2,29,(lP b1_ x1_ y1_ d1_ z1_ w1_)⟩,⟨g3,27,(aL b2_ x2_ y2_)⟩,⟨g4,27,(aL b1 x1 y1)⟩,⟨g5,27,(aL b2 x2 y2)⟩,⟨g6,27,(aL b3 x3 y3)⟩,⟨g7,29,lY⟩]) fun g7 a V18 hgg7 S=>?_
  refine sto S 6 (fun ht=>zai rfl (S.at 0 rfl) (S.at 1 rfl) zbb rfl (zv5 rfl) ht) fun V19 S=>?_
  refine hK10 _ _ ?_
  refine wp_seq_k fun K11 hK11=>?_
  obtain⟨W1,hW1⟩:∃W,W=V19:=⟨_,rfl⟩
  rw[<-hW1]at S ⊢
  have S0:=S
  refine fr 35 [72,73,74,75,76,77,78,79,80,81,82,83,84,85,86,87,88,89,90,91,92,93,94,95,96,97,98,99,100,101,102,103,104,105,106] [iB,iB,iB,iB,iB,iB,iB,iB,IsV ((aG b2 x2 y2)),IsV (pT g1 3),IsV ((aG d0_ z0_ w0_)),iI ((zaq (za1 (q0,r0) (q1,r1) q0) r0)),iB,iB,iB,IsV ((aG b3 x3 y3)),IsV (pT g2 3),IsV ((aG d1_ z1_ w1_)),iI ((zaq (za1 (q1,r1) (q0,r0) q1) r1)),iB,iB,iB,IsV ((aP b1_ x1_ y1_ d1_ z1_ w1_)),IsV ((aP b0_ x0_ y0_ d0_ z0_ w0_)),PT 349 (q1 - q0) (r1 - r0),IsV ((aP b2_ x2_ y2_ b1 x1 y1)),IsV ((aP b0_ x0_ y0_ d0_ z0_ w0_)),PT 349 (q2 - q0) ((za1 (q0,r0) (q1,r1) q2) - r0),QT 349 ((q1 - q0)*((za1 (q0,r0) (q1,r1) q2) - r0) - (r1 - r0)*(q2 - q0)),iI ((zaq ((q1 - q0)*((za1 (q0,r0) (q1,r1) q2) - r0) - (r1 - r0)*(q2 - q0)) 0)),iB,iB,iB,iB,iB] S ?_ ?_
  ·refine sc (fun _ _ S _ _=>sv rfl (zbU (c:=true) (zan rfl (S.at 8 rfl)) (decide_eq_true hn9))) ?_
   refine sc (fun _ _ _ _ hd=>sv rfl (zan rfl (hd.v 0 rfl rfl))) ?_
   refine sc (fun _ _ S _ hd=>svg rfl (hd.v 1 rfl rfl) (zbU (c:=true) (zan rfl (S.at 6 rfl)) (decide_eq_true hn9))) ?_
   refine sc (fun _ _ _ _ hd=>sv rfl (zaG true rfl (hd.v 1 rfl rfl) (hd.v 2 rfl rfl))) ?_
   refine sc (fun _ _ _ _ hd=>sv rfl (zan rfl (hd.v 3 rfl rfl))) ?_
   refine sc (fun _ _ S _ hd=>svg rfl (hd.v 4 rfl rfl) (zbU (c:=true) (zan rfl (S.at 4 rfl)) (decide_eq_true hn9b))) ?_
   refine sc (fun _ _ _ _ hd=>sv rfl (zaG true rfl (hd.v 4 rfl rfl) (hd.v 5 rfl rfl))) ?_
   refine sc (fun _ _ _ _ hd=>sv rfl (zan rfl (hd.v 6 rfl rfl))) ?_
   refine sc (fun _ _ S _ hd=>svg rfl (hd.v 7 rfl rfl) (zca rfl (S.at 7 rfl) (S.bx 4 rfl) rfl)) ?_
   refine sc (fun _ _ S _ hd=>svg rfl (hd.v 7 rfl rfl) (zab rfl (S.at 12 rfl) (za0 _))) ?_
   refine sc (fun _ _ S _ hd=>svg rfl (hd.v 7 rfl rfl) (zca rfl (hd.v 9 rfl rfl) (S.bx 0 rfl) rfl)) ?_
   refine sc (fun _ _ S _ hd=>slg rfl (hd.v 7 rfl rfl) (rc2 Tryz.func27 (hd.v 8 rfl rfl) (hd.v 10 rfl rfl)) (zqK (show QT 60 (za1 (q0,r0) (q1,r1) q0) ((aG b2 x2 y2)) _ from⟨b2,x2,y2,rfl,hq2,hk3,hk4,(S.num 3 rfl),(S.num 2 rfl)⟩).any (q2m S 14 hra0 hkz0 hkw0) (by decide) (by decide))) ?_
   refine sc (fun a _ _ _ hd=>svg rfl (hd.v 7 rfl rfl) (zbU (c:=true) (zde _ (by decide) rfl (hd.v 11 rfl rfl) rfl) (zfl (zhw (a:=(q0,r0)) (b:=(q1,r1)) hn9).1))) ?_
   refine sc (fun _ _ _ _ hd=>sv rfl (zaG true rfl (hd.v 7 rfl rfl) (hd.v 12 rfl rfl))) ?_
   refine sc (fun _ _ _ _ hd=>sv rfl (zan rfl (hd.v 13 rfl rfl))) ?_
   refine sc (fun _ _ S _ hd=>svg rfl (hd.v 14 rfl rfl) (zca rfl (S.at 5 rfl) (S.bx 5 rfl) rfl)) ?_
   refine sc (fun _ _ S _ hd=>svg rfl (hd.v 14 rfl rfl) (zab rfl (S.at 11 rfl) (za0 _))) ?_
   refine sc (fun _ _ S _ hd=>svg rfl (hd.v 14 rfl rfl) (zca rfl (hd.v 16 rfl rfl) (S.bx 1 rfl) rfl)) ?_
   refine sc (fun _ _ S _ hd=>slg rfl (hd.v 14 rfl rfl) (rc2 Tryz.func27 (hd.v 15 rfl rfl) (hd.v 17 rfl rfl)) (zqK (show QT 60 (za1 (q1,r1) (q0,r0) q1) ((aG b3 x3 y3)) _ from⟨b3,x3,y3,rfl,hq3,hk5,hk6,(S.num 1 rfl),(S.num 0 rfl)⟩).any (q2m S 10 hra1 hkz1 hkw1) (by decide) (by decide))) ?_
   refine sc (fun a _ _ _ hd=>svg rfl (hd.v 14 rfl rfl) (zbU (c:=true) (zde _ (by decide) rfl (hd.v 18 rfl rfl) rfl) (zfl (zhw (a:=(q0,r0)) (b:=(q1,r1)) hn9).2))) ?_
   refine sc (fun _ _ _ _ hd=>sv rfl (zaG true rfl (hd.v 14 rfl rfl) (hd.v 19 rfl rfl))) ?_
   refine sc (fun _ _ _ _ hd=>sv rfl (zan rfl (hd.v 20 rfl rfl))) ?_
   refine sc (fun _ _ S _ hd=>svg rfl (hd.v 21 rfl rfl) (za5 rfl (S.at 11 rfl) (S.bx 1 rfl) rfl)) ?_
   refine sc (fun _ _ S _ hd=>svg rfl (hd.v 21 rfl rfl) (za5 rfl (S.at 12 rfl) (S.bx 0 rfl) rfl)) ?_
   refine sc (fun _ _ S _ hd=>slg rfl (hd.v 21 rfl rfl) (rc2 Tryz.func34 (hd.v 22 rfl rfl) (hd.v 23 rfl rfl)) (zrS (((hP1 S.below)).to rfl rfl (by decide)) (((hP0 S.below)).to rfl rfl (by decide)) (by assumption) (by assumption))) ?_
   refine sc (fun _ _ S _ hd=>svg rfl (hd.v 21 rfl rfl) (za5 rfl (S.at 0 rfl) (S.bx 6 rfl) rfl)) ?_
   refine sc (fun _ _ S _ hd=>svg rfl (hd.v 21 rfl rfl) (za5 rfl (S.at 12 rfl) (S.bx 0 rfl) rfl)) ?_
   refine sc (fun _ _ S _ hd=>slg rfl (hd.v 21 rfl rfl) (rc2 Tryz.func34 (hd.v 25 rfl rfl) (hd.v 26 rfl rfl)) (zrS (((show P1 80 (q2) (za1 (q0,r0) (q1,r1) q2) ((aP b2_ x2_ y2_ b1 x1 y1)) _ from⟨b2_,x2_,y2_,b1,x1,y1,rfl,hqa2,(hq1).q,⟨(zv8 hkx2 (by omega)),(zv8 hky2 (by omega))⟩,⟨hk1,hk2⟩,⟨(S.num 6 rfl),(S.num 7 rfl)⟩,(S.num 5 rfl),(S.num 4 rfl)⟩)).to rfl rfl (by decide)) (((hP0 S.below)).to rfl rfl (by decide)) (by assumption) (by assumption))) ?_
   refine sc (fun _ _ _ _ hd=>slg rfl (hd.v 21 rfl rfl) (rc2 Tryz.func33 rfl rfl) (zth ((hd.r 24 rfl rfl)).any ((hd.r 27 rfl rfl)).any (by assumption) (by assumption) (by assumption))) ?_
   refine sc (fun _ _ _ _ hd=>slg rfl (hd.v 21 rfl rfl) (rc1 Tryz.func26 rfl) (zrf ((hd.r 28 rfl rfl)).any)) ?_
   refine sc (fun a _ _ _ hd=>svg rfl (hd.v 21 rfl rfl) (zbU (c:=true) (zde _ (by decide) rfl (hd.v 29 rfl rfl) rfl) (zfl (zn2 (a:=(q0,r0)) (b:=(q1,r1)) hn9)))) ?_
   refine sc (fun _ _ _ _ hd=>sv rfl (zaG true rfl (hd.v 21 rfl rfl) (hd.v 30 rfl rfl))) ?_
   refine sc (fun _ _ _ _ hd=>sv rfl (zan rfl (hd.v 31 rfl rfl))) ?_
   refine sc (fun _ _ S _ hd=>slg rfl (hd.v 32 rfl rfl) (rc0 Tryz.func9) (zdv (T.keep S.below))) ?_
   refine sc (fun _ _ _ _ hd=>sv rfl (zaG true rfl (hd.v 32 rfl rfl) (hd.v 33 rfl rfl))) ?_
   exact sn
  ·intro a1 V20 S hB hf
   have S:=S.add (hf.v 34 rfl rfl)
   clear hf S0
   show wpList _ _ _ [_] _ _
   refine tv S (zaj rfl (S.at 0 rfl)) fun a S=>?_
   refine hK11 _ _ ?_
   refine wp_ret ?_
   exact zaC rfl S (S.at 0 rfl) ⟨_,rfl,rfl,S.below⟩
theorem zjl (b0_:Bool)(x0_ y0_:Num)(d0_:Bool)(z0_ w0_:Num)(b1_:Bool)(x1_ y1_:Num)(d1_:Bool)(z1_ w1_:Num)(b2_:Bool)(x2_ y2_:Num){V:World}(T:TT V)(ox0:x0_.oo V)(oy0:y0_.oo V)(oz0:z0_.oo V)(ow0:w0_.oo V)(ox1:x1_.oo V)(oy1:y1_.oo V)(oz1:z1_.oo V)(ow1:w1_.oo V)(ox2:x2_.oo V)(oy2:y2_.oo V)(hL:zcB [(b0_,x0_,y0_,d0_,z0_,w0_),(b1_,x1_,y1_,d1_,z1_,w1_)]=false)(hT3:decide ((3:Int)<((max x2_.n y2_.n:Nat):Int))=true):
  Calls Tryz.prog 6 #[(aP b0_ x0_ y0_ d0_ z0_ w0_),(aP b1_ x1_ y1_ d1_ z1_ w1_),(aG b2_ x2_ y2_)] V (zag V (fun v _=>v= .bool true)):=by
 obtain⟨q0,hqa0⟩:∃q,qOf b0_ x0_.N y0_.N=q:=⟨_,rfl⟩
 obtain⟨r0,hra0⟩:∃q,qOf d0_ z0_.N w0_.N=q:=⟨_,rfl⟩
 obtain⟨q1,hqa1⟩:∃q,qOf b1_ x1_.N y1_.N=q:=⟨_,rfl⟩
 obtain⟨r1,hra1⟩:∃q,qOf d1_ z1_.N w1_.N=q:=⟨_,rfl⟩
 obtain⟨q2,hqa2⟩:∃q,qOf b2_ x2_.N y2_.N=q:=⟨_,rfl⟩
 refine fb Tryz.func6 Tryz.ntmps6 (zaa ox2 (zaa oy2 (zaa ox1 (zaa oy1 (zaa oz1 (zaa ow1 (zaa ox0 (zaa oy0 (zaa oz0 (zaa ow0 zav)))))))))) (fun a S=>?_)
 refine wsp fun K1 hK1=>?_
 refine tb S 0 (lP b0_ x0_ y0_ d0_ z0_ w0_) fun g1 a V1 hgg1 S=>?_
 refine tb S 2 (lP b1_ x1_ y1_ d1_ z1_ w1_) fun g2 a V2 hgg2 S=>?_
 refine tb S 4 (aL b2_ x2_ y2_) fun g3 a V3 hgg3 S=>?_
 refine ac S fun a S=>?_
 refine hK1 _ _ ?_
 refine wp_seq_k fun K2 hK2=>?_
 refine wsp fun K3 hK3=>?_
 refine lp S 3 0 fun a S=>?_
 refine lp S 3 1 fun a S=>?_
 refine ty S (F:=GP ([(b0_,x0_,y0_,d0_,z0_,w0_),(b1_,x1_,y1_,d1_,z1_,w1_)])) (zgj rfl (S.at 1 rfl) (S.at 0 rfl) (S.num 6 rfl) (S.num 7 rfl) (S.num 8 rfl) (S.num 9 rfl) (S.num 2 rfl) (S.num 3 rfl) (S.num 4 rfl) (S.num 5 rfl)) fun v a V4 hF hb S=>?_
 obtain⟨ov1,hov1⟩:∃z,z=v:=⟨_,rfl⟩
 rw[<-hov1]at hF S
 have rov1:=hF
 refine tc S (rc1 Tryz.func8 (S.at 0 rfl)) (zeJ rov1 hL) fun v a V5 hF hb S=>?_
 replace rov1:=rov1.keep hb
 subst hF
 refine mv S 0 fun a S=>?_
 refine tvg S (S.at 0 rfl) (zab rfl (S.at 6 rfl) (zbR _)) fun a S=>?_
 refine tvg S (S.at 1 rfl) (zab rfl (S.at 0 rfl) (zco _)) fun a S=>?_
 refine tvg S (S.at 2 rfl) (zap rfl (S.at 0 rfl) (S.bx 2 rfl) (Tryz.isAgg23 _) rfl) fun a S=>?_
 refine tvg S (S.at 3 rfl) (zcp (by decide) rfl (S.at 0 rfl)) fun a S=>?_
 refine tvg S (S.at 4 rfl) (zab rfl (S.at 10 rfl) (zbq _)) fun a S=>?_
 refine tvg S (S.at 5 rfl) (zap rfl (S.at 0 rfl) (S.bx 2 rfl) (Tryz.isAgg23 _) rfl) fun a S=>?_
 refine tvg S (S.at 6 rfl) (zcp (by decide) rfl (S.at 0 rfl)) fun a S=>?_
 refine tvg S (S.at 7 rfl) (znE rfl (S.at 3 rfl) (S.at 0 rfl)) fun a S=>?_
 refine tvg S (S.at 8 rfl) (zbU (c:=true) (zdd rfl (S.at 0 rfl) rfl) hT3) fun a S=>?_
 refine tv S (zaG false rfl (S.at 9 rfl) (S.at 0 rfl)) fun a S=>?_
 refine hK3 _ _ ?_
 refine wp_cond_true (S.at 0 rfl) ?_
 refine wp_seq_k fun K4 hK4=>?_
 have S:=S.keep [6] (ls':=[(6,.bool false)]) rfl
 refine zaA ?_
 refine tc S (rc0 Tryz.func9) (zdv (T.keep S.below)) fun v a V6 hF hb S=>?_
 subst hF
 refine av S (zaj rfl (S.at 0 rfl)) fun a S=>?_
 refine hK4 _ _ ?_
 refine wp_ret ?_
 exact zaC rfl S (S.at 0 rfl) ⟨_,rfl,rfl,S.below⟩
theorem zid (b0_:Bool)(x0_ y0_:Num)(d0_:Bool)(z0_ w0_:Num)(b1_:Bool)(x1_ y1_:Num)(d1_:Bool)(z1_ w1_:Num)(b2_:Bool)(x2_ y2_:Num){V:World}(T:TT V)(ox0:x0_.oo V)(oy0:y0_.oo V)(oz0:z0_.oo V)(ow0:w0_.oo V)(ox1:x1_.oo V)(oy1:y1_.oo V)(oz1:z1_.oo V)(ow1:w1_.oo V)(ox2:x2_.oo V)(oy2:y2_.oo V)(hL:zcB [(b0_,x0_,y0_,d0_,z0_,w0_),(b1_,x1_,y1_,d1_,z1_,w1_)]=true):
  Calls Tryz.prog 6 #[(aP b0_ x0_ y0_ d0_ z0_ w0_),(aP b1_ x1_ y1_ d1_ z1_ w1_),(aG b2_ x2_ y2_)] V (zag V (fun v _=>v= .bool true)):=by
 obtain⟨q0,hqa0⟩:∃q,qOf b0_ x0_.N y0_.N=q:=⟨_,rfl⟩
 obtain⟨r0,hra0⟩:∃q,qOf d0_ z0_.N w0_.N=q:=⟨_,rfl⟩
 obtain⟨q1,hqa1⟩:∃q,qOf b1_ x1_.N y1_.N=q:=⟨_,rfl⟩
 obtain⟨r1,hra1⟩:∃q,qOf d1_ z1_.N w1_.N=q:=⟨_,rfl⟩
 obtain⟨q2,hqa2⟩:∃q,qOf b2_ x2_.N y2_.N=q:=⟨_,rfl⟩
 refine fb Tryz.func6 Tryz.ntmps6 (zaa ox2 (zaa oy2 (zaa ox1 (zaa oy1 (zaa oz1 (zaa ow1 (zaa ox0 (zaa oy0 (zaa oz0 (zaa ow0 zav)))))))))) (fun a S=>?_)
 refine wsp fun K1 hK1=>?_
 refine tb S 0 (lP b0_ x0_ y0_ d0_ z0_ w0_) fun g1 a V1 hgg1 S=>?_
 refine tb S 2 (lP b1_ x1_ y1_ d1_ z1_ w1_) fun g2 a V2 hgg2 S=>?_
 refine tb S 4 (aL b2_ x2_ y2_) fun g3 a V3 hgg3 S=>?_
 refine ac S fun a S=>?_
 refine hK1 _ _ ?_
 refine wp_seq_k fun K2 hK2=>?_
 refine wsp fun K3 hK3=>?_
 refine lp S 3 0 fun a S=>?_
 refine lp S 3 1 fun a S=>?_
 refine ty S (F:=GP ([(b0_,x0_,y0_,d0_,z0_,w0_),(b1_,x1_,y1_,d1_,z1_,w1_)])) (zgj rfl (S.at 1 rfl) (S.at 0 rfl) (S.num 6 rfl) (S.num 7 rfl) (S.num 8 rfl) (S.num 9 rfl) (S.num 2 rfl) (S.num 3 rfl) (S.num 4 rfl) (S.num 5 rfl)) fun v a V4 hF hb S=>?_
 obtain⟨ov1,hov1⟩:∃z,z=v:=⟨_,rfl⟩
 rw[<-hov1]at hF S
 have rov1:=hF
 refine tc S (rc1 Tryz.func8 (S.at 0 rfl)) (zeJ rov1 hL) fun v a V5 hF hb S=>?_
 replace rov1:=rov1.keep hb
 subst hF
 refine mv S 0 fun a S=>?_
 refine tk S (S.at 0 rfl) fun a S=>?_
 refine tk S (S.at 1 rfl) fun a S=>?_
 refine tk S (S.at 2 rfl) fun a S=>?_
 refine tk S (S.at 3 rfl) fun a S=>?_
 refine tk S (S.at 4 rfl) fun a S=>?_
 refine tk S (S.at 5 rfl) fun a S=>?_
 refine tk S (S.at 6 rfl) fun a S=>?_
 refine tk S (S.at 7 rfl) fun a S=>?_
 refine tk S (S.at 8 rfl) fun a S=>?_
 refine tv S (zaG true rfl (S.at 9 rfl) rfl) fun a S=>?_
 refine hK3 _ _ ?_
 refine wp_cond_true (S.at 0 rfl) ?_
 refine wp_seq_k fun K4 hK4=>?_
 have S:=S.keep [6] (ls':=[(6,.bool false)]) rfl
 refine zaA ?_
 refine tc S (rc0 Tryz.func9) (zdv (T.keep S.below)) fun v a V6 hF hb S=>?_
 subst hF
 refine av S (zaj rfl (S.at 0 rfl)) fun a S=>?_
 refine hK4 _ _ ?_
 refine wp_ret ?_
 exact zaC rfl S (S.at 0 rfl) ⟨_,rfl,rfl,S.below⟩
end Go.Proofs.YtipckjmgdghkiaaGreatDoor
