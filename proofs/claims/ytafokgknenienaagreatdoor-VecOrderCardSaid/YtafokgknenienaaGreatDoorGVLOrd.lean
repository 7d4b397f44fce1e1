/- A part. -/
import Derived.Test.YtafokgknenienaaGreatDoorGVVecN
set_option maxHeartbeats 4000000
set_option maxRecDepth 100000
namespace Go.Proofs.YtafokgknenienaaGreatDoor
open Go Go.RowKit
theorem zm4 (b0_:Bool)(x0_ y0_:Num)(d0_:Bool)(z0_ w0_:Num)(b1_:Bool)(x1_ y1_:Num)(d1_:Bool)(z1_ w1_:Num)(b2_:Bool)(x2_ y2_:Num)(d2_:Bool)(z2_ w2_:Num){V:World}(T:TT V)(ox0:x0_.ok V V.heap.size)(oy0:y0_.ok V V.heap.size)(oz0:z0_.ok V V.heap.size)(ow0:w0_.ok V V.heap.size)(ox1:x1_.ok V V.heap.size)(oy1:y1_.ok V V.heap.size)(oz1:z1_.ok V V.heap.size)(ow1:w1_.ok V V.heap.size)(ox2:x2_.ok V V.heap.size)(oy2:y2_.ok V V.heap.size)(oz2:z2_.ok V V.heap.size)(ow2:w2_.ok V V.heap.size)(hL:ze8 [(b0_,x0_,y0_,d0_,z0_,w0_),(b1_,x1_,y1_,d1_,z1_,w1_),(b2_,x2_,y2_,d2_,z2_,w2_)]=false):
  Calls Tryz.prog 8 #[(aP b0_ x0_ y0_ d0_ z0_ w0_),(aP b1_ x1_ y1_ d1_ z1_ w1_),(aP b2_ x2_ y2_ d2_ z2_ w2_)] V (zai V (fun v _=>v= .bool true)):=by
 obtain⟨hL0,hL1,hL2⟩:=zpd hL
 obtain⟨hkx0,hky0,hkz0,hkw0⟩:=zem hL0
 obtain⟨hkx1,hky1,hkz1,hkw1⟩:=zem hL1
 obtain⟨hkx2,hky2,hkz2,hkw2⟩:=zem hL2
 obtain⟨q0,hqa0⟩:∃q,qOf b0_ x0_.N y0_.N=q:=⟨_,rfl⟩
 obtain⟨r0,hra0⟩:∃q,qOf d0_ z0_.N w0_.N=q:=⟨_,rfl⟩
 obtain⟨q1,hqa1⟩:∃q,qOf b1_ x1_.N y1_.N=q:=⟨_,rfl⟩
 obtain⟨r1,hra1⟩:∃q,qOf d1_ z1_.N w1_.N=q:=⟨_,rfl⟩
 obtain⟨q2,hqa2⟩:∃q,qOf b2_ x2_.N y2_.N=q:=⟨_,rfl⟩
 obtain⟨r2,hra2⟩:∃q,qOf d2_ z2_.N w2_.N=q:=⟨_,rfl⟩
 have hN4:∀p∈([(b0_,x0_,y0_,d0_,z0_,w0_),(b1_,x1_,y1_,d1_,z1_,w1_),(b2_,x2_,y2_,d2_,z2_,w2_)]:List PEl),zfC 3 p:=by simp[zfC, *]
 have hNq:([(b0_,x0_,y0_,d0_,z0_,w0_),(b1_,x1_,y1_,d1_,z1_,w1_),(b2_,x2_,y2_,d2_,z2_,w2_)]:List PEl).map pv=[(q0,r0),(q1,r1),(q2,r2)]:=by simp[pv,hqa0,hra0,hqa1,hra1,hqa2,hra2]
 refine zao (e:=[x2_,y2_,z2_,w2_,x1_,y1_,z1_,w1_,x0_,y0_,z0_,w0_]) Tryz.func8 rfl Tryz.ntmps8 (zta rfl) [(0,(aP b0_ x0_ y0_ d0_ z0_ w0_)),(1,(aP b1_ x1_ y1_ d1_ z1_ w1_)),(2,(aP b2_ x2_ y2_ d2_ z2_ w2_))] rfl (zaa ox2 (zaa oy2 (zaa oz2 (zaa ow2 (zaa ox1 (zaa oy1 (zaa oz1 (zaa ow1 (zaa ox0 (zaa oy0 (zaa oz0 (zaa ow0 zaz)))))))))))) (fun a S=>?_)
 refine wp_seq_k fun K1 hK1=>?_
 refine zab ?_
 refine ti S (cs:=(lP b0_ x0_ y0_ d0_ z0_ w0_)) (zar rfl (S.at 0 rfl) rfl) (fun g1=>[⟨g1,53,(lP b0_ x0_ y0_ d0_ z0_ w0_)⟩]) fun g1 a V1 hgg1 S=>?_
 refine ti S (cs:=(lP b1_ x1_ y1_ d1_ z1_ w1_)) (zar rfl (S.at 2 rfl) rfl) (fun g2=>[⟨g1,53,(lP b0_ x0_ y0_ d0_ z0_ w0_)⟩,⟨g2,53,(lP b1_ x1_ y1_ d1_ z1_ w1_)⟩]) fun g2 a V2 hgg2 S=>?_
 refine ti S (cs:=(lP b2_ x2_ y2_ d2_ z2_ w2_)) (zar rfl (S.at 4 rfl) rfl) (fun g3=>[⟨g1,53,(lP b0_ x0_ y0_ d0_ z0_ w0_)⟩,⟨g2,53,(lP b1_ x1_ y1_ d1_ z1_ w1_)⟩,⟨g3,53,(lP b2_ x2_ y2_ d2_ z2_ w2_)⟩]) fun g3 a V3 hgg3 S=>?_
 refine tv S (zav rfl) fun a S=>?_
 refine hK1 _ _ ?_
 refine wp_seq_k fun K2 hK2=>?_
 refine wp_seq_k fun K3 hK3=>?_
 refine zab ?_
 refine tv S (zac rfl (S.at 3 rfl) (S.bx 0 rfl) Tryz.underlying53 rfl (vs:=(lP b0_ x0_ y0_ d0_ z0_ w0_)) zaq rfl) fun a S=>?_
 refine tv S (zac rfl (S.at 3 rfl) (S.bx 1 rfl) Tryz.underlying53 rfl (vs:=(lP b1_ x1_ y1_ d1_ z1_ w1_)) zaq rfl) fun a S=>?_
 refine tv S (zac rfl (S.at 3 rfl) (S.bx 2 rfl) Tryz.underlying53 rfl (vs:=(lP b2_ x2_ y2_ d2_ z2_ w2_)) zaq rfl) fun a S=>?_
 refine ty S (F:=GP ([(b0_,x0_,y0_,d0_,z0_,w0_),(b1_,x1_,y1_,d1_,z1_,w1_),(b2_,x2_,y2_,d2_,z2_,w2_)])) (zdt rfl (S.at 2 rfl) (S.at 1 rfl) (S.at 0 rfl) (S.num 8 rfl) (S.num 9 rfl) (S.num 10 rfl) (S.num 11 rfl) (S.num 4 rfl) (S.num 5 rfl) (S.num 6 rfl) (S.num 7 rfl) (S.num 0 rfl) (S.num 1 rfl) (S.num 2 rfl) (S.num 3 rfl)) fun v a V4 hF hb S=>?_
 obtain⟨ov1,hov1⟩:∃z,z=v:=⟨_,rfl⟩
 rw[←hov1]at hF S
 have rov1:=hF
 refine tc S (F:=(fun v _=>v= .bool false)) (rc1 Tryz.func75 (S.at 0 rfl)) (zlC rov1 hL) fun v a V5 hF hb S=>?_
 replace rov1:=rov1.keep hb
 subst hF
 refine hK3 _ _ ?_
 refine wp_cond_false (S.at 0 rfl) ?_
 refine wp_skip ?_
 refine hK2 _ _ ?_
 refine wp_seq_k fun K4 hK4=>?_
 have S:=S.keep [5,4,3] (ls':=[(5,pT g3 0),(4,pT g2 0),(3,pT g1 0)]) rfl
 refine zab ?_
 refine tv S (zac rfl (S.at 2 rfl) (S.bx 0 rfl) Tryz.underlying53 rfl (vs:=(lP b0_ x0_ y0_ d0_ z0_ w0_)) zaq rfl) fun a S=>?_
 refine tv S (zac rfl (S.at 2 rfl) (S.bx 1 rfl) Tryz.underlying53 rfl (vs:=(lP b1_ x1_ y1_ d1_ z1_ w1_)) zaq rfl) fun a S=>?_
 refine tc S (F:=(fun v _=>v= .int .i64 (zaS q0 r0 q1 r1))) (rc2 Tryz.func68 (S.at 1 rfl) (S.at 0 rfl)) (ziB (T.keep S.below) (show P1 3 (q0) (r0) ((aP b0_ x0_ y0_ d0_ z0_ w0_)) _ from⟨b0_,x0_,y0_,d0_,z0_,w0_,rfl,hqa0,hra0,⟨hkx0,hky0⟩,⟨hkz0,hkw0⟩,⟨(S.num 8 rfl),(S.num 9 rfl)⟩,(S.num 10 rfl),(S.num 11 rfl)⟩) (show P1 3 (q1) (r1) ((aP b1_ x1_ y1_ d1_ z1_ w1_)) _ from⟨b1_,x1_,y1_,d1_,z1_,w1_,rfl,hqa1,hra1,⟨hkx1,hky1⟩,⟨hkz1,hkw1⟩,⟨(S.num 4 rfl),(S.num 5 rfl)⟩,(S.num 6 rfl),(S.num 7 rfl)⟩) (by omega) (by omega)) fun v a V6 hF hb S=>?_
 subst hF
 refine tv S (zan rfl (S.at 0 rfl)) fun a S=>?_
 refine hK4 _ _ ?_
 refine wp_seq_k fun K5 hK5=>?_
 refine wp_seq_k fun K6 hK6=>?_
 obtain⟨W1,hW1⟩:∃W,W=V6:=⟨_,rfl⟩
 rw[←hW1]at S ⊢
 have S0:=S
 refine fr 42 [18,19,20,21,22,23,24,25,26,27,28,29,30,31,32,33,34,35,36,37,38,39,40,41,42,43,44,45,46,47,48,49,50,51,52,53,54,55,56,57,58,59] [IsV (.int .i64 (zaS q0 r0 q1 r1)),IsV (.bool false),IsV (.bool false),IsV (.int .i64 (zaS q0 r0 q1 r1)),IsV (.bool false),IsV (.bool false),IsV (.bool false),IsV ((aP b1_ x1_ y1_ d1_ z1_ w1_)),IsV ((aP b0_ x0_ y0_ d0_ z0_ w0_)),IsV (.int .i64 (zaS q1 r1 q0 r0)),IsV (.int .i64 (zaS q0 r0 q1 r1)),IsV (.int .i64 (-(zaS q0 r0 q1 r1))),IsV (.bool false),IsV (.bool false),IsV (.bool false),IsV (.int .i64 (zaS q0 r0 q1 r1)),IsV (.bool (decide (zaS q0 r0 q1 r1=0))),IsV ((aP b0_ x0_ y0_ d0_ z0_ w0_)),IsV ((aP b1_ x1_ y1_ d1_ z1_ w1_)),IsV (.bool (decide (zaS q0 r0 q1 r1=0))),IsV (.bool false),IsV (.bool false),IsV (.bool false),IsV ((aP b0_ x0_ y0_ d0_ z0_ w0_)),IsV ((aP b2_ x2_ y2_ d2_ z2_ w2_)),PT 7 (q0+q2) (r0+r2),IsV ((aP b1_ x1_ y1_ d1_ z1_ w1_)),IsV ((aP b2_ x2_ y2_ d2_ z2_ w2_)),PT 7 (q1+q2) (r1+r2),IsV (.int .i64 (zaS (q0+q2) (r0+r2) (q1+q2) (r1+r2))),IsV (.int .i64 (zaS q0 r0 q1 r1)),IsV (.bool false),IsV (.bool false),IsV (.bool false),IsV ((aP b1_ x1_ y1_ d1_ z1_ w1_)),PT 3 (-q1) (-r1),IsV ((aP b0_ x0_ y0_ d0_ z0_ w0_)),PT 3 (-q0) (-r0),IsV (.int .i64 (zaS (-q1) (-r1) (-q0) (-r0))),IsV (.int .i64 (zaS q0 r0 q1 r1)),IsV (.bool false),IsV (.bool false)] S ?_ ?_
 ·refine sc (fun _ _ S _ _=>sv rfl (zad rfl (S.at 0 rfl))) ?_
  refine sc (fun _ _ _ _ hd=>sv rfl (za9 (zbY rfl (hd.v 0 rfl rfl) rfl) (show(decide (zaS q0 r0 q1 r1< -1))=false from(decide_eq_false (by have:=zeG q0 r0 q1 r1;omega))))) ?_
  refine sc (fun _ _ _ _ hd=>sv rfl (zad rfl (hd.v 1 rfl rfl))) ?_
  refine sc (fun _ _ S _ hd=>svg rfl (hd.v 2 rfl rfl) (zad rfl (S.at 0 rfl))) ?_
  refine sc (fun _ _ _ _ hd=>svg rfl (hd.v 2 rfl rfl) (za9 (zc1 rfl (hd.v 3 rfl rfl) rfl) (show(decide (1<zaS q0 r0 q1 r1))=false from(decide_eq_false (by have:=zeG q0 r0 q1 r1;omega))))) ?_
  refine sc (fun _ _ _ _ hd=>sv rfl (zau false rfl (hd.v 2 rfl rfl) (hd.v 4 rfl rfl))) ?_
  refine sc (fun _ _ _ _ hd=>sv rfl (zad rfl (hd.v 5 rfl rfl))) ?_
  refine sc (fun _ _ S _ hd=>svg rfl (hd.v 6 rfl rfl) (zac rfl (S.at 5 rfl) (S.bx 1 rfl) Tryz.underlying53 rfl (vs:=(lP b1_ x1_ y1_ d1_ z1_ w1_)) zaq rfl)) ?_
  refine sc (fun _ _ S _ hd=>svg rfl (hd.v 6 rfl rfl) (zac rfl (S.at 6 rfl) (S.bx 0 rfl) Tryz.underlying53 rfl (vs:=(lP b0_ x0_ y0_ d0_ z0_ w0_)) zaq rfl)) ?_
  refine sc (fun _ _ S _ hd=>slg rfl (hd.v 6 rfl rfl) (rc2 Tryz.func68 (hd.v 7 rfl rfl) (hd.v 8 rfl rfl)) (ziB (T.keep S.below) (show P1 3 (q1) (r1) ((aP b1_ x1_ y1_ d1_ z1_ w1_)) _ from⟨b1_,x1_,y1_,d1_,z1_,w1_,rfl,hqa1,hra1,⟨hkx1,hky1⟩,⟨hkz1,hkw1⟩,⟨(S.num 4 rfl),(S.num 5 rfl)⟩,(S.num 6 rfl),(S.num 7 rfl)⟩) (show P1 3 (q0) (r0) ((aP b0_ x0_ y0_ d0_ z0_ w0_)) _ from⟨b0_,x0_,y0_,d0_,z0_,w0_,rfl,hqa0,hra0,⟨hkx0,hky0⟩,⟨hkz0,hkw0⟩,⟨(S.num 8 rfl),(S.num 9 rfl)⟩,(S.num 10 rfl),(S.num 11 rfl)⟩) (by omega) (by omega))) ?_
  refine sc (fun _ _ S _ hd=>svg rfl (hd.v 6 rfl rfl) (zad rfl (S.at 0 rfl))) ?_
  refine sc (fun _ _ _ _ hd=>svg rfl (hd.v 6 rfl rfl) (zrq rfl (hd.v 10 rfl rfl) (zsS _ _ _ _))) ?_
  refine sc (fun _ _ _ _ hd=>svg rfl (hd.v 6 rfl rfl) (za9 (zfr _ (by decide) rfl (hd.v 9 rfl rfl) (hd.v 11 rfl rfl)) (show(!decide (zaS q1 r1 q0 r0= -(zaS q0 r0 q1 r1)))=false from(by rw[zpf q0 r0 q1 r1];simp)))) ?_
  refine sc (fun _ _ _ _ hd=>sv rfl (zau false rfl (hd.v 6 rfl rfl) (hd.v 12 rfl rfl))) ?_
  refine sc (fun _ _ _ _ hd=>sv rfl (zad rfl (hd.v 13 rfl rfl))) ?_
  refine sc (fun _ _ S _ hd=>svg rfl (hd.v 14 rfl rfl) (zad rfl (S.at 0 rfl))) ?_
  refine sc (fun _ _ _ _ hd=>svg rfl (hd.v 14 rfl rfl) (zbZ _ (by decide) rfl (hd.v 15 rfl rfl) rfl)) ?_
  refine sc (fun _ _ S _ hd=>svg rfl (hd.v 14 rfl rfl) (zac rfl (S.at 6 rfl) (S.bx 0 rfl) Tryz.underlying53 rfl (vs:=(lP b0_ x0_ y0_ d0_ z0_ w0_)) zaq rfl)) ?_
  refine sc (fun _ _ S _ hd=>svg rfl (hd.v 14 rfl rfl) (zac rfl (S.at 5 rfl) (S.bx 1 rfl) Tryz.underlying53 rfl (vs:=(lP b1_ x1_ y1_ d1_ z1_ w1_)) zaq rfl)) ?_
  refine sc (fun _ _ S _ hd=>slg rfl (hd.v 14 rfl rfl) (rc2 Tryz.func70 (hd.v 17 rfl rfl) (hd.v 18 rfl rfl)) (zew (T.keep S.below) (show P1 3 (q0) (r0) ((aP b0_ x0_ y0_ d0_ z0_ w0_)) _ from⟨b0_,x0_,y0_,d0_,z0_,w0_,rfl,hqa0,hra0,⟨hkx0,hky0⟩,⟨hkz0,hkw0⟩,⟨(S.num 8 rfl),(S.num 9 rfl)⟩,(S.num 10 rfl),(S.num 11 rfl)⟩) (show P1 3 (q1) (r1) ((aP b1_ x1_ y1_ d1_ z1_ w1_)) _ from⟨b1_,x1_,y1_,d1_,z1_,w1_,rfl,hqa1,hra1,⟨hkx1,hky1⟩,⟨hkz1,hkw1⟩,⟨(S.num 4 rfl),(S.num 5 rfl)⟩,(S.num 6 rfl),(S.num 7 rfl)⟩) (by omega) (by omega))) ?_
  refine sc (fun _ _ _ _ hd=>svg rfl (hd.v 14 rfl rfl) (za9 (zll rfl (hd.v 16 rfl rfl) (hd.v 19 rfl rfl)) (show((decide (zaS q0 r0 q1 r1=0)) != (decide (zaS q0 r0 q1 r1=0)))=false from(by simp)))) ?_
  refine sc (fun _ _ _ _ hd=>sv rfl (zau false rfl (hd.v 14 rfl rfl) (hd.v 20 rfl rfl))) ?_
  refine sc (fun _ _ _ _ hd=>sv rfl (zad rfl (hd.v 21 rfl rfl))) ?_
  refine sc (fun _ _ S _ hd=>svg rfl (hd.v 22 rfl rfl) (zac rfl (S.at 6 rfl) (S.bx 0 rfl) Tryz.underlying53 rfl (vs:=(lP b0_ x0_ y0_ d0_ z0_ w0_)) zaq rfl)) ?_
  refine sc (fun _ _ S _ hd=>svg rfl (hd.v 22 rfl rfl) (zac rfl (S.at 4 rfl) (S.bx 2 rfl) Tryz.underlying53 rfl (vs:=(lP b2_ x2_ y2_ d2_ z2_ w2_)) zaq rfl)) ?_
  refine sc (fun _ _ S _ hd=>slg rfl (hd.v 22 rfl rfl) (rc2 Tryz.func49 (hd.v 23 rfl rfl) (hd.v 24 rfl rfl)) (zlF (T.keep S.below) (show P1 3 (q0) (r0) ((aP b0_ x0_ y0_ d0_ z0_ w0_)) _ from⟨b0_,x0_,y0_,d0_,z0_,w0_,rfl,hqa0,hra0,⟨hkx0,hky0⟩,⟨hkz0,hkw0⟩,⟨(S.num 8 rfl),(S.num 9 rfl)⟩,(S.num 10 rfl),(S.num 11 rfl)⟩) (show P1 3 (q2) (r2) ((aP b2_ x2_ y2_ d2_ z2_ w2_)) _ from⟨b2_,x2_,y2_,d2_,z2_,w2_,rfl,hqa2,hra2,⟨hkx2,hky2⟩,⟨hkz2,hkw2⟩,⟨(S.num 0 rfl),(S.num 1 rfl)⟩,(S.num 2 rfl),(S.num 3 rfl)⟩) (by omega) (by omega))) ?_
  refine sc (fun _ _ S _ hd=>svg rfl (hd.v 22 rfl rfl) (zac rfl (S.at 5 rfl) (S.bx 1 rfl) Tryz.underlying53 rfl (vs:=(lP b1_ x1_ y1_ d1_ z1_ w1_)) zaq rfl)) ?_
  refine sc (fun _ _ S _ hd=>svg rfl (hd.v 22 rfl rfl) (zac rfl (S.at 4 rfl) (S.bx 2 rfl) Tryz.underlying53 rfl (vs:=(lP b2_ x2_ y2_ d2_ z2_ w2_)) zaq rfl)) ?_
  refine sc (fun _ _ S _ hd=>slg rfl (hd.v 22 rfl rfl) (rc2 Tryz.func49 (hd.v 26 rfl rfl) (hd.v 27 rfl rfl)) (zlF (T.keep S.below) (show P1 3 (q1) (r1) ((aP b1_ x1_ y1_ d1_ z1_ w1_)) _ from⟨b1_,x1_,y1_,d1_,z1_,w1_,rfl,hqa1,hra1,⟨hkx1,hky1⟩,⟨hkz1,hkw1⟩,⟨(S.num 4 rfl),(S.num 5 rfl)⟩,(S.num 6 rfl),(S.num 7 rfl)⟩) (show P1 3 (q2) (r2) ((aP b2_ x2_ y2_ d2_ z2_ w2_)) _ from⟨b2_,x2_,y2_,d2_,z2_,w2_,rfl,hqa2,hra2,⟨hkx2,hky2⟩,⟨hkz2,hkw2⟩,⟨(S.num 0 rfl),(S.num 1 rfl)⟩,(S.num 2 rfl),(S.num 3 rfl)⟩) (by omega) (by omega))) ?_
  refine sc (fun _ _ S _ hd=>slg rfl (hd.v 22 rfl rfl) (rc2 Tryz.func68 rfl rfl) (ziB (T.keep S.below) ((hd.r 25 rfl rfl)).any ((hd.r 28 rfl rfl)).any (by omega) (by omega))) ?_
  refine sc (fun _ _ S _ hd=>svg rfl (hd.v 22 rfl rfl) (zad rfl (S.at 0 rfl))) ?_
  refine sc (fun _ _ _ _ hd=>svg rfl (hd.v 22 rfl rfl) (za9 (zfr _ (by decide) rfl (hd.v 29 rfl rfl) (hd.v 30 rfl rfl)) (show(!decide (zaS (q0+q2) (r0+r2) (q1+q2) (r1+r2)=zaS q0 r0 q1 r1))=false from(by rw[zpg];simp)))) ?_
  refine sc (fun _ _ _ _ hd=>sv rfl (zau false rfl (hd.v 22 rfl rfl) (hd.v 31 rfl rfl))) ?_
  refine sc (fun _ _ _ _ hd=>sv rfl (zad rfl (hd.v 32 rfl rfl))) ?_
  refine sc (fun _ _ S _ hd=>svg rfl (hd.v 33 rfl rfl) (zac rfl (S.at 5 rfl) (S.bx 1 rfl) Tryz.underlying53 rfl (vs:=(lP b1_ x1_ y1_ d1_ z1_ w1_)) zaq rfl)) ?_
  refine sc (fun _ _ S _ hd=>slg rfl (hd.v 33 rfl rfl) (rc1 Tryz.func53 (hd.v 34 rfl rfl)) (zrW (T.keep S.below) (show P1 3 (q1) (r1) ((aP b1_ x1_ y1_ d1_ z1_ w1_)) _ from⟨b1_,x1_,y1_,d1_,z1_,w1_,rfl,hqa1,hra1,⟨hkx1,hky1⟩,⟨hkz1,hkw1⟩,⟨(S.num 4 rfl),(S.num 5 rfl)⟩,(S.num 6 rfl),(S.num 7 rfl)⟩) (by omega))) ?_
  refine sc (fun _ _ S _ hd=>svg rfl (hd.v 33 rfl rfl) (zac rfl (S.at 6 rfl) (S.bx 0 rfl) Tryz.underlying53 rfl (vs:=(lP b0_ x0_ y0_ d0_ z0_ w0_)) zaq rfl)) ?_
  refine sc (fun _ _ S _ hd=>slg rfl (hd.v 33 rfl rfl) (rc1 Tryz.func53 (hd.v 36 rfl rfl)) (zrW (T.keep S.below) (show P1 3 (q0) (r0) ((aP b0_ x0_ y0_ d0_ z0_ w0_)) _ from⟨b0_,x0_,y0_,d0_,z0_,w0_,rfl,hqa0,hra0,⟨hkx0,hky0⟩,⟨hkz0,hkw0⟩,⟨(S.num 8 rfl),(S.num 9 rfl)⟩,(S.num 10 rfl),(S.num 11 rfl)⟩) (by omega))) ?_
  refine sc (fun _ _ S _ hd=>slg rfl (hd.v 33 rfl rfl) (rc2 Tryz.func68 rfl rfl) (ziB (T.keep S.below) ((hd.r 35 rfl rfl)).any ((hd.r 37 rfl rfl)).any (by omega) (by omega))) ?_
  refine sc (fun _ _ S _ hd=>svg rfl (hd.v 33 rfl rfl) (zad rfl (S.at 0 rfl))) ?_
  refine sc (fun _ _ _ _ hd=>svg rfl (hd.v 33 rfl rfl) (za9 (zfr _ (by decide) rfl (hd.v 38 rfl rfl) (hd.v 39 rfl rfl)) (show(!decide (zaS (-q1) (-r1) (-q0) (-r0)=zaS q0 r0 q1 r1))=false from(by rw[zm9];simp)))) ?_
  refine sc (fun _ _ _ _ hd=>sv rfl (zau false rfl (hd.v 33 rfl rfl) (hd.v 40 rfl rfl))) ?_
  exact sn
 ·intro a1 V7 S hB hf
  have S:=S.add (hf.v 41 rfl rfl)
  clear hf S0
  show wpList _ _ _ [] _ _
  refine hK6 _ _ ?_
  refine wp_cond_false (S.at 0 rfl) ?_
  refine wp_skip ?_
  refine hK5 _ _ ?_
  refine wp_seq_k fun K7 hK7=>?_
  refine wp_seq_k fun K8 hK8=>?_
  rcases ztk (decide (zaS q0 r0 q1 r1<0))with hs1|hs1
  ·skip
   rcases ztk (decide (zaS q1 r1 q2 r2<0))with hs2|hs2
   ·skip
    refine zab ?_
    refine tv S (zad rfl (S.at 1 rfl)) fun a S=>?_
    refine tv S (za9 (zbY rfl (S.at 0 rfl) rfl) (show(decide (zaS q0 r0 q1 r1<0))=true from hs1)) fun a S=>?_
    refine tv S (zad rfl (S.at 0 rfl)) fun a S=>?_
    refine tvg S (S.at 0 rfl) (zac rfl (S.at 9 rfl) (S.bx 1 rfl) Tryz.underlying53 rfl (vs:=(lP b1_ x1_ y1_ d1_ z1_ w1_)) zaq rfl) fun a S=>?_
    refine tvg S (S.at 1 rfl) (zac rfl (S.at 9 rfl) (S.bx 2 rfl) Tryz.underlying53 rfl (vs:=(lP b2_ x2_ y2_ d2_ z2_ w2_)) zaq rfl) fun a S=>?_
    refine tcg S (S.at 2 rfl) (F:=(fun v _=>v= .int .i64 (zaS q1 r1 q2 r2))) (rc2 Tryz.func68 (S.at 1 rfl) (S.at 0 rfl)) (ziB (T.keep S.below) (show P1 3 (q1) (r1) ((aP b1_ x1_ y1_ d1_ z1_ w1_)) _ from⟨b1_,x1_,y1_,d1_,z1_,w1_,rfl,hqa1,hra1,⟨hkx1,hky1⟩,⟨hkz1,hkw1⟩,⟨(S.num 4 rfl),(S.num 5 rfl)⟩,(S.num 6 rfl),(S.num 7 rfl)⟩) (show P1 3 (q2) (r2) ((aP b2_ x2_ y2_ d2_ z2_ w2_)) _ from⟨b2_,x2_,y2_,d2_,z2_,w2_,rfl,hqa2,hra2,⟨hkx2,hky2⟩,⟨hkz2,hkw2⟩,⟨(S.num 0 rfl),(S.num 1 rfl)⟩,(S.num 2 rfl),(S.num 3 rfl)⟩) (by omega) (by omega)) fun v a V8 hF hb S=>?_
    subst hF
    refine tvg S (S.at 3 rfl) (za9 (zbY rfl (S.at 0 rfl) rfl) (show(decide (zaS q1 r1 q2 r2<0))=true from hs2)) fun a S=>?_
    refine tv S (zau true rfl (S.at 4 rfl) (S.at 0 rfl)) fun a S=>?_
    refine tv S (zad rfl (S.at 0 rfl)) fun a S=>?_
    refine tvg S (S.at 0 rfl) (zac rfl (S.at 16 rfl) (S.bx 0 rfl) Tryz.underlying53 rfl (vs:=(lP b0_ x0_ y0_ d0_ z0_ w0_)) zaq rfl) fun a S=>?_
    refine tvg S (S.at 1 rfl) (zac rfl (S.at 15 rfl) (S.bx 2 rfl) Tryz.underlying53 rfl (vs:=(lP b2_ x2_ y2_ d2_ z2_ w2_)) zaq rfl) fun a S=>?_
    refine tcg S (S.at 2 rfl) (F:=(fun v _=>v= .int .i64 (zaS q0 r0 q2 r2))) (rc2 Tryz.func68 (S.at 1 rfl) (S.at 0 rfl)) (ziB (T.keep S.below) (show P1 3 (q0) (r0) ((aP b0_ x0_ y0_ d0_ z0_ w0_)) _ from⟨b0_,x0_,y0_,d0_,z0_,w0_,rfl,hqa0,hra0,⟨hkx0,hky0⟩,⟨hkz0,hkw0⟩,⟨(S.num 8 rfl),(S.num 9 rfl)⟩,(S.num 10 rfl),(S.num 11 rfl)⟩) (show P1 3 (q2) (r2) ((aP b2_ x2_ y2_ d2_ z2_ w2_)) _ from⟨b2_,x2_,y2_,d2_,z2_,w2_,rfl,hqa2,hra2,⟨hkx2,hky2⟩,⟨hkz2,hkw2⟩,⟨(S.num 0 rfl),(S.num 1 rfl)⟩,(S.num 2 rfl),(S.num 3 rfl)⟩) (by omega) (by omega)) fun v a V9 hF hb S=>?_
    subst hF
    refine tvg S (S.at 3 rfl) (za9 (zro rfl (S.at 0 rfl) rfl) (show(decide (0≤zaS q0 r0 q2 r2))=false from(zkU hs1 hs2))) fun a S=>?_
    refine tv S (zau true rfl (S.at 4 rfl) (S.at 0 rfl)) fun a S=>?_
    refine hK8 _ _ ?_
    refine wp_cond_false (S.at 0 rfl) ?_
    refine wp_skip ?_
    refine hK7 _ _ ?_
    refine wp_seq_k fun K9 hK9=>?_
    have S:=S.keep [5,4,3] (ls':=[(5,pT g3 0),(4,pT g2 0),(3,pT g1 0)]) rfl
    refine zab ?_
    refine tv S (zac rfl (S.at 2 rfl) (S.bx 0 rfl) Tryz.underlying53 rfl (vs:=(lP b0_ x0_ y0_ d0_ z0_ w0_)) zaq rfl) fun a S=>?_
    refine tv S (zac rfl (S.at 2 rfl) (S.bx 1 rfl) Tryz.underlying53 rfl (vs:=(lP b1_ x1_ y1_ d1_ z1_ w1_)) zaq rfl) fun a S=>?_
    refine tv S (zac rfl (S.at 2 rfl) (S.bx 2 rfl) Tryz.underlying53 rfl (vs:=(lP b2_ x2_ y2_ d2_ z2_ w2_)) zaq rfl) fun a S=>?_
    refine ty S (F:=GP ([(b0_,x0_,y0_,d0_,z0_,w0_),(b1_,x1_,y1_,d1_,z1_,w1_),(b2_,x2_,y2_,d2_,z2_,w2_)])) (zdt rfl (S.at 2 rfl) (S.at 1 rfl) (S.at 0 rfl) (S.num 8 rfl) (S.num 9 rfl) (S.num 10 rfl) (S.num 11 rfl) (S.num 4 rfl) (S.num 5 rfl) (S.num 6 rfl) (S.num 7 rfl) (S.num 0 rfl) (S.num 1 rfl) (S.num 2 rfl) (S.num 3 rfl)) fun v a V10 hF hb S=>?_
    obtain⟨ov2,hov2⟩:∃z,z=v:=⟨_,rfl⟩
    rw[←hov2]at hF S
    have rov2:=hF
    refine tc S (F:=TRow 3 ([(q0,r0),(q1,r1),(q2,r2)])) (rc1 Tryz.func73 (S.at 0 rfl)) (zdu (T.keep S.below) (GP.row (qs:=[(q0,r0),(q1,r1),(q2,r2)]) rov2 hN4 (by simp) hNq) (by omega)) fun v a V11 hF hb S=>?_
    replace rov2:=rov2.keep hb
    obtain⟨ov3,hov3⟩:∃z,z=v:=⟨_,rfl⟩
    rw[←hov3]at hF S
    have rov3:=hF
    refine tv S (zan rfl (S.at 0 rfl)) fun a S=>?_
    refine hK9 _ _ ?_
    refine wp_seq_k fun K10 hK10=>?_
    have S:=S.keep [8,4,3] (ls':=[(8,ov3),(4,pT g2 0),(3,pT g1 0)]) rfl
    obtain⟨W2,hW2⟩:∃W,W=V11:=⟨_,rfl⟩
    rw[←hW2]at S ⊢
    have S0:=S
    rw[←hW2]at rov3
    refine fr 31 [79,80,81,82,83,84,85,86,87,88,89,90,91,92,93,94,95,96,97,98,99,100,101,102,103,104,105,106,107,108,109] [IsV (ov3),IsV (.int .i64 (((3:Nat):Int))),IsV (.bool true),IsV (.bool true),IsV (ov3),ElP 3 (q0) (r0),PT 3 (q0) (r0),IsV ((aP b0_ x0_ y0_ d0_ z0_ w0_)),IsV (.bool true),IsV (.bool true),IsV (.bool true),IsV (ov3),ElP 3 (q1) (r1),PT 3 (q1) (r1),IsV ((aP b1_ x1_ y1_ d1_ z1_ w1_)),IsV (.bool true),IsV (.bool true),IsV (.bool true),IsV (ov3),TRow 3 ([(q0,r0),(q1,r1),(q2,r2)]),IsV (ov3),IsV (.bool true),IsV (.bool true),IsV (.bool true),TRow 1 ([]),IsV (.int .i64 (((0:Nat):Int))),IsV (.bool true),IsV (.bool true),IsV (.bool true),IsV (.bool true),IsV (.bool true)] S ?_ ?_
    ·refine sc (fun _ _ S _ _=>sv rfl (zad rfl (S.at 0 rfl))) ?_
     refine sc (fun _ _ _ hB hd=>sv rfl (zdc (n:=3) (rov3.keep hB) rfl rfl (hd.v 0 rfl rfl))) ?_
     refine sc (fun _ _ _ _ hd=>sv rfl (za9 (zbZ _ (by decide) rfl (hd.v 1 rfl rfl) rfl) (show(decide (((3:Nat):Int)=3))=true from(by decide)))) ?_
     refine sc (fun _ _ _ _ hd=>sv rfl (zad rfl (hd.v 2 rfl rfl))) ?_
     refine sc (fun _ _ S _ hd=>svg rfl (hd.v 3 rfl rfl) (zad rfl (S.at 0 rfl))) ?_
     refine sc (fun _ _ _ hB hd=>by
      obtain⟨A,n,c,hv,hA,hk,hq⟩:=zjQ (rov3.keep hB) (i:=0) (by simp)
      exact svg rfl (hd.v 3 rfl rfl) (zb9 (i:=0) hA hk rfl ((hd.v 4 rfl rfl).trans hv)) hq) ?_
     refine sc (fun _ _ _ _ hd=>by
      obtain⟨A,m,b,x,y,b',x',y',hv,-,E,hq⟩:=(hd.r 5 rfl rfl)
      exact svg rfl (hd.v 3 rfl rfl) (zc2 E rfl hv) hq) ?_
     refine sc (fun _ _ S _ hd=>svg rfl (hd.v 3 rfl rfl) (zac rfl (S.at 2 rfl) (S.bx 0 rfl) Tryz.underlying53 rfl (vs:=(lP b0_ x0_ y0_ d0_ z0_ w0_)) zaq rfl)) ?_
     refine sc (fun _ _ S _ hd=>slg rfl (hd.v 3 rfl rfl) (rc2 Tryz.func70 rfl (hd.v 7 rfl rfl)) (zbN (zew (T.keep S.below) ((hd.r 6 rfl rfl)).any (show P1 3 (q0) (r0) ((aP b0_ x0_ y0_ d0_ z0_ w0_)) _ from⟨b0_,x0_,y0_,d0_,z0_,w0_,rfl,hqa0,hra0,⟨hkx0,hky0⟩,⟨hkz0,hkw0⟩,⟨(S.num 8 rfl),(S.num 9 rfl)⟩,(S.num 10 rfl),(S.num 11 rfl)⟩) (by omega) (by omega)) (fun _ _ h=>h.trans (congrArg Value.bool (show(decide (zaS q0 r0 q0 r0=0))=true from(zb8 (by grind) (by grind))))))) ?_
     refine sc (fun _ _ _ _ hd=>sv rfl (zau true rfl (hd.v 3 rfl rfl) (hd.v 8 rfl rfl))) ?_
     refine sc (fun _ _ _ _ hd=>sv rfl (zad rfl (hd.v 9 rfl rfl))) ?_
     refine sc (fun _ _ S _ hd=>svg rfl (hd.v 10 rfl rfl) (zad rfl (S.at 0 rfl))) ?_
     refine sc (fun _ _ _ hB hd=>by
      obtain⟨A,n,c,hv,hA,hk,hq⟩:=zjQ (rov3.keep hB) (i:=1) (by simp)
      exact svg rfl (hd.v 10 rfl rfl) (zb9 (i:=1) hA hk rfl ((hd.v 11 rfl rfl).trans hv)) hq) ?_
     refine sc (fun _ _ _ _ hd=>by
      obtain⟨A,m,b,x,y,b',x',y',hv,-,E,hq⟩:=(hd.r 12 rfl rfl)
      exact svg rfl (hd.v 10 rfl rfl) (zc2 E rfl hv) hq) ?_
     refine sc (fun _ _ S _ hd=>svg rfl (hd.v 10 rfl rfl) (zac rfl (S.at 1 rfl) (S.bx 1 rfl) Tryz.underlying53 rfl (vs:=(lP b1_ x1_ y1_ d1_ z1_ w1_)) zaq rfl)) ?_
     refine sc (fun _ _ S _ hd=>slg rfl (hd.v 10 rfl rfl) (rc2 Tryz.func70 rfl (hd.v 14 rfl rfl)) (zbN (zew (T.keep S.below) ((hd.r 13 rfl rfl)).any (show P1 3 (q1) (r1) ((aP b1_ x1_ y1_ d1_ z1_ w1_)) _ from⟨b1_,x1_,y1_,d1_,z1_,w1_,rfl,hqa1,hra1,⟨hkx1,hky1⟩,⟨hkz1,hkw1⟩,⟨(S.num 4 rfl),(S.num 5 rfl)⟩,(S.num 6 rfl),(S.num 7 rfl)⟩) (by omega) (by omega)) (fun _ _ h=>h.trans (congrArg Value.bool (show(decide (zaS q1 r1 q1 r1=0))=true from(zb8 (by grind) (by grind))))))) ?_
     refine sc (fun _ _ _ _ hd=>sv rfl (zau true rfl (hd.v 10 rfl rfl) (hd.v 15 rfl rfl))) ?_
     refine sc (fun _ _ _ _ hd=>sv rfl (zad rfl (hd.v 16 rfl rfl))) ?_
     refine sc (fun _ _ S _ hd=>svg rfl (hd.v 17 rfl rfl) (zad rfl (S.at 0 rfl))) ?_
     refine sc (fun _ _ S hB hd=>slg rfl (hd.v 17 rfl rfl) (rc1 Tryz.func73 (hd.v 18 rfl rfl)) (zdu (T.keep S.below) ((rov3.keep hB)).any (by omega))) ?_
     refine sc (fun _ _ S _ hd=>svg rfl (hd.v 17 rfl rfl) (zad rfl (S.at 0 rfl))) ?_
     refine sc (fun _ _ _ hB hd=>slg rfl (hd.v 17 rfl rfl) (rc2 Tryz.func72 rfl (hd.v 20 rfl rfl)) (zc4 (hd.r 19 rfl rfl) (rov3.keep hB) rfl)) ?_
     refine sc (fun _ _ _ _ hd=>sv rfl (zau true rfl (hd.v 17 rfl rfl) (hd.v 21 rfl rfl))) ?_
     refine sc (fun _ _ _ _ hd=>sv rfl (zad rfl (hd.v 22 rfl rfl))) ?_
     refine sc (fun _ _ S _ hd=>slg rfl (hd.v 23 rfl rfl) (rcc Tryz.func73) (zdu (T.keep S.below) zfg (by omega))) ?_
     refine sc (fun _ _ _ _ hd=>svg rfl (hd.v 23 rfl rfl) (zdc (n:=0) (hd.r 24 rfl rfl) rfl rfl rfl)) ?_
     refine sc (fun _ _ _ _ hd=>svg rfl (hd.v 23 rfl rfl) (za9 (zbZ _ (by decide) rfl (hd.v 25 rfl rfl) rfl) (show(decide (((0:Nat):Int)=0))=true from(by decide)))) ?_
     refine sc (fun _ _ _ _ hd=>sv rfl (zau true rfl (hd.v 23 rfl rfl) (hd.v 26 rfl rfl))) ?_
     refine sc (fun _ _ _ _ hd=>sv rfl (zad rfl (hd.v 27 rfl rfl))) ?_
     refine sc (fun _ _ S _ hd=>slg rfl (hd.v 28 rfl rfl) (rc0 Tryz.func47) (zcU (T.keep S.below))) ?_
     refine sc (fun _ _ _ _ hd=>sv rfl (zau true rfl (hd.v 28 rfl rfl) (hd.v 29 rfl rfl))) ?_
     exact sn
    ·intro a2 V12 S hB hf
     replace rov3:=rov3.keep hB
     have S:=S.add (hf.v 30 rfl rfl)
     clear hf S0
     show wpList _ _ _ [_] _ _
     refine tv S (zan rfl (S.at 0 rfl)) fun a S=>?_
     refine hK10 _ _ ?_
     refine wp_ret ?_
     exact zaH rfl S (S.at 0 rfl) ⟨_,rfl,rfl,S.below⟩
   ·skip
    refine zab ?_
    refine tv S (zad rfl (S.at 1 rfl)) fun a S=>?_
    refine tv S (za9 (zbY rfl (S.at 0 rfl) rfl) (show(decide (zaS q0 r0 q1 r1<0))=true from hs1)) fun a S=>?_
    refine tv S (zad rfl (S.at 0 rfl)) fun a S=>?_
    refine tvg S (S.at 0 rfl) (zac rfl (S.at 9 rfl) (S.bx 1 rfl) Tryz.underlying53 rfl (vs:=(lP b1_ x1_ y1_ d1_ z1_ w1_)) zaq rfl) fun a S=>?_
    refine tvg S (S.at 1 rfl) (zac rfl (S.at 9 rfl) (S.bx 2 rfl) Tryz.underlying53 rfl (vs:=(lP b2_ x2_ y2_ d2_ z2_ w2_)) zaq rfl) fun a S=>?_
    refine tcg S (S.at 2 rfl) (F:=(fun v _=>v= .int .i64 (zaS q1 r1 q2 r2))) (rc2 Tryz.func68 (S.at 1 rfl) (S.at 0 rfl)) (ziB (T.keep S.below) (show P1 3 (q1) (r1) ((aP b1_ x1_ y1_ d1_ z1_ w1_)) _ from⟨b1_,x1_,y1_,d1_,z1_,w1_,rfl,hqa1,hra1,⟨hkx1,hky1⟩,⟨hkz1,hkw1⟩,⟨(S.num 4 rfl),(S.num 5 rfl)⟩,(S.num 6 rfl),(S.num 7 rfl)⟩) (show P1 3 (q2) (r2) ((aP b2_ x2_ y2_ d2_ z2_ w2_)) _ from⟨b2_,x2_,y2_,d2_,z2_,w2_,rfl,hqa2,hra2,⟨hkx2,hky2⟩,⟨hkz2,hkw2⟩,⟨(S.num 0 rfl),(S.num 1 rfl)⟩,(S.num 2 rfl),(S.num 3 rfl)⟩) (by omega) (by omega)) fun v a V13 hF hb S=>?_
    subst hF
    refine tvg S (S.at 3 rfl) (za9 (zbY rfl (S.at 0 rfl) rfl) (show(decide (zaS q1 r1 q2 r2<0))=false from hs2)) fun a S=>?_
    refine tv S (zau true rfl (S.at 4 rfl) (S.at 0 rfl)) fun a S=>?_
    refine tv S (zad rfl (S.at 0 rfl)) fun a S=>?_
    refine tk S (S.at 0 rfl) fun a S=>?_
    refine tk S (S.at 1 rfl) fun a S=>?_
    refine tk S (S.at 2 rfl) fun a S=>?_
    refine tk S (S.at 3 rfl) fun a S=>?_
    refine tv S (zau false rfl (S.at 4 rfl) rfl) fun a S=>?_
    refine hK8 _ _ ?_
    refine wp_cond_false (S.at 0 rfl) ?_
    refine wp_skip ?_
    refine hK7 _ _ ?_
    refine wp_seq_k fun K11 hK11=>?_
    have S:=S.keep [5,4,3] (ls':=[(5,pT g3 0),(4,pT g2 0),(3,pT g1 0)]) rfl
    refine zab ?_
    refine tv S (zac rfl (S.at 2 rfl) (S.bx 0 rfl) Tryz.underlying53 rfl (vs:=(lP b0_ x0_ y0_ d0_ z0_ w0_)) zaq rfl) fun a S=>?_
    refine tv S (zac rfl (S.at 2 rfl) (S.bx 1 rfl) Tryz.underlying53 rfl (vs:=(lP b1_ x1_ y1_ d1_ z1_ w1_)) zaq rfl) fun a S=>?_
    refine tv S (zac rfl (S.at 2 rfl) (S.bx 2 rfl) Tryz.underlying53 rfl (vs:=(lP b2_ x2_ y2_ d2_ z2_ w2_)) zaq rfl) fun a S=>?_
    refine ty S (F:=GP ([(b0_,x0_,y0_,d0_,z0_,w0_),(b1_,x1_,y1_,d1_,z1_,w1_),(b2_,x2_,y2_,d2_,z2_,w2_)])) (zdt rfl (S.at 2 rfl) (S.at 1 rfl) (S.at 0 rfl) (S.num 8 rfl) (S.num 9 rfl) (S.num 10 rfl) (S.num 11 rfl) (S.num 4 rfl) (S.num 5 rfl) (S.num 6 rfl) (S.num 7 rfl) (S.num 0 rfl) (S.num 1 rfl) (S.num 2 rfl) (S.num 3 rfl)) fun v a V14 hF hb S=>?_
    obtain⟨ov4,hov4⟩:∃z,z=v:=⟨_,rfl⟩
    rw[←hov4]at hF S
    have rov4:=hF
    refine tc S (F:=TRow 3 ([(q0,r0),(q1,r1),(q2,r2)])) (rc1 Tryz.func73 (S.at 0 rfl)) (zdu (T.keep S.below) (GP.row (qs:=[(q0,r0),(q1,r1),(q2,r2)]) rov4 hN4 (by simp) hNq) (by omega)) fun v a V15 hF hb S=>?_
    replace rov4:=rov4.keep hb
    obtain⟨ov5,hov5⟩:∃z,z=v:=⟨_,rfl⟩
    rw[←hov5]at hF S
    have rov5:=hF
    refine tv S (zan rfl (S.at 0 rfl)) fun a S=>?_
    refine hK11 _ _ ?_
    refine wp_seq_k fun K12 hK12=>?_
    have S:=S.keep [8,4,3] (ls':=[(8,ov5),(4,pT g2 0),(3,pT g1 0)]) rfl
    obtain⟨W3,hW3⟩:∃W,W=V15:=⟨_,rfl⟩
    rw[←hW3]at S ⊢
    have S0:=S
    rw[←hW3]at rov5
    refine fr 31 [79,80,81,82,83,84,85,86,87,88,89,90,91,92,93,94,95,96,97,98,99,100,101,102,103,104,105,106,107,108,109] [IsV (ov5),IsV (.int .i64 (((3:Nat):Int))),IsV (.bool true),IsV (.bool true),IsV (ov5),ElP 3 (q0) (r0),PT 3 (q0) (r0),IsV ((aP b0_ x0_ y0_ d0_ z0_ w0_)),IsV (.bool true),IsV (.bool true),IsV (.bool true),IsV (ov5),ElP 3 (q1) (r1),PT 3 (q1) (r1),IsV ((aP b1_ x1_ y1_ d1_ z1_ w1_)),IsV (.bool true),IsV (.bool true),IsV (.bool true),IsV (ov5),TRow 3 ([(q0,r0),(q1,r1),(q2,r2)]),IsV (ov5),IsV (.bool true),IsV (.bool true),IsV (.bool true),TRow 1 ([]),IsV (.int .i64 (((0:Nat):Int))),IsV (.bool true),IsV (.bool true),IsV (.bool true),IsV (.bool true),IsV (.bool true)] S ?_ ?_
    ·refine sc (fun _ _ S _ _=>sv rfl (zad rfl (S.at 0 rfl))) ?_
     refine sc (fun _ _ _ hB hd=>sv rfl (zdc (n:=3) (rov5.keep hB) rfl rfl (hd.v 0 rfl rfl))) ?_
     refine sc (fun _ _ _ _ hd=>sv rfl (za9 (zbZ _ (by decide) rfl (hd.v 1 rfl rfl) rfl) (show(decide (((3:Nat):Int)=3))=true from(by decide)))) ?_
     refine sc (fun _ _ _ _ hd=>sv rfl (zad rfl (hd.v 2 rfl rfl))) ?_
     refine sc (fun _ _ S _ hd=>svg rfl (hd.v 3 rfl rfl) (zad rfl (S.at 0 rfl))) ?_
     refine sc (fun _ _ _ hB hd=>by
      obtain⟨A,n,c,hv,hA,hk,hq⟩:=zjQ (rov5.keep hB) (i:=0) (by simp)
      exact svg rfl (hd.v 3 rfl rfl) (zb9 (i:=0) hA hk rfl ((hd.v 4 rfl rfl).trans hv)) hq) ?_
     refine sc (fun _ _ _ _ hd=>by
      obtain⟨A,m,b,x,y,b',x',y',hv,-,E,hq⟩:=(hd.r 5 rfl rfl)
      exact svg rfl (hd.v 3 rfl rfl) (zc2 E rfl hv) hq) ?_
     refine sc (fun _ _ S _ hd=>svg rfl (hd.v 3 rfl rfl) (zac rfl (S.at 2 rfl) (S.bx 0 rfl) Tryz.underlying53 rfl (vs:=(lP b0_ x0_ y0_ d0_ z0_ w0_)) zaq rfl)) ?_
     refine sc (fun _ _ S _ hd=>slg rfl (hd.v 3 rfl rfl) (rc2 Tryz.func70 rfl (hd.v 7 rfl rfl)) (zbN (zew (T.keep S.below) ((hd.r 6 rfl rfl)).any (show P1 3 (q0) (r0) ((aP b0_ x0_ y0_ d0_ z0_ w0_)) _ from⟨b0_,x0_,y0_,d0_,z0_,w0_,rfl,hqa0,hra0,⟨hkx0,hky0⟩,⟨hkz0,hkw0⟩,⟨(S.num 8 rfl),(S.num 9 rfl)⟩,(S.num 10 rfl),(S.num 11 rfl)⟩) (by omega) (by omega)) (fun _ _ h=>h.trans (congrArg Value.bool (show(decide (zaS q0 r0 q0 r0=0))=true from(zb8 (by grind) (by grind))))))) ?_
     refine sc (fun _ _ _ _ hd=>sv rfl (zau true rfl (hd.v 3 rfl rfl) (hd.v 8 rfl rfl))) ?_
     refine sc (fun _ _ _ _ hd=>sv rfl (zad rfl (hd.v 9 rfl rfl))) ?_
     refine sc (fun _ _ S _ hd=>svg rfl (hd.v 10 rfl rfl) (zad rfl (S.at 0 rfl))) ?_
     refine sc (fun _ _ _ hB hd=>by
      obtain⟨A,n,c,hv,hA,hk,hq⟩:=zjQ (rov5.keep hB) (i:=1) (by simp)
      exact svg rfl (hd.v 10 rfl rfl) (zb9 (i:=1) hA hk rfl ((hd.v 11 rfl rfl).trans hv)) hq) ?_
     refine sc (fun _ _ _ _ hd=>by
      obtain⟨A,m,b,x,y,b',x',y',hv,-,E,hq⟩:=(hd.r 12 rfl rfl)
      exact svg rfl (hd.v 10 rfl rfl) (zc2 E rfl hv) hq) ?_
     refine sc (fun _ _ S _ hd=>svg rfl (hd.v 10 rfl rfl) (zac rfl (S.at 1 rfl) (S.bx 1 rfl) Tryz.underlying53 rfl (vs:=(lP b1_ x1_ y1_ d1_ z1_ w1_)) zaq rfl)) ?_
     refine sc (fun _ _ S _ hd=>slg rfl (hd.v 10 rfl rfl) (rc2 Tryz.func70 rfl (hd.v 14 rfl rfl)) (zbN (zew (T.keep S.below) ((hd.r 13 rfl rfl)).any (show P1 3 (q1) (r1) ((aP b1_ x1_ y1_ d1_ z1_ w1_)) _ from⟨b1_,x1_,y1_,d1_,z1_,w1_,rfl,hqa1,hra1,⟨hkx1,hky1⟩,⟨hkz1,hkw1⟩,⟨(S.num 4 rfl),(S.num 5 rfl)⟩,(S.num 6 rfl),(S.num 7 rfl)⟩) (by omega) (by omega)) (fun _ _ h=>h.trans (congrArg Value.bool (show(decide (zaS q1 r1 q1 r1=0))=true from(zb8 (by grind) (by grind))))))) ?_
     refine sc (fun _ _ _ _ hd=>sv rfl (zau true rfl (hd.v 10 rfl rfl) (hd.v 15 rfl rfl))) ?_
     refine sc (fun _ _ _ _ hd=>sv rfl (zad rfl (hd.v 16 rfl rfl))) ?_
     refine sc (fun _ _ S _ hd=>svg rfl (hd.v 17 rfl rfl) (zad rfl (S.at 0 rfl))) ?_
     refine sc (fun _ _ S hB hd=>slg rfl (hd.v 17 rfl rfl) (rc1 Tryz.func73 (hd.v 18 rfl rfl)) (zdu (T.keep S.below) ((rov5.keep hB)).any (by omega))) ?_
     refine sc (fun _ _ S _ hd=>svg rfl (hd.v 17 rfl rfl) (zad rfl (S.at 0 rfl))) ?_
     refine sc (fun _ _ _ hB hd=>slg rfl (hd.v 17 rfl rfl) (rc2 Tryz.func72 rfl (hd.v 20 rfl rfl)) (zc4 (hd.r 19 rfl rfl) (rov5.keep hB) rfl)) ?_
     refine sc (fun _ _ _ _ hd=>sv rfl (zau true rfl (hd.v 17 rfl rfl) (hd.v 21 rfl rfl))) ?_
     refine sc (fun _ _ _ _ hd=>sv rfl (zad rfl (hd.v 22 rfl rfl))) ?_
     refine sc (fun _ _ S _ hd=>slg rfl (hd.v 23 rfl rfl) (rcc Tryz.func73) (zdu (T.keep S.below) zfg (by omega))) ?_
     refine sc (fun _ _ _ _ hd=>svg rfl (hd.v 23 rfl rfl) (zdc (n:=0) (hd.r 24 rfl rfl) rfl rfl rfl)) ?_
     refine sc (fun _ _ _ _ hd=>svg rfl (hd.v 23 rfl rfl) (za9 (zbZ _ (by decide) rfl (hd.v 25 rfl rfl) rfl) (show(decide (((0:Nat):Int)=0))=true from(by decide)))) ?_
     refine sc (fun _ _ _ _ hd=>sv rfl (zau true rfl (hd.v 23 rfl rfl) (hd.v 26 rfl rfl))) ?_
     refine sc (fun _ _ _ _ hd=>sv rfl (zad rfl (hd.v 27 rfl rfl))) ?_
     refine sc (fun _ _ S _ hd=>slg rfl (hd.v 28 rfl rfl) (rc0 Tryz.func47) (zcU (T.keep S.below))) ?_
     refine sc (fun _ _ _ _ hd=>sv rfl (zau true rfl (hd.v 28 rfl rfl) (hd.v 29 rfl rfl))) ?_
     exact sn
    ·intro a3 V16 S hB hf
     replace rov5:=rov5.keep hB
     have S:=S.add (hf.v 30 rfl rfl)
     clear hf S0
     show wpList _ _ _ [_] _ _
     refine tv S (zan rfl (S.at 0 rfl)) fun a S=>?_
     refine hK12 _ _ ?_
     refine wp_ret ?_
     exact zaH rfl S (S.at 0 rfl) ⟨_,rfl,rfl,S.below⟩
  ·skip
   rcases ztk (decide (zaS q1 r1 q2 r2<0))with hs2|hs2
   ·skip
    refine zab ?_
    refine tv S (zad rfl (S.at 1 rfl)) fun a S=>?_
    refine tv S (za9 (zbY rfl (S.at 0 rfl) rfl) (show(decide (zaS q0 r0 q1 r1<0))=false from hs1)) fun a S=>?_
    refine tv S (zad rfl (S.at 0 rfl)) fun a S=>?_
    refine tk S (S.at 0 rfl) fun a S=>?_
    refine tk S (S.at 1 rfl) fun a S=>?_
    refine tk S (S.at 2 rfl) fun a S=>?_
    refine tk S (S.at 3 rfl) fun a S=>?_
    refine tv S (zau false rfl (S.at 4 rfl) rfl) fun a S=>?_
    refine tv S (zad rfl (S.at 0 rfl)) fun a S=>?_
    refine tk S (S.at 0 rfl) fun a S=>?_
    refine tk S (S.at 1 rfl) fun a S=>?_
    refine tk S (S.at 2 rfl) fun a S=>?_
    refine tk S (S.at 3 rfl) fun a S=>?_
    refine tv S (zau false rfl (S.at 4 rfl) rfl) fun a S=>?_
    refine hK8 _ _ ?_
    refine wp_cond_false (S.at 0 rfl) ?_
    refine wp_skip ?_
    refine hK7 _ _ ?_
    refine wp_seq_k fun K13 hK13=>?_
    have S:=S.keep [5,4,3] (ls':=[(5,pT g3 0),(4,pT g2 0),(3,pT g1 0)]) rfl
    refine zab ?_
    refine tv S (zac rfl (S.at 2 rfl) (S.bx 0 rfl) Tryz.underlying53 rfl (vs:=(lP b0_ x0_ y0_ d0_ z0_ w0_)) zaq rfl) fun a S=>?_
    refine tv S (zac rfl (S.at 2 rfl) (S.bx 1 rfl) Tryz.underlying53 rfl (vs:=(lP b1_ x1_ y1_ d1_ z1_ w1_)) zaq rfl) fun a S=>?_
    refine tv S (zac rfl (S.at 2 rfl) (S.bx 2 rfl) Tryz.underlying53 rfl (vs:=(lP b2_ x2_ y2_ d2_ z2_ w2_)) zaq rfl) fun a S=>?_
    refine ty S (F:=GP ([(b0_,x0_,y0_,d0_,z0_,w0_),(b1_,x1_,y1_,d1_,z1_,w1_),(b2_,x2_,y2_,d2_,z2_,w2_)])) (zdt rfl (S.at 2 rfl) (S.at 1 rfl) (S.at 0 rfl) (S.num 8 rfl) (S.num 9 rfl) (S.num 10 rfl) (S.num 11 rfl) (S.num 4 rfl) (S.num 5 rfl) (S.num 6 rfl) (S.num 7 rfl) (S.num 0 rfl) (S.num 1 rfl) (S.num 2 rfl) (S.num 3 rfl)) fun v a V17 hF hb S=>?_
    obtain⟨ov6,hov6⟩:∃z,z=v:=⟨_,rfl⟩
    rw[←hov6]at hF S
    have rov6:=hF
    refine tc S (F:=TRow 3 ([(q0,r0),(q1,r1),(q2,r2)])) (rc1 Tryz.func73 (S.at 0 rfl)) (zdu (T.keep S.below) (GP.row (qs:=[(q0,r0),(q1,r1),(q2,r2)]) rov6 hN4 (by simp) hNq) (by omega)) fun v a V18 hF hb S=>?_
    replace rov6:=rov6.keep hb
    obtain⟨ov7,hov7⟩:∃z,z=v:=⟨_,rfl⟩
    rw[←hov7]at hF S
    have rov7:=hF
    refine tv S (zan rfl (S.at 0 rfl)) fun a S=>?_
    refine hK13 _ _ ?_
    refine wp_seq_k fun K14 hK14=>?_
    have S:=S.keep [8,4,3] (ls':=[(8,ov7),(4,pT g2 0),(3,pT g1 0)]) rfl
    obtain⟨W4,hW4⟩:∃W,W=V18:=⟨_,rfl⟩
    rw[←hW4]at S ⊢
    have S0:=S
    rw[←hW4]at rov7
    refine fr 31 [79,80,81,82,83,84,85,86,87,88,89,90,91,92,93,94,95,96,97,98,99,100,101,102,103,104,105,106,107,108,109] [IsV (ov7),IsV (.int .i64 (((3:Nat):Int))),IsV (.bool true),IsV (.bool true),IsV (ov7),ElP 3 (q0) (r0),PT 3 (q0) (r0),IsV ((aP b0_ x0_ y0_ d0_ z0_ w0_)),IsV (.bool true),IsV (.bool true),IsV (.bool true),IsV (ov7),ElP 3 (q1) (r1),PT 3 (q1) (r1),IsV ((aP b1_ x1_ y1_ d1_ z1_ w1_)),IsV (.bool true),IsV (.bool true),IsV (.bool true),IsV (ov7),TRow 3 ([(q0,r0),(q1,r1),(q2,r2)]),IsV (ov7),IsV (.bool true),IsV (.bool true),IsV (.bool true),TRow 1 ([]),IsV (.int .i64 (((0:Nat):Int))),IsV (.bool true),IsV (.bool true),IsV (.bool true),IsV (.bool true),IsV (.bool true)] S ?_ ?_
    ·refine sc (fun _ _ S _ _=>sv rfl (zad rfl (S.at 0 rfl))) ?_
     refine sc (fun _ _ _ hB hd=>sv rfl (zdc (n:=3) (rov7.keep hB) rfl rfl (hd.v 0 rfl rfl))) ?_
     refine sc (fun _ _ _ _ hd=>sv rfl (za9 (zbZ _ (by decide) rfl (hd.v 1 rfl rfl) rfl) (show(decide (((3:Nat):Int)=3))=true from(by decide)))) ?_
     refine sc (fun _ _ _ _ hd=>sv rfl (zad rfl (hd.v 2 rfl rfl))) ?_
     refine sc (fun _ _ S _ hd=>svg rfl (hd.v 3 rfl rfl) (zad rfl (S.at 0 rfl))) ?_
     refine sc (fun _ _ _ hB hd=>by
      obtain⟨A,n,c,hv,hA,hk,hq⟩:=zjQ (rov7.keep hB) (i:=0) (by simp)
      exact svg rfl (hd.v 3 rfl rfl) (zb9 (i:=0) hA hk rfl ((hd.v 4 rfl rfl).trans hv)) hq) ?_
     refine sc (fun _ _ _ _ hd=>by
      obtain⟨A,m,b,x,y,b',x',y',hv,-,E,hq⟩:=(hd.r 5 rfl rfl)
      exact svg rfl (hd.v 3 rfl rfl) (zc2 E rfl hv) hq) ?_
     refine sc (fun _ _ S _ hd=>svg rfl (hd.v 3 rfl rfl) (zac rfl (S.at 2 rfl) (S.bx 0 rfl) Tryz.underlying53 rfl (vs:=(lP b0_ x0_ y0_ d0_ z0_ w0_)) zaq rfl)) ?_
     refine sc (fun _ _ S _ hd=>slg rfl (hd.v 3 rfl rfl) (rc2 Tryz.func70 rfl (hd.v 7 rfl rfl)) (zbN (zew (T.keep S.below) ((hd.r 6 rfl rfl)).any (show P1 3 (q0) (r0) ((aP b0_ x0_ y0_ d0_ z0_ w0_)) _ from⟨b0_,x0_,y0_,d0_,z0_,w0_,rfl,hqa0,hra0,⟨hkx0,hky0⟩,⟨hkz0,hkw0⟩,⟨(S.num 8 rfl),(S.num 9 rfl)⟩,(S.num 10 rfl),(S.num 11 rfl)⟩) (by omega) (by omega)) (fun _ _ h=>h.trans (congrArg Value.bool (show(decide (zaS q0 r0 q0 r0=0))=true from(zb8 (by grind) (by grind))))))) ?_
     refine sc (fun _ _ _ _ hd=>sv rfl (zau true rfl (hd.v 3 rfl rfl) (hd.v 8 rfl rfl))) ?_
     refine sc (fun _ _ _ _ hd=>sv rfl (zad rfl (hd.v 9 rfl rfl))) ?_
     refine sc (fun _ _ S _ hd=>svg rfl (hd.v 10 rfl rfl) (zad rfl (S.at 0 rfl))) ?_
     refine sc (fun _ _ _ hB hd=>by
      obtain⟨A,n,c,hv,hA,hk,hq⟩:=zjQ (rov7.keep hB) (i:=1) (by simp)
      exact svg rfl (hd.v 10 rfl rfl) (zb9 (i:=1) hA hk rfl ((hd.v 11 rfl rfl).trans hv)) hq) ?_
     refine sc (fun _ _ _ _ hd=>by
      obtain⟨A,m,b,x,y,b',x',y',hv,-,E,hq⟩:=(hd.r 12 rfl rfl)
      exact svg rfl (hd.v 10 rfl rfl) (zc2 E rfl hv) hq) ?_
     refine sc (fun _ _ S _ hd=>svg rfl (hd.v 10 rfl rfl) (zac rfl (S.at 1 rfl) (S.bx 1 rfl) Tryz.underlying53 rfl (vs:=(lP b1_ x1_ y1_ d1_ z1_ w1_)) zaq rfl)) ?_
     refine sc (fun _ _ S _ hd=>slg rfl (hd.v 10 rfl rfl) (rc2 Tryz.func70 rfl (hd.v 14 rfl rfl)) (zbN (zew (T.keep S.below) ((hd.r 13 rfl rfl)).any (show P1 3 (q1) (r1) ((aP b1_ x1_ y1_ d1_ z1_ w1_)) _ from⟨b1_,x1_,y1_,d1_,z1_,w1_,rfl,hqa1,hra1,⟨hkx1,hky1⟩,⟨hkz1,hkw1⟩,⟨(S.num 4 rfl),(S.num 5 rfl)⟩,(S.num 6 rfl),(S.num 7 rfl)⟩) (by omega) (by omega)) (fun _ _ h=>h.trans (congrArg Value.bool (show(decide (zaS q1 r1 q1 r1=0))=true from(zb8 (by grind) (by grind))))))) ?_
     refine sc (fun _ _ _ _ hd=>sv rfl (zau true rfl (hd.v 10 rfl rfl) (hd.v 15 rfl rfl))) ?_
     refine sc (fun _ _ _ _ hd=>sv rfl (zad rfl (hd.v 16 rfl rfl))) ?_
     refine sc (fun _ _ S _ hd=>svg rfl (hd.v 17 rfl rfl) (zad rfl (S.at 0 rfl))) ?_
     refine sc (fun _ _ S hB hd=>slg rfl (hd.v 17 rfl rfl) (rc1 Tryz.func73 (hd.v 18 rfl rfl)) (zdu (T.keep S.below) ((rov7.keep hB)).any (by omega))) ?_
     refine sc (fun _ _ S _ hd=>svg rfl (hd.v 17 rfl rfl) (zad rfl (S.at 0 rfl))) ?_
     refine sc (fun _ _ _ hB hd=>slg rfl (hd.v 17 rfl rfl) (rc2 Tryz.func72 rfl (hd.v 20 rfl rfl)) (zc4 (hd.r 19 rfl rfl) (rov7.keep hB) rfl)) ?_
     refine sc (fun _ _ _ _ hd=>sv rfl (zau true rfl (hd.v 17 rfl rfl) (hd.v 21 rfl rfl))) ?_
     refine sc (fun _ _ _ _ hd=>sv rfl (zad rfl (hd.v 22 rfl rfl))) ?_
     refine sc (fun _ _ S _ hd=>slg rfl (hd.v 23 rfl rfl) (rcc Tryz.func73) (zdu (T.keep S.below) zfg (by omega))) ?_
     refine sc (fun _ _ _ _ hd=>svg rfl (hd.v 23 rfl rfl) (zdc (n:=0) (hd.r 24 rfl rfl) rfl rfl rfl)) ?_
     refine sc (fun _ _ _ _ hd=>svg rfl (hd.v 23 rfl rfl) (za9 (zbZ _ (by decide) rfl (hd.v 25 rfl rfl) rfl) (show(decide (((0:Nat):Int)=0))=true from(by decide)))) ?_
     refine sc (fun _ _ _ _ hd=>sv rfl (zau true rfl (hd.v 23 rfl rfl) (hd.v 26 rfl rfl))) ?_
     refine sc (fun _ _ _ _ hd=>sv rfl (zad rfl (hd.v 27 rfl rfl))) ?_
     refine sc (fun _ _ S _ hd=>slg rfl (hd.v 28 rfl rfl) (rc0 Tryz.func47) (zcU (T.keep S.below))) ?_
     refine sc (fun _ _ _ _ hd=>sv rfl (zau true rfl (hd.v 28 rfl rfl) (hd.v 29 rfl rfl))) ?_
     exact sn
    ·intro a4 V19 S hB hf
     replace rov7:=rov7.keep hB
     have S:=S.add (hf.v 30 rfl rfl)
     clear hf S0
     show wpList _ _ _ [_] _ _
     refine tv S (zan rfl (S.at 0 rfl)) fun a S=>?_
     refine hK14 _ _ ?_
     refine wp_ret ?_
     exact zaH rfl S (S.at 0 rfl) ⟨_,rfl,rfl,S.below⟩
   ·skip
    refine zab ?_
    refine tv S (zad rfl (S.at 1 rfl)) fun a S=>?_
    refine tv S (za9 (zbY rfl (S.at 0 rfl) rfl) (show(decide (zaS q0 r0 q1 r1<0))=false from hs1)) fun a S=>?_
    refine tv S (zad rfl (S.at 0 rfl)) fun a S=>?_
    refine tk S (S.at 0 rfl) fun a S=>?_
    refine tk S (S.at 1 rfl) fun a S=>?_
    refine tk S (S.at 2 rfl) fun a S=>?_
    refine tk S (S.at 3 rfl) fun a S=>?_
    refine tv S (zau false rfl (S.at 4 rfl) rfl) fun a S=>?_
    refine tv S (zad rfl (S.at 0 rfl)) fun a S=>?_
    refine tk S (S.at 0 rfl) fun a S=>?_
    refine tk S (S.at 1 rfl) fun a S=>?_
    refine tk S (S.at 2 rfl) fun a S=>?_
    refine tk S (S.at 3 rfl) fun a S=>?_
    refine tv S (zau false rfl (S.at 4 rfl) rfl) fun a S=>?_
    refine hK8 _ _ ?_
    refine wp_cond_false (S.at 0 rfl) ?_
    refine wp_skip ?_
    refine hK7 _ _ ?_
    refine wp_seq_k fun K15 hK15=>?_
    have S:=S.keep [5,4,3] (ls':=[(5,pT g3 0),(4,pT g2 0),(3,pT g1 0)]) rfl
    refine zab ?_
    refine tv S (zac rfl (S.at 2 rfl) (S.bx 0 rfl) Tryz.underlying53 rfl (vs:=(lP b0_ x0_ y0_ d0_ z0_ w0_)) zaq rfl) fun a S=>?_
    refine tv S (zac rfl (S.at 2 rfl) (S.bx 1 rfl) Tryz.underlying53 rfl (vs:=(lP b1_ x1_ y1_ d1_ z1_ w1_)) zaq rfl) fun a S=>?_
    refine tv S (zac rfl (S.at 2 rfl) (S.bx 2 rfl) Tryz.underlying53 rfl (vs:=(lP b2_ x2_ y2_ d2_ z2_ w2_)) zaq rfl) fun a S=>?_
    refine ty S (F:=GP ([(b0_,x0_,y0_,d0_,z0_,w0_),(b1_,x1_,y1_,d1_,z1_,w1_),(b2_,x2_,y2_,d2_,z2_,w2_)])) (zdt rfl (S.at 2 rfl) (S.at 1 rfl) (S.at 0 rfl) (S.num 8 rfl) (S.num 9 rfl) (S.num 10 rfl) (S.num 11 rfl) (S.num 4 rfl) (S.num 5 rfl) (S.num 6 rfl) (S.num 7 rfl) (S.num 0 rfl) (S.num 1 rfl) (S.num 2 rfl) (S.num 3 rfl)) fun v a V20 hF hb S=>?_
    obtain⟨ov8,hov8⟩:∃z,z=v:=⟨_,rfl⟩
    rw[←hov8]at hF S
    have rov8:=hF
    refine tc S (F:=TRow 3 ([(q0,r0),(q1,r1),(q2,r2)])) (rc1 Tryz.func73 (S.at 0 rfl)) (zdu (T.keep S.below) (GP.row (qs:=[(q0,r0),(q1,r1),(q2,r2)]) rov8 hN4 (by simp) hNq) (by omega)) fun v a V21 hF hb S=>?_
    replace rov8:=rov8.keep hb
    obtain⟨ov9,hov9⟩:∃z,z=v:=⟨_,rfl⟩
    rw[←hov9]at hF S
    have rov9:=hF
    refine tv S (zan rfl (S.at 0 rfl)) fun a S=>?_
    refine hK15 _ _ ?_
    refine wp_seq_k fun K16 hK16=>?_
    have S:=S.keep [8,4,3] (ls':=[(8,ov9),(4,pT g2 0),(3,pT g1 0)]) rfl
    obtain⟨W5,hW5⟩:∃W,W=V21:=⟨_,rfl⟩
    rw[←hW5]at S ⊢
    have S0:=S
    rw[←hW5]at rov9
    refine fr 31 [79,80,81,82,83,84,85,86,87,88,89,90,91,92,93,94,95,96,97,98,99,100,101,102,103,104,105,106,107,108,109] [IsV (ov9),IsV (.int .i64 (((3:Nat):Int))),IsV (.bool true),IsV (.bool true),IsV (ov9),ElP 3 (q0) (r0),PT 3 (q0) (r0),IsV ((aP b0_ x0_ y0_ d0_ z0_ w0_)),IsV (.bool true),IsV (.bool true),IsV (.bool true),IsV (ov9),ElP 3 (q1) (r1),PT 3 (q1) (r1),IsV ((aP b1_ x1_ y1_ d1_ z1_ w1_)),IsV (.bool true),IsV (.bool true),IsV (.bool true),IsV (ov9),TRow 3 ([(q0,r0),(q1,r1),(q2,r2)]),IsV (ov9),IsV (.bool true),IsV (.bool true),IsV (.bool true),TRow 1 ([]),IsV (.int .i64 (((0:Nat):Int))),IsV (.bool true),IsV (.bool true),IsV (.bool true),IsV (.bool true),IsV (.bool true)] S ?_ ?_
    ·refine sc (fun _ _ S _ _=>sv rfl (zad rfl (S.at 0 rfl))) ?_
     refine sc (fun _ _ _ hB hd=>sv rfl (zdc (n:=3) (rov9.keep hB) rfl rfl (hd.v 0 rfl rfl))) ?_
     refine sc (fun _ _ _ _ hd=>sv rfl (za9 (zbZ _ (by decide) rfl (hd.v 1 rfl rfl) rfl) (show(decide (((3:Nat):Int)=3))=true from(by decide)))) ?_
     refine sc (fun _ _ _ _ hd=>sv rfl (zad rfl (hd.v 2 rfl rfl))) ?_
     refine sc (fun _ _ S _ hd=>svg rfl (hd.v 3 rfl rfl) (zad rfl (S.at 0 rfl))) ?_
     refine sc (fun _ _ _ hB hd=>by
      obtain⟨A,n,c,hv,hA,hk,hq⟩:=zjQ (rov9.keep hB) (i:=0) (by simp)
      exact svg rfl (hd.v 3 rfl rfl) (zb9 (i:=0) hA hk rfl ((hd.v 4 rfl rfl).trans hv)) hq) ?_
     refine sc (fun _ _ _ _ hd=>by
      obtain⟨A,m,b,x,y,b',x',y',hv,-,E,hq⟩:=(hd.r 5 rfl rfl)
      exact svg rfl (hd.v 3 rfl rfl) (zc2 E rfl hv) hq) ?_
     refine sc (fun _ _ S _ hd=>svg rfl (hd.v 3 rfl rfl) (zac rfl (S.at 2 rfl) (S.bx 0 rfl) Tryz.underlying53 rfl (vs:=(lP b0_ x0_ y0_ d0_ z0_ w0_)) zaq rfl)) ?_
     refine sc (fun _ _ S _ hd=>slg rfl (hd.v 3 rfl rfl) (rc2 Tryz.func70 rfl (hd.v 7 rfl rfl)) (zbN (zew (T.keep S.below) ((hd.r 6 rfl rfl)).any (show P1 3 (q0) (r0) ((aP b0_ x0_ y0_ d0_ z0_ w0_)) _ from⟨b0_,x0_,y0_,d0_,z0_,w0_,rfl,hqa0,hra0,⟨hkx0,hky0⟩,⟨hkz0,hkw0⟩,⟨(S.num 8 rfl),(S.num 9 rfl)⟩,(S.num 10 rfl),(S.num 11 rfl)⟩) (by omega) (by omega)) (fun _ _ h=>h.trans (congrArg Value.bool (show(decide (zaS q0 r0 q0 r0=0))=true from(zb8 (by grind) (by grind))))))) ?_
     refine sc (fun _ _ _ _ hd=>sv rfl (zau true rfl (hd.v 3 rfl rfl) (hd.v 8 rfl rfl))) ?_
     refine sc (fun _ _ _ _ hd=>sv rfl (zad rfl (hd.v 9 rfl rfl))) ?_
     refine sc (fun _ _ S _ hd=>svg rfl (hd.v 10 rfl rfl) (zad rfl (S.at 0 rfl))) ?_
     refine sc (fun _ _ _ hB hd=>by
      obtain⟨A,n,c,hv,hA,hk,hq⟩:=zjQ (rov9.keep hB) (i:=1) (by simp)
      exact svg rfl (hd.v 10 rfl rfl) (zb9 (i:=1) hA hk rfl ((hd.v 11 rfl rfl).trans hv)) hq) ?_
     refine sc (fun _ _ _ _ hd=>by
      obtain⟨A,m,b,x,y,b',x',y',hv,-,E,hq⟩:=(hd.r 12 rfl rfl)
      exact svg rfl (hd.v 10 rfl rfl) (zc2 E rfl hv) hq) ?_
     refine sc (fun _ _ S _ hd=>svg rfl (hd.v 10 rfl rfl) (zac rfl (S.at 1 rfl) (S.bx 1 rfl) Tryz.underlying53 rfl (vs:=(lP b1_ x1_ y1_ d1_ z1_ w1_)) zaq rfl)) ?_
     refine sc (fun _ _ S _ hd=>slg rfl (hd.v 10 rfl rfl) (rc2 Tryz.func70 rfl (hd.v 14 rfl rfl)) (zbN (zew (T.keep S.below) ((hd.r 13 rfl rfl)).any (show P1 3 (q1) (r1) ((aP b1_ x1_ y1_ d1_ z1_ w1_)) _ from⟨b1_,x1_,y1_,d1_,z1_,w1_,rfl,hqa1,hra1,⟨hkx1,hky1⟩,⟨hkz1,hkw1⟩,⟨(S.num 4 rfl),(S.num 5 rfl)⟩,(S.num 6 rfl),(S.num 7 rfl)⟩) (by omega) (by omega)) (fun _ _ h=>h.trans (congrArg Value.bool (show(decide (zaS q1 r1 q1 r1=0))=true from(zb8 (by grind) (by grind))))))) ?_
     refine sc (fun _ _ _ _ hd=>sv rfl (zau true rfl (hd.v 10 rfl rfl) (hd.v 15 rfl rfl))) ?_
     refine sc (fun _ _ _ _ hd=>sv rfl (zad rfl (hd.v 16 rfl rfl))) ?_
     refine sc (fun _ _ S _ hd=>svg rfl (hd.v 17 rfl rfl) (zad rfl (S.at 0 rfl))) ?_
     refine sc (fun _ _ S hB hd=>slg rfl (hd.v 17 rfl rfl) (rc1 Tryz.func73 (hd.v 18 rfl rfl)) (zdu (T.keep S.below) ((rov9.keep hB)).any (by omega))) ?_
     refine sc (fun _ _ S _ hd=>svg rfl (hd.v 17 rfl rfl) (zad rfl (S.at 0 rfl))) ?_
     refine sc (fun _ _ _ hB hd=>slg rfl (hd.v 17 rfl rfl) (rc2 Tryz.func72 rfl (hd.v 20 rfl rfl)) (zc4 (hd.r 19 rfl rfl) (rov9.keep hB) rfl)) ?_
     refine sc (fun _ _ _ _ hd=>sv rfl (zau true rfl (hd.v 17 rfl rfl) (hd.v 21 rfl rfl))) ?_
     refine sc (fun _ _ _ _ hd=>sv rfl (zad rfl (hd.v 22 rfl rfl))) ?_
     refine sc (fun _ _ S _ hd=>slg rfl (hd.v 23 rfl rfl) (rcc Tryz.func73) (zdu (T.keep S.below) zfg (by omega))) ?_
     refine sc (fun _ _ _ _ hd=>svg rfl (hd.v 23 rfl rfl) (zdc (n:=0) (hd.r 24 rfl rfl) rfl rfl rfl)) ?_
     refine sc (fun _ _ _ _ hd=>svg rfl (hd.v 23 rfl rfl) (za9 (zbZ _ (by decide) rfl (hd.v 25 rfl rfl) rfl) (show(decide (((0:Nat):Int)=0))=true from(by decide)))) ?_
     refine sc (fun _ _ _ _ hd=>sv rfl (zau true rfl (hd.v 23 rfl rfl) (hd.v 26 rfl rfl))) ?_
     refine sc (fun _ _ _ _ hd=>sv rfl (zad rfl (hd.v 27 rfl rfl))) ?_
     refine sc (fun _ _ S _ hd=>slg rfl (hd.v 28 rfl rfl) (rc0 Tryz.func47) (zcU (T.keep S.below))) ?_
     refine sc (fun _ _ _ _ hd=>sv rfl (zau true rfl (hd.v 28 rfl rfl) (hd.v 29 rfl rfl))) ?_
     exact sn
    ·intro a5 V22 S hB hf
     replace rov9:=rov9.keep hB
     have S:=S.add (hf.v 30 rfl rfl)
     clear hf S0
     show wpList _ _ _ [_] _ _
     refine tv S (zan rfl (S.at 0 rfl)) fun a S=>?_
     refine hK16 _ _ ?_
     refine wp_ret ?_
     exact zaH rfl S (S.at 0 rfl) ⟨_,rfl,rfl,S.below⟩
theorem zjL (b0_:Bool)(x0_ y0_:Num)(d0_:Bool)(z0_ w0_:Num)(b1_:Bool)(x1_ y1_:Num)(d1_:Bool)(z1_ w1_:Num)(b2_:Bool)(x2_ y2_:Num)(d2_:Bool)(z2_ w2_:Num){V:World}(T:TT V)(ox0:x0_.ok V V.heap.size)(oy0:y0_.ok V V.heap.size)(oz0:z0_.ok V V.heap.size)(ow0:w0_.ok V V.heap.size)(ox1:x1_.ok V V.heap.size)(oy1:y1_.ok V V.heap.size)(oz1:z1_.ok V V.heap.size)(ow1:w1_.ok V V.heap.size)(ox2:x2_.ok V V.heap.size)(oy2:y2_.ok V V.heap.size)(oz2:z2_.ok V V.heap.size)(ow2:w2_.ok V V.heap.size)(hL:ze8 [(b0_,x0_,y0_,d0_,z0_,w0_),(b1_,x1_,y1_,d1_,z1_,w1_),(b2_,x2_,y2_,d2_,z2_,w2_)]=true):
  Calls Tryz.prog 8 #[(aP b0_ x0_ y0_ d0_ z0_ w0_),(aP b1_ x1_ y1_ d1_ z1_ w1_),(aP b2_ x2_ y2_ d2_ z2_ w2_)] V (zai V (fun v _=>v= .bool true)):=by
 obtain⟨q0,hqa0⟩:∃q,qOf b0_ x0_.N y0_.N=q:=⟨_,rfl⟩
 obtain⟨r0,hra0⟩:∃q,qOf d0_ z0_.N w0_.N=q:=⟨_,rfl⟩
 obtain⟨q1,hqa1⟩:∃q,qOf b1_ x1_.N y1_.N=q:=⟨_,rfl⟩
 obtain⟨r1,hra1⟩:∃q,qOf d1_ z1_.N w1_.N=q:=⟨_,rfl⟩
 obtain⟨q2,hqa2⟩:∃q,qOf b2_ x2_.N y2_.N=q:=⟨_,rfl⟩
 obtain⟨r2,hra2⟩:∃q,qOf d2_ z2_.N w2_.N=q:=⟨_,rfl⟩
 refine zao (e:=[x2_,y2_,z2_,w2_,x1_,y1_,z1_,w1_,x0_,y0_,z0_,w0_]) Tryz.func8 rfl Tryz.ntmps8 (zta rfl) [(0,(aP b0_ x0_ y0_ d0_ z0_ w0_)),(1,(aP b1_ x1_ y1_ d1_ z1_ w1_)),(2,(aP b2_ x2_ y2_ d2_ z2_ w2_))] rfl (zaa ox2 (zaa oy2 (zaa oz2 (zaa ow2 (zaa ox1 (zaa oy1 (zaa oz1 (zaa ow1 (zaa ox0 (zaa oy0 (zaa oz0 (zaa ow0 zaz)))))))))))) (fun a S=>?_)
 refine wp_seq_k fun K1 hK1=>?_
 refine zab ?_
 refine ti S (cs:=(lP b0_ x0_ y0_ d0_ z0_ w0_)) (zar rfl (S.at 0 rfl) rfl) (fun g1=>[⟨g1,53,(lP b0_ x0_ y0_ d0_ z0_ w0_)⟩]) fun g1 a V1 hgg1 S=>?_
 refine ti S (cs:=(lP b1_ x1_ y1_ d1_ z1_ w1_)) (zar rfl (S.at 2 rfl) rfl) (fun g2=>[⟨g1,53,(lP b0_ x0_ y0_ d0_ z0_ w0_)⟩,⟨g2,53,(lP b1_ x1_ y1_ d1_ z1_ w1_)⟩]) fun g2 a V2 hgg2 S=>?_
 refine ti S (cs:=(lP b2_ x2_ y2_ d2_ z2_ w2_)) (zar rfl (S.at 4 rfl) rfl) (fun g3=>[⟨g1,53,(lP b0_ x0_ y0_ d0_ z0_ w0_)⟩,⟨g2,53,(lP b1_ x1_ y1_ d1_ z1_ w1_)⟩,⟨g3,53,(lP b2_ x2_ y2_ d2_ z2_ w2_)⟩]) fun g3 a V3 hgg3 S=>?_
 refine tv S (zav rfl) fun a S=>?_
 refine hK1 _ _ ?_
 refine wp_seq_k fun K2 hK2=>?_
 refine wp_seq_k fun K3 hK3=>?_
 refine zab ?_
 refine tv S (zac rfl (S.at 3 rfl) (S.bx 0 rfl) Tryz.underlying53 rfl (vs:=(lP b0_ x0_ y0_ d0_ z0_ w0_)) zaq rfl) fun a S=>?_
 refine tv S (zac rfl (S.at 3 rfl) (S.bx 1 rfl) Tryz.underlying53 rfl (vs:=(lP b1_ x1_ y1_ d1_ z1_ w1_)) zaq rfl) fun a S=>?_
 refine tv S (zac rfl (S.at 3 rfl) (S.bx 2 rfl) Tryz.underlying53 rfl (vs:=(lP b2_ x2_ y2_ d2_ z2_ w2_)) zaq rfl) fun a S=>?_
 refine ty S (F:=GP ([(b0_,x0_,y0_,d0_,z0_,w0_),(b1_,x1_,y1_,d1_,z1_,w1_),(b2_,x2_,y2_,d2_,z2_,w2_)])) (zdt rfl (S.at 2 rfl) (S.at 1 rfl) (S.at 0 rfl) (S.num 8 rfl) (S.num 9 rfl) (S.num 10 rfl) (S.num 11 rfl) (S.num 4 rfl) (S.num 5 rfl) (S.num 6 rfl) (S.num 7 rfl) (S.num 0 rfl) (S.num 1 rfl) (S.num 2 rfl) (S.num 3 rfl)) fun v a V4 hF hb S=>?_
 obtain⟨ov1,hov1⟩:∃z,z=v:=⟨_,rfl⟩
 rw[←hov1]at hF S
 have rov1:=hF
 refine tc S (F:=(fun v _=>v= .bool true)) (rc1 Tryz.func75 (S.at 0 rfl)) (zlC rov1 hL) fun v a V5 hF hb S=>?_
 replace rov1:=rov1.keep hb
 subst hF
 refine hK3 _ _ ?_
 refine wp_cond_true (S.at 0 rfl) ?_
 refine wp_seq_k fun K4 hK4=>?_
 have S:=S.keep [6] (ls':=[(6,.bool false)]) rfl
 refine zab ?_
 refine tc S (F:=(fun v _=>v= .bool true)) (rc0 Tryz.func47) (zcU (T.keep S.below)) fun v a V6 hF hb S=>?_
 subst hF
 refine za5 S (v:= .bool true) (zan rfl (S.at 0 rfl)) rfl rfl (by decide) (ls':=[(14,.bool true)]) rfl (fun a S=>?_)
 refine hK4 _ _ ?_
 refine wp_ret ?_
 exact zaH rfl S (S.at 0 rfl) ⟨_,rfl,rfl,S.below⟩
end Go.Proofs.YtafokgknenienaaGreatDoor
