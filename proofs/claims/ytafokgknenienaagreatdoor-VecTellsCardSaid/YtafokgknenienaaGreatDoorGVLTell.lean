/- A part. -/
import Derived.Test.YtafokgknenienaaGreatDoorGVVecDN
set_option maxHeartbeats 4000000
set_option maxRecDepth 100000
namespace Go.Proofs.YtafokgknenienaaGreatDoor
open Go Go.RowKit
theorem zlv {b:Bool}{x y:Num}{V:World}(ox:x.ok V V.heap.size)(oy:y.ok V V.heap.size):
  Calls Tryz.prog 46 #[(aG b x y)] V (zai V (fun v _=>v= .bool (decide ((6:Int)<((max x.n y.n:Nat):Int))))):=by
 refine zao (e:=[x,y]) Tryz.func46 rfl Tryz.ntmps46 (zta rfl) [(0,(aG b x y))] rfl (zaa ox (zaa oy zaz)) (fun a S=>?_)
 refine wp_seq_k fun K1 hK1=>?_
 refine zab ?_
 refine ti S (cs:=(aL b x y)) (zar rfl (S.at 0 rfl) rfl) (fun g1=>[⟨g1,27,(aL b x y)⟩]) fun g1 a V1 hgg1 S=>?_
 refine tv S (zav rfl) fun a S=>?_
 refine hK1 _ _ ?_
 refine wp_seq_k fun K2 hK2=>?_
 refine zab ?_
 refine tv S (zae rfl (S.at 1 rfl) (zbr _)) fun a S=>?_
 refine tv S (zae rfl (S.at 0 rfl) (zck _)) fun a S=>?_
 refine tv S (zay rfl (S.at 0 rfl) (S.bx 0 rfl) (Tryz.isAgg23 _) rfl) fun a S=>?_
 refine tv S (zbU (by decide) rfl (S.at 0 rfl)) fun a S=>?_
 refine tv S (zae rfl (S.at 5 rfl) (zbg _)) fun a S=>?_
 refine tv S (zay rfl (S.at 0 rfl) (S.bx 0 rfl) (Tryz.isAgg23 _) rfl) fun a S=>?_
 refine tv S (zbU (by decide) rfl (S.at 0 rfl)) fun a S=>?_
 refine tv S (zqn rfl (S.at 3 rfl) (S.at 0 rfl)) fun a S=>?_
 refine tv S (zc1 rfl (S.at 0 rfl) rfl) fun a S=>?_
 refine za5 S (v:= .bool (decide (6<((max x.n y.n:Nat):Int)))) (zan rfl (S.at 0 rfl)) rfl rfl (by decide) (ls':=[(11,.bool (decide (6<((max x.n y.n:Nat):Int)))),(10,.int .i64 (((max x.n y.n:Nat):Int))),(9,.int .i64 (((y.n:Nat):Int))),(8,aS y),(7,pT g1 2),(6,.int .i64 (((x.n:Nat):Int))),(5,aS x),(4,pT g1 1),(3,pT g1 0),(1,pT g1 0),(0,(aG b x y))]) rfl (fun a S=>?_)
 refine hK2 _ _ ?_
 refine wp_ret ?_
 exact zaH rfl S (S.at 0 rfl) ⟨_,rfl,rfl,S.below⟩
theorem zo5 {p0 p1:PEl}(h:zbG [p0,p1]=false):zep 6 p0=false∧zep 6 p1=false:=by simpa[zbG]using h
theorem zkS {l:List PEl}(h:zbG l=false):(∀p∈l,zfC 6 p)∧l.length≤60:=by
 unfold zbG at h
 rw[Bool.or_eq_false_iff]at h
 have h2:l.length≤60:=by have:=of_decide_eq_false h.2;omega
 rw[List.take_of_length_le (by omega)]at h
 refine⟨fun p hp=>?_,h2⟩
 have h3:zep 6 p=false:=by
  have:=List.any_eq_false.1 h.1 p hp
  simpa using this
 obtain⟨a,b,c,d⟩:=zem h3
 exact⟨⟨a,b⟩,c,d⟩
theorem ziz {A:Option Addr}{c:Nat}{l:List PEl}{V0 V:World}(hR:PRds V0 V0.heap.size A l)(hll:l.length≤100000000000000)(hlc:l.length≤c)(hcm:c≤maxLen)(hb:Below V0.heap.size V0 V):GP l (.slice A l.length c) V:=⟨A,c,rfl,(hR.below hb).more hb.size,hll,hlc,hcm⟩
theorem zm5 (b0_:Bool)(x0_ y0_:Num)(d0_:Bool)(z0_ w0_:Num)(b1_:Bool)(x1_ y1_:Num)(d1_:Bool)(z1_ w1_:Num)(b2_:Bool)(x2_ y2_:Num)(A:Option Addr)(c:Nat)(l:List PEl)(n m:Int){V:World}(T:TT V)(ox0:x0_.ok V V.heap.size)(oy0:y0_.ok V V.heap.size)(oz0:z0_.ok V V.heap.size)(ow0:w0_.ok V V.heap.size)(ox1:x1_.ok V V.heap.size)(oy1:y1_.ok V V.heap.size)(oz1:z1_.ok V V.heap.size)(ow1:w1_.ok V V.heap.size)(ox2:x2_.ok V V.heap.size)(oy2:y2_.ok V V.heap.size)(hR:PRds V V.heap.size A l)(hll:l.length≤100000000000000)(hlc:l.length≤c)(hcm:c≤maxLen)(hn: -9223372036854775808≤n∧n≤9223372036854775807)(hm: -9223372036854775808≤m∧m≤9223372036854775807)(hG1:zbG [(b0_,x0_,y0_,d0_,z0_,w0_),(b1_,x1_,y1_,d1_,z1_,w1_)]=false)(hG2:zbG l=false)(hG3:decide ((6:Int)<((max x2_.n y2_.n:Nat):Int))=false):
  Calls Tryz.prog 5 #[(aP b0_ x0_ y0_ d0_ z0_ w0_),(aP b1_ x1_ y1_ d1_ z1_ w1_),(aG b2_ x2_ y2_),.slice A l.length c,.int .i64 n,.int .i64 m] V (zai V (fun v _=>v= .bool true)):=by
 obtain⟨hL0,hL1⟩:=zo5 hG1
 obtain⟨hkx0,hky0,hkz0,hkw0⟩:=zem hL0
 obtain⟨hkx1,hky1,hkz1,hkw1⟩:=zem hL1
 have hkx2:x2_.n≤6:=by have:=of_decide_eq_false hG3;omega
 have hky2:y2_.n≤6:=by have:=of_decide_eq_false hG3;omega
 obtain⟨hrow6,hl60⟩:=zkS hG2
 have hPR:PRow 6 (l.map pv) (.slice A l.length c) V:=⟨A,c,l,rfl,hR,rfl,hrow6,by omega,hlc,hcm⟩
 obtain⟨q0,hqa0⟩:∃q,qOf b0_ x0_.N y0_.N=q:=⟨_,rfl⟩
 obtain⟨r0,hra0⟩:∃q,qOf d0_ z0_.N w0_.N=q:=⟨_,rfl⟩
 obtain⟨q1,hqa1⟩:∃q,qOf b1_ x1_.N y1_.N=q:=⟨_,rfl⟩
 obtain⟨r1,hra1⟩:∃q,qOf d1_ z1_.N w1_.N=q:=⟨_,rfl⟩
 obtain⟨q2,hqa2⟩:∃q,qOf b2_ x2_.N y2_.N=q:=⟨_,rfl⟩
 refine zao (e:=[x2_,y2_,x1_,y1_,z1_,w1_,x0_,y0_,z0_,w0_]) Tryz.func5 rfl Tryz.ntmps5 (zta rfl) [(0,(aP b0_ x0_ y0_ d0_ z0_ w0_)),(1,(aP b1_ x1_ y1_ d1_ z1_ w1_)),(2,(aG b2_ x2_ y2_)),(3,.slice A l.length c),(4,.int .i64 n),(5,.int .i64 m)] rfl (zaa ox2 (zaa oy2 (zaa ox1 (zaa oy1 (zaa oz1 (zaa ow1 (zaa ox0 (zaa oy0 (zaa oz0 (zaa ow0 zaz)))))))))) (fun a S=>?_)
 refine wp_seq_k fun K1 hK1=>?_
 refine zab ?_
 refine ti S (cs:=(lP b0_ x0_ y0_ d0_ z0_ w0_)) (zar rfl (S.at 0 rfl) rfl) (fun g1=>[⟨g1,53,(lP b0_ x0_ y0_ d0_ z0_ w0_)⟩]) fun g1 a V1 hgg1 S=>?_
 refine ti S (cs:=(lP b1_ x1_ y1_ d1_ z1_ w1_)) (zar rfl (S.at 2 rfl) rfl) (fun g2=>[⟨g1,53,(lP b0_ x0_ y0_ d0_ z0_ w0_)⟩,⟨g2,53,(lP b1_ x1_ y1_ d1_ z1_ w1_)⟩]) fun g2 a V2 hgg2 S=>?_
 refine ti S (cs:=(aL b2_ x2_ y2_)) (zar rfl (S.at 4 rfl) rfl) (fun g3=>[⟨g1,53,(lP b0_ x0_ y0_ d0_ z0_ w0_)⟩,⟨g2,53,(lP b1_ x1_ y1_ d1_ z1_ w1_)⟩,⟨g3,27,(aL b2_ x2_ y2_)⟩]) fun g3 a V3 hgg3 S=>?_
 refine tv S (zav rfl) fun a S=>?_
 refine hK1 _ _ ?_
 refine wp_seq_k fun K2 hK2=>?_
 refine wp_seq_k fun K3 hK3=>?_
 refine zab ?_
 refine tv S (zac rfl (S.at 3 rfl) (S.bx 0 rfl) Tryz.underlying53 rfl (vs:=(lP b0_ x0_ y0_ d0_ z0_ w0_)) zaq rfl) fun a S=>?_
 refine tv S (zac rfl (S.at 3 rfl) (S.bx 1 rfl) Tryz.underlying53 rfl (vs:=(lP b1_ x1_ y1_ d1_ z1_ w1_)) zaq rfl) fun a S=>?_
 refine ty S (F:=GP ([(b0_,x0_,y0_,d0_,z0_,w0_),(b1_,x1_,y1_,d1_,z1_,w1_)])) (zff rfl (S.at 1 rfl) (S.at 0 rfl) (S.num 6 rfl) (S.num 7 rfl) (S.num 8 rfl) (S.num 9 rfl) (S.num 2 rfl) (S.num 3 rfl) (S.num 4 rfl) (S.num 5 rfl)) fun v a V4 hF hb S=>?_
 obtain⟨ov1,hov1⟩:∃z,z=v:=⟨_,rfl⟩
 rw[←hov1]at hF S
 have rov1:=hF
 refine tc S (F:=(fun v _=>v= .bool false)) (rc1 Tryz.func45 (S.at 0 rfl)) (zc3 rov1 hG1) fun v a V5 hF hb S=>?_
 replace rov1:=rov1.keep hb
 subst hF
 refine tv S (zad rfl (S.at 0 rfl)) fun a S=>?_
 refine tvg S (S.at 0 rfl) (zad rfl (S.at 12 rfl)) fun a S=>?_
 refine tcg S (S.at 1 rfl) (F:=(fun v _=>v= .bool false)) (rc1 Tryz.func45 (S.at 0 rfl)) (zc3 (ziz hR hll hlc hcm S.below) hG2) fun v a V6 hF hb S=>?_
 replace rov1:=rov1.keep hb
 subst hF
 refine tv S (zau false rfl (S.at 2 rfl) (S.at 0 rfl)) fun a S=>?_
 refine tv S (zad rfl (S.at 0 rfl)) fun a S=>?_
 refine tvg S (S.at 0 rfl) (zac rfl (S.at 10 rfl) (S.bx 2 rfl) Tryz.underlying27 rfl (vs:=(aL b2_ x2_ y2_)) zag rfl) fun a S=>?_
 refine tcg S (S.at 1 rfl) (F:=(fun v _=>v= .bool false)) (rc1 Tryz.func46 (S.at 0 rfl)) (zbN (zlv (b:=b2_) (x:=x2_) (y:=y2_) (S.num 0 rfl) (S.num 1 rfl)) (fun _ _ h=>h.trans (congrArg Value.bool (show(decide ((6:Int)<((max x2_.n y2_.n:Nat):Int)))=false from hG3)))) fun v a V7 hF hb S=>?_
 replace rov1:=rov1.keep hb
 subst hF
 refine tv S (zau false rfl (S.at 2 rfl) (S.at 0 rfl)) fun a S=>?_
 refine hK3 _ _ ?_
 refine wp_cond_false (S.at 0 rfl) ?_
 refine wp_skip ?_
 refine hK2 _ _ ?_
 refine wp_seq_k fun K4 hK4=>?_
 refine wp_seq_k fun K5 hK5=>?_
 have S:=S.keep [8,7,6,3,4,5] (ls':=[(8,pT g3 0),(7,pT g2 0),(6,pT g1 0),(3,.slice A l.length c),(4,.int .i64 n),(5,.int .i64 m)]) rfl
 obtain⟨W1,hW1⟩:∃W,W=V7:=⟨_,rfl⟩
 rw[←hW1]at S ⊢
 have S0:=S
 refine fr 58 [26,27,28,29,30,31,32,33,34,35,36,37,38,39,40,41,42,43,44,45,46,47,48,49,50,51,52,53,54,55,56,57,58,59,60,61,62,63,64,65,66,67,68,69,70,71,72,73,74,75,76,77,78,79,80,81,82,83] [IsV ((aP b0_ x0_ y0_ d0_ z0_ w0_)),IsV ((aP b1_ x1_ y1_ d1_ z1_ w1_)),PT 13 (q0+q1) (r0+r1),IsV ((aP b0_ x0_ y0_ d0_ z0_ w0_)),IsV ((aP b1_ x1_ y1_ d1_ z1_ w1_)),PT 53 (q0+q1) (r0+r1),IsV (.bool true),IsV (.bool false),IsV (.bool false),IsV ((aP b0_ x0_ y0_ d0_ z0_ w0_)),IsV ((aP b1_ x1_ y1_ d1_ z1_ w1_)),PT 13 (q0 - q1) (r0 - r1),IsV ((aP b0_ x0_ y0_ d0_ z0_ w0_)),IsV ((aP b1_ x1_ y1_ d1_ z1_ w1_)),PT 13 (q0 - q1) (r0 - r1),IsV (.bool true),IsV (.bool false),IsV (.bool false),IsV (.bool false),IsV ((aP b0_ x0_ y0_ d0_ z0_ w0_)),PT 6 (-q0) (-r0),IsV ((aP b0_ x0_ y0_ d0_ z0_ w0_)),PT 13 (-q0) (-r0),IsV (.bool true),IsV (.bool false),IsV (.bool false),IsV (.bool false),IsV ((aP b0_ x0_ y0_ d0_ z0_ w0_)),IsV ((aG b2_ x2_ y2_)),PT 12 (q0*q2) (r0*q2),IsV ((aP b0_ x0_ y0_ d0_ z0_ w0_)),IsV ((aG b2_ x2_ y2_)),PT 26 (q0*q2) (r0*q2),IsV (.bool true),IsV (.bool false),IsV (.bool false),IsV (.bool false),IsV ((aP b0_ x0_ y0_ d0_ z0_ w0_)),IsV ((aP b1_ x1_ y1_ d1_ z1_ w1_)),IsV ((aG b2_ x2_ y2_)),PT 26 (q0+(q1 - q0)*q2) (r0+(r1 - r0)*q2),IsV ((aP b0_ x0_ y0_ d0_ z0_ w0_)),IsV ((aP b1_ x1_ y1_ d1_ z1_ w1_)),IsV ((aG b2_ x2_ y2_)),PT 53 (q0+(q1 - q0)*q2) (r0+(r1 - r0)*q2),IsV (.bool true),IsV (.bool false),IsV (.bool false),IsV (.bool false),IsV (.int .i64 n),IsV (.int .i64 m),PT 2 (((n:Int):Rat)) (((m:Int):Rat)),IsV (.int .i64 n),IsV (.int .i64 m),PT 2 (((n:Int):Rat)) (((m:Int):Rat)),IsV (.bool true),IsV (.bool false),IsV (.bool false)] S ?_ ?_
 ·refine sc (fun _ _ S _ _=>sv rfl (zac rfl (S.at 2 rfl) (S.bx 0 rfl) Tryz.underlying53 rfl (vs:=(lP b0_ x0_ y0_ d0_ z0_ w0_)) zaq rfl)) ?_
  refine sc (fun _ _ S _ _=>sv rfl (zac rfl (S.at 1 rfl) (S.bx 1 rfl) Tryz.underlying53 rfl (vs:=(lP b1_ x1_ y1_ d1_ z1_ w1_)) zaq rfl)) ?_
  refine sc (fun _ _ S _ hd=>sl rfl (rc2 Tryz.func49 (hd.v 0 rfl rfl) (hd.v 1 rfl rfl)) (zlF (T.keep S.below) (show P1 6 (q0) (r0) ((aP b0_ x0_ y0_ d0_ z0_ w0_)) _ from⟨b0_,x0_,y0_,d0_,z0_,w0_,rfl,hqa0,hra0,⟨hkx0,hky0⟩,⟨hkz0,hkw0⟩,⟨(S.num 6 rfl),(S.num 7 rfl)⟩,(S.num 8 rfl),(S.num 9 rfl)⟩) (show P1 6 (q1) (r1) ((aP b1_ x1_ y1_ d1_ z1_ w1_)) _ from⟨b1_,x1_,y1_,d1_,z1_,w1_,rfl,hqa1,hra1,⟨hkx1,hky1⟩,⟨hkz1,hkw1⟩,⟨(S.num 2 rfl),(S.num 3 rfl)⟩,(S.num 4 rfl),(S.num 5 rfl)⟩) (by omega) (by omega))) ?_
  refine sc (fun _ _ S _ _=>sv rfl (zac rfl (S.at 2 rfl) (S.bx 0 rfl) Tryz.underlying53 rfl (vs:=(lP b0_ x0_ y0_ d0_ z0_ w0_)) zaq rfl)) ?_
  refine sc (fun _ _ S _ _=>sv rfl (zac rfl (S.at 1 rfl) (S.bx 1 rfl) Tryz.underlying53 rfl (vs:=(lP b1_ x1_ y1_ d1_ z1_ w1_)) zaq rfl)) ?_
  refine sc (fun _ _ S _ hd=>sl rfl (rc2 Tryz.func50 (hd.v 3 rfl rfl) (hd.v 4 rfl rfl)) (zqL (((show P1 6 (q0) (r0) ((aP b0_ x0_ y0_ d0_ z0_ w0_)) _ from⟨b0_,x0_,y0_,d0_,z0_,w0_,rfl,hqa0,hra0,⟨hkx0,hky0⟩,⟨hkz0,hkw0⟩,⟨(S.num 6 rfl),(S.num 7 rfl)⟩,(S.num 8 rfl),(S.num 9 rfl)⟩)).to rfl rfl (by decide)) (((show P1 6 (q1) (r1) ((aP b1_ x1_ y1_ d1_ z1_ w1_)) _ from⟨b1_,x1_,y1_,d1_,z1_,w1_,rfl,hqa1,hra1,⟨hkx1,hky1⟩,⟨hkz1,hkw1⟩,⟨(S.num 2 rfl),(S.num 3 rfl)⟩,(S.num 4 rfl),(S.num 5 rfl)⟩)).to rfl rfl (by decide)))) ?_
  refine sc (fun _ _ _ _ hd=>sl rfl (rc2 Tryz.func48 rfl rfl) (zcT (hd.r 2 rfl rfl) (hd.r 5 rfl rfl) rfl rfl)) ?_
  refine sc (fun _ _ _ _ hd=>sv rfl (zdE (b:=true) rfl (hd.v 6 rfl rfl))) ?_
  refine sc (fun _ _ _ _ hd=>sv rfl (zad rfl (hd.v 7 rfl rfl))) ?_
  refine sc (fun _ _ S _ hd=>svg rfl (hd.v 8 rfl rfl) (zac rfl (S.at 2 rfl) (S.bx 0 rfl) Tryz.underlying53 rfl (vs:=(lP b0_ x0_ y0_ d0_ z0_ w0_)) zaq rfl)) ?_
  refine sc (fun _ _ S _ hd=>svg rfl (hd.v 8 rfl rfl) (zac rfl (S.at 1 rfl) (S.bx 1 rfl) Tryz.underlying53 rfl (vs:=(lP b1_ x1_ y1_ d1_ z1_ w1_)) zaq rfl)) ?_
  refine sc (fun _ _ S _ hd=>slg rfl (hd.v 8 rfl rfl) (rc2 Tryz.func51 (hd.v 9 rfl rfl) (hd.v 10 rfl rfl)) (zrV (T.keep S.below) (show P1 6 (q0) (r0) ((aP b0_ x0_ y0_ d0_ z0_ w0_)) _ from⟨b0_,x0_,y0_,d0_,z0_,w0_,rfl,hqa0,hra0,⟨hkx0,hky0⟩,⟨hkz0,hkw0⟩,⟨(S.num 6 rfl),(S.num 7 rfl)⟩,(S.num 8 rfl),(S.num 9 rfl)⟩) (show P1 6 (q1) (r1) ((aP b1_ x1_ y1_ d1_ z1_ w1_)) _ from⟨b1_,x1_,y1_,d1_,z1_,w1_,rfl,hqa1,hra1,⟨hkx1,hky1⟩,⟨hkz1,hkw1⟩,⟨(S.num 2 rfl),(S.num 3 rfl)⟩,(S.num 4 rfl),(S.num 5 rfl)⟩) (by omega) (by omega))) ?_
  refine sc (fun _ _ S _ hd=>svg rfl (hd.v 8 rfl rfl) (zac rfl (S.at 2 rfl) (S.bx 0 rfl) Tryz.underlying53 rfl (vs:=(lP b0_ x0_ y0_ d0_ z0_ w0_)) zaq rfl)) ?_
  refine sc (fun _ _ S _ hd=>svg rfl (hd.v 8 rfl rfl) (zac rfl (S.at 1 rfl) (S.bx 1 rfl) Tryz.underlying53 rfl (vs:=(lP b1_ x1_ y1_ d1_ z1_ w1_)) zaq rfl)) ?_
  refine sc (fun _ _ S _ hd=>slg rfl (hd.v 8 rfl rfl) (rc2 Tryz.func52 (hd.v 12 rfl rfl) (hd.v 13 rfl rfl)) (zlA (show P1 6 (q0) (r0) ((aP b0_ x0_ y0_ d0_ z0_ w0_)) _ from⟨b0_,x0_,y0_,d0_,z0_,w0_,rfl,hqa0,hra0,⟨hkx0,hky0⟩,⟨hkz0,hkw0⟩,⟨(S.num 6 rfl),(S.num 7 rfl)⟩,(S.num 8 rfl),(S.num 9 rfl)⟩) (show P1 6 (q1) (r1) ((aP b1_ x1_ y1_ d1_ z1_ w1_)) _ from⟨b1_,x1_,y1_,d1_,z1_,w1_,rfl,hqa1,hra1,⟨hkx1,hky1⟩,⟨hkz1,hkw1⟩,⟨(S.num 2 rfl),(S.num 3 rfl)⟩,(S.num 4 rfl),(S.num 5 rfl)⟩))) ?_
  refine sc (fun _ _ _ _ hd=>slg rfl (hd.v 8 rfl rfl) (rc2 Tryz.func48 rfl rfl) (zcT (hd.r 11 rfl rfl) (hd.r 14 rfl rfl) rfl rfl)) ?_
  refine sc (fun _ _ _ _ hd=>svg rfl (hd.v 8 rfl rfl) (zdE (b:=true) rfl (hd.v 15 rfl rfl))) ?_
  refine sc (fun _ _ _ _ hd=>sv rfl (zau false rfl (hd.v 8 rfl rfl) (hd.v 16 rfl rfl))) ?_
  refine sc (fun _ _ _ _ hd=>sv rfl (zad rfl (hd.v 17 rfl rfl))) ?_
  refine sc (fun _ _ S _ hd=>svg rfl (hd.v 18 rfl rfl) (zac rfl (S.at 2 rfl) (S.bx 0 rfl) Tryz.underlying53 rfl (vs:=(lP b0_ x0_ y0_ d0_ z0_ w0_)) zaq rfl)) ?_
  refine sc (fun _ _ S _ hd=>slg rfl (hd.v 18 rfl rfl) (rc1 Tryz.func53 (hd.v 19 rfl rfl)) (zrW (T.keep S.below) (show P1 6 (q0) (r0) ((aP b0_ x0_ y0_ d0_ z0_ w0_)) _ from⟨b0_,x0_,y0_,d0_,z0_,w0_,rfl,hqa0,hra0,⟨hkx0,hky0⟩,⟨hkz0,hkw0⟩,⟨(S.num 6 rfl),(S.num 7 rfl)⟩,(S.num 8 rfl),(S.num 9 rfl)⟩) (by omega))) ?_
  refine sc (fun _ _ S _ hd=>svg rfl (hd.v 18 rfl rfl) (zac rfl (S.at 2 rfl) (S.bx 0 rfl) Tryz.underlying53 rfl (vs:=(lP b0_ x0_ y0_ d0_ z0_ w0_)) zaq rfl)) ?_
  refine sc (fun _ _ S _ hd=>slg rfl (hd.v 18 rfl rfl) (rc1 Tryz.func54 (hd.v 21 rfl rfl)) (zsN (show P1 6 (q0) (r0) ((aP b0_ x0_ y0_ d0_ z0_ w0_)) _ from⟨b0_,x0_,y0_,d0_,z0_,w0_,rfl,hqa0,hra0,⟨hkx0,hky0⟩,⟨hkz0,hkw0⟩,⟨(S.num 6 rfl),(S.num 7 rfl)⟩,(S.num 8 rfl),(S.num 9 rfl)⟩))) ?_
  refine sc (fun _ _ _ _ hd=>slg rfl (hd.v 18 rfl rfl) (rc2 Tryz.func48 rfl rfl) (zcT (hd.r 20 rfl rfl) (hd.r 22 rfl rfl) rfl rfl)) ?_
  refine sc (fun _ _ _ _ hd=>svg rfl (hd.v 18 rfl rfl) (zdE (b:=true) rfl (hd.v 23 rfl rfl))) ?_
  refine sc (fun _ _ _ _ hd=>sv rfl (zau false rfl (hd.v 18 rfl rfl) (hd.v 24 rfl rfl))) ?_
  refine sc (fun _ _ _ _ hd=>sv rfl (zad rfl (hd.v 25 rfl rfl))) ?_
  refine sc (fun _ _ S _ hd=>svg rfl (hd.v 26 rfl rfl) (zac rfl (S.at 2 rfl) (S.bx 0 rfl) Tryz.underlying53 rfl (vs:=(lP b0_ x0_ y0_ d0_ z0_ w0_)) zaq rfl)) ?_
  refine sc (fun _ _ S _ hd=>svg rfl (hd.v 26 rfl rfl) (zac rfl (S.at 0 rfl) (S.bx 2 rfl) Tryz.underlying27 rfl (vs:=(aL b2_ x2_ y2_)) zag rfl)) ?_
  refine sc (fun _ _ S _ hd=>slg rfl (hd.v 26 rfl rfl) (rc2 Tryz.func55 (hd.v 27 rfl rfl) (hd.v 28 rfl rfl)) (zlG (T.keep S.below) (show P1 6 (q0) (r0) ((aP b0_ x0_ y0_ d0_ z0_ w0_)) _ from⟨b0_,x0_,y0_,d0_,z0_,w0_,rfl,hqa0,hra0,⟨hkx0,hky0⟩,⟨hkz0,hkw0⟩,⟨(S.num 6 rfl),(S.num 7 rfl)⟩,(S.num 8 rfl),(S.num 9 rfl)⟩) (show Q1 6 (q2) ((aG b2_ x2_ y2_)) _ from⟨b2_,x2_,y2_,rfl,hqa2,hkx2,hky2,(S.num 0 rfl),(S.num 1 rfl)⟩) (by omega) (by omega))) ?_
  refine sc (fun _ _ S _ hd=>svg rfl (hd.v 26 rfl rfl) (zac rfl (S.at 2 rfl) (S.bx 0 rfl) Tryz.underlying53 rfl (vs:=(lP b0_ x0_ y0_ d0_ z0_ w0_)) zaq rfl)) ?_
  refine sc (fun _ _ S _ hd=>svg rfl (hd.v 26 rfl rfl) (zac rfl (S.at 0 rfl) (S.bx 2 rfl) Tryz.underlying27 rfl (vs:=(aL b2_ x2_ y2_)) zag rfl)) ?_
  refine sc (fun _ _ S _ hd=>slg rfl (hd.v 26 rfl rfl) (rc2 Tryz.func56 (hd.v 30 rfl rfl) (hd.v 31 rfl rfl)) (zlB (((show P1 6 (q0) (r0) ((aP b0_ x0_ y0_ d0_ z0_ w0_)) _ from⟨b0_,x0_,y0_,d0_,z0_,w0_,rfl,hqa0,hra0,⟨hkx0,hky0⟩,⟨hkz0,hkw0⟩,⟨(S.num 6 rfl),(S.num 7 rfl)⟩,(S.num 8 rfl),(S.num 9 rfl)⟩)).to rfl rfl (by decide)) (((show Q1 6 (q2) ((aG b2_ x2_ y2_)) _ from⟨b2_,x2_,y2_,rfl,hqa2,hkx2,hky2,(S.num 0 rfl),(S.num 1 rfl)⟩)).to rfl (by decide)))) ?_
  refine sc (fun _ _ _ _ hd=>slg rfl (hd.v 26 rfl rfl) (rc2 Tryz.func48 rfl rfl) (zcT (hd.r 29 rfl rfl) (hd.r 32 rfl rfl) rfl rfl)) ?_
  refine sc (fun _ _ _ _ hd=>svg rfl (hd.v 26 rfl rfl) (zdE (b:=true) rfl (hd.v 33 rfl rfl))) ?_
  refine sc (fun _ _ _ _ hd=>sv rfl (zau false rfl (hd.v 26 rfl rfl) (hd.v 34 rfl rfl))) ?_
  refine sc (fun _ _ _ _ hd=>sv rfl (zad rfl (hd.v 35 rfl rfl))) ?_
  refine sc (fun _ _ S _ hd=>svg rfl (hd.v 36 rfl rfl) (zac rfl (S.at 2 rfl) (S.bx 0 rfl) Tryz.underlying53 rfl (vs:=(lP b0_ x0_ y0_ d0_ z0_ w0_)) zaq rfl)) ?_
  refine sc (fun _ _ S _ hd=>svg rfl (hd.v 36 rfl rfl) (zac rfl (S.at 1 rfl) (S.bx 1 rfl) Tryz.underlying53 rfl (vs:=(lP b1_ x1_ y1_ d1_ z1_ w1_)) zaq rfl)) ?_
  refine sc (fun _ _ S _ hd=>svg rfl (hd.v 36 rfl rfl) (zac rfl (S.at 0 rfl) (S.bx 2 rfl) Tryz.underlying27 rfl (vs:=(aL b2_ x2_ y2_)) zag rfl)) ?_
  refine sc (fun _ _ S _ hd=>slg rfl (hd.v 36 rfl rfl) (rc3 Tryz.func57 (hd.v 37 rfl rfl) (hd.v 38 rfl rfl) (hd.v 39 rfl rfl)) (vAt (T.keep S.below) (show P1 6 (q0) (r0) ((aP b0_ x0_ y0_ d0_ z0_ w0_)) _ from⟨b0_,x0_,y0_,d0_,z0_,w0_,rfl,hqa0,hra0,⟨hkx0,hky0⟩,⟨hkz0,hkw0⟩,⟨(S.num 6 rfl),(S.num 7 rfl)⟩,(S.num 8 rfl),(S.num 9 rfl)⟩) (show P1 6 (q1) (r1) ((aP b1_ x1_ y1_ d1_ z1_ w1_)) _ from⟨b1_,x1_,y1_,d1_,z1_,w1_,rfl,hqa1,hra1,⟨hkx1,hky1⟩,⟨hkz1,hkw1⟩,⟨(S.num 2 rfl),(S.num 3 rfl)⟩,(S.num 4 rfl),(S.num 5 rfl)⟩) (show Q1 6 (q2) ((aG b2_ x2_ y2_)) _ from⟨b2_,x2_,y2_,rfl,hqa2,hkx2,hky2,(S.num 0 rfl),(S.num 1 rfl)⟩) (by omega) (by omega) (by omega))) ?_
  refine sc (fun _ _ S _ hd=>svg rfl (hd.v 36 rfl rfl) (zac rfl (S.at 2 rfl) (S.bx 0 rfl) Tryz.underlying53 rfl (vs:=(lP b0_ x0_ y0_ d0_ z0_ w0_)) zaq rfl)) ?_
  refine sc (fun _ _ S _ hd=>svg rfl (hd.v 36 rfl rfl) (zac rfl (S.at 1 rfl) (S.bx 1 rfl) Tryz.underlying53 rfl (vs:=(lP b1_ x1_ y1_ d1_ z1_ w1_)) zaq rfl)) ?_
  refine sc (fun _ _ S _ hd=>svg rfl (hd.v 36 rfl rfl) (zac rfl (S.at 0 rfl) (S.bx 2 rfl) Tryz.underlying27 rfl (vs:=(aL b2_ x2_ y2_)) zag rfl)) ?_
  refine sc (fun _ _ S _ hd=>slg rfl (hd.v 36 rfl rfl) (rc3 Tryz.func58 (hd.v 41 rfl rfl) (hd.v 42 rfl rfl) (hd.v 43 rfl rfl)) (zs2 (show P1 6 (q0) (r0) ((aP b0_ x0_ y0_ d0_ z0_ w0_)) _ from⟨b0_,x0_,y0_,d0_,z0_,w0_,rfl,hqa0,hra0,⟨hkx0,hky0⟩,⟨hkz0,hkw0⟩,⟨(S.num 6 rfl),(S.num 7 rfl)⟩,(S.num 8 rfl),(S.num 9 rfl)⟩) (show P1 6 (q1) (r1) ((aP b1_ x1_ y1_ d1_ z1_ w1_)) _ from⟨b1_,x1_,y1_,d1_,z1_,w1_,rfl,hqa1,hra1,⟨hkx1,hky1⟩,⟨hkz1,hkw1⟩,⟨(S.num 2 rfl),(S.num 3 rfl)⟩,(S.num 4 rfl),(S.num 5 rfl)⟩) (show Q1 6 (q2) ((aG b2_ x2_ y2_)) _ from⟨b2_,x2_,y2_,rfl,hqa2,hkx2,hky2,(S.num 0 rfl),(S.num 1 rfl)⟩))) ?_
  refine sc (fun _ _ _ _ hd=>slg rfl (hd.v 36 rfl rfl) (rc2 Tryz.func48 rfl rfl) (zcT (hd.r 40 rfl rfl) (hd.r 44 rfl rfl) rfl rfl)) ?_
  refine sc (fun _ _ _ _ hd=>svg rfl (hd.v 36 rfl rfl) (zdE (b:=true) rfl (hd.v 45 rfl rfl))) ?_
  refine sc (fun _ _ _ _ hd=>sv rfl (zau false rfl (hd.v 36 rfl rfl) (hd.v 46 rfl rfl))) ?_
  refine sc (fun _ _ _ _ hd=>sv rfl (zad rfl (hd.v 47 rfl rfl))) ?_
  refine sc (fun _ _ S _ hd=>svg rfl (hd.v 48 rfl rfl) (zad rfl (S.at 4 rfl))) ?_
  refine sc (fun _ _ S _ hd=>svg rfl (hd.v 48 rfl rfl) (zad rfl (S.at 5 rfl))) ?_
  refine sc (fun _ _ _ _ hd=>slg rfl (hd.v 48 rfl rfl) (rc2 Tryz.func59 (hd.v 49 rfl rfl) (hd.v 50 rfl rfl)) (vOf (n:=n) (m:=m) ⟨hn,hm⟩)) ?_
  refine sc (fun _ _ S _ hd=>svg rfl (hd.v 48 rfl rfl) (zad rfl (S.at 4 rfl))) ?_
  refine sc (fun _ _ S _ hd=>svg rfl (hd.v 48 rfl rfl) (zad rfl (S.at 5 rfl))) ?_
  refine sc (fun _ _ _ _ hd=>slg rfl (hd.v 48 rfl rfl) (rc2 Tryz.func60 (hd.v 52 rfl rfl) (hd.v 53 rfl rfl)) (zrO (n:=n) (m:=m) ⟨hn,hm⟩)) ?_
  refine sc (fun _ _ _ _ hd=>slg rfl (hd.v 48 rfl rfl) (rc2 Tryz.func48 rfl rfl) (zcT (hd.r 51 rfl rfl) (hd.r 54 rfl rfl) rfl rfl)) ?_
  refine sc (fun _ _ _ _ hd=>svg rfl (hd.v 48 rfl rfl) (zdE (b:=true) rfl (hd.v 55 rfl rfl))) ?_
  refine sc (fun _ _ _ _ hd=>sv rfl (zau false rfl (hd.v 48 rfl rfl) (hd.v 56 rfl rfl))) ?_
  exact sn
 ·intro a1 V8 S hB hf
  have S:=S.add (hf.v 57 rfl rfl)
  clear hf S0
  show wpList _ _ _ [] _ _
  refine hK5 _ _ ?_
  refine wp_cond_false (S.at 0 rfl) ?_
  refine wp_skip ?_
  refine hK4 _ _ ?_
  refine wp_seq_k fun K6 hK6=>?_
  obtain⟨W2,hW2⟩:∃W,W=V8:=⟨_,rfl⟩
  rw[←hW2]at S ⊢
  have S0:=S
  refine fr 53 [84,85,86,87,88,89,90,91,92,93,94,95,96,97,98,99,100,101,102,103,104,105,106,107,108,109,110,111,112,113,114,115,116,117,118,119,120,121,122,123,124,125,126,127,128,129,130,131,132,133,134,135,136] [IsV ((aP b0_ x0_ y0_ d0_ z0_ w0_)),IsV ((aP b1_ x1_ y1_ d1_ z1_ w1_)),QT 25 (q0*r1 - r0*q1),IsV ((aP b0_ x0_ y0_ d0_ z0_ w0_)),IsV ((aP b1_ x1_ y1_ d1_ z1_ w1_)),QT 25 (q0*r1 - r0*q1),IsV (.bool true),IsV (.bool true),IsV ((aP b0_ x0_ y0_ d0_ z0_ w0_)),IsV ((aP b1_ x1_ y1_ d1_ z1_ w1_)),QT 25 (q0*q1+r0*r1),IsV ((aP b0_ x0_ y0_ d0_ z0_ w0_)),IsV ((aP b1_ x1_ y1_ d1_ z1_ w1_)),QT 25 (q0*q1+r0*r1),IsV (.bool true),IsV (.bool true),IsV (.bool true),IsV ((aP b0_ x0_ y0_ d0_ z0_ w0_)),IsV ((aP b1_ x1_ y1_ d1_ z1_ w1_)),QT 27 (zbH (q1 - q0)+zbH (r1 - r0)),IsV ((aP b0_ x0_ y0_ d0_ z0_ w0_)),IsV ((aP b1_ x1_ y1_ d1_ z1_ w1_)),QT 33 (zbH (q0 - q1)+zbH (r0 - r1)),IsV (.bool true),IsV (.bool true),IsV (.bool true),IsV ((aP b0_ x0_ y0_ d0_ z0_ w0_)),IsV ((aP b1_ x1_ y1_ d1_ z1_ w1_)),IsV (.int .i64 (zaS q0 r0 q1 r1)),IsV ((aP b0_ x0_ y0_ d0_ z0_ w0_)),IsV ((aP b1_ x1_ y1_ d1_ z1_ w1_)),IsV (.int .i64 (zaS q0 r0 q1 r1)),IsV (.bool true),IsV (.bool true),IsV (.bool true),IsV ((aP b0_ x0_ y0_ d0_ z0_ w0_)),IsV ((aP b1_ x1_ y1_ d1_ z1_ w1_)),IsV (.bool (decide (zaS q0 r0 q1 r1=0))),IsV ((aP b0_ x0_ y0_ d0_ z0_ w0_)),IsV ((aP b1_ x1_ y1_ d1_ z1_ w1_)),IsV (.bool (decide (zaS q0 r0 q1 r1=0))),IsV (.bool true),IsV (.bool true),IsV (.bool true),IsV (.slice A l.length c),TRow 6 (l.map pv),IsV (.slice A l.length c),TRow 6 (l.map pv),IsV (.bool true),IsV (.bool true),IsV (.bool true),IsV (.bool true),IsV (.bool true)] S ?_ ?_
  ·refine sc (fun _ _ S _ _=>sv rfl (zac rfl (S.at 3 rfl) (S.bx 0 rfl) Tryz.underlying53 rfl (vs:=(lP b0_ x0_ y0_ d0_ z0_ w0_)) zaq rfl)) ?_
   refine sc (fun _ _ S _ _=>sv rfl (zac rfl (S.at 2 rfl) (S.bx 1 rfl) Tryz.underlying53 rfl (vs:=(lP b1_ x1_ y1_ d1_ z1_ w1_)) zaq rfl)) ?_
   refine sc (fun _ _ S _ hd=>sl rfl (rc2 Tryz.func62 (hd.v 0 rfl rfl) (hd.v 1 rfl rfl)) (zlH (T.keep S.below) (show P1 6 (q0) (r0) ((aP b0_ x0_ y0_ d0_ z0_ w0_)) _ from⟨b0_,x0_,y0_,d0_,z0_,w0_,rfl,hqa0,hra0,⟨hkx0,hky0⟩,⟨hkz0,hkw0⟩,⟨(S.num 6 rfl),(S.num 7 rfl)⟩,(S.num 8 rfl),(S.num 9 rfl)⟩) (show P1 6 (q1) (r1) ((aP b1_ x1_ y1_ d1_ z1_ w1_)) _ from⟨b1_,x1_,y1_,d1_,z1_,w1_,rfl,hqa1,hra1,⟨hkx1,hky1⟩,⟨hkz1,hkw1⟩,⟨(S.num 2 rfl),(S.num 3 rfl)⟩,(S.num 4 rfl),(S.num 5 rfl)⟩) (by omega) (by omega))) ?_
   refine sc (fun _ _ S _ _=>sv rfl (zac rfl (S.at 3 rfl) (S.bx 0 rfl) Tryz.underlying53 rfl (vs:=(lP b0_ x0_ y0_ d0_ z0_ w0_)) zaq rfl)) ?_
   refine sc (fun _ _ S _ _=>sv rfl (zac rfl (S.at 2 rfl) (S.bx 1 rfl) Tryz.underlying53 rfl (vs:=(lP b1_ x1_ y1_ d1_ z1_ w1_)) zaq rfl)) ?_
   refine sc (fun _ _ S _ hd=>sl rfl (rc2 Tryz.func63 (hd.v 3 rfl rfl) (hd.v 4 rfl rfl)) (zqo (show P1 6 (q0) (r0) ((aP b0_ x0_ y0_ d0_ z0_ w0_)) _ from⟨b0_,x0_,y0_,d0_,z0_,w0_,rfl,hqa0,hra0,⟨hkx0,hky0⟩,⟨hkz0,hkw0⟩,⟨(S.num 6 rfl),(S.num 7 rfl)⟩,(S.num 8 rfl),(S.num 9 rfl)⟩) (show P1 6 (q1) (r1) ((aP b1_ x1_ y1_ d1_ z1_ w1_)) _ from⟨b1_,x1_,y1_,d1_,z1_,w1_,rfl,hqa1,hra1,⟨hkx1,hky1⟩,⟨hkz1,hkw1⟩,⟨(S.num 2 rfl),(S.num 3 rfl)⟩,(S.num 4 rfl),(S.num 5 rfl)⟩))) ?_
   refine sc (fun _ _ _ _ hd=>sl rfl (rc2 Tryz.func61 rfl rfl) (zgC (hd.r 2 rfl rfl) (hd.r 5 rfl rfl) rfl)) ?_
   refine sc (fun _ _ _ _ hd=>sv rfl (zad rfl (hd.v 6 rfl rfl))) ?_
   refine sc (fun _ _ S _ hd=>svg rfl (hd.v 7 rfl rfl) (zac rfl (S.at 3 rfl) (S.bx 0 rfl) Tryz.underlying53 rfl (vs:=(lP b0_ x0_ y0_ d0_ z0_ w0_)) zaq rfl)) ?_
   refine sc (fun _ _ S _ hd=>svg rfl (hd.v 7 rfl rfl) (zac rfl (S.at 2 rfl) (S.bx 1 rfl) Tryz.underlying53 rfl (vs:=(lP b1_ x1_ y1_ d1_ z1_ w1_)) zaq rfl)) ?_
   refine sc (fun _ _ S _ hd=>slg rfl (hd.v 7 rfl rfl) (rc2 Tryz.func64 (hd.v 8 rfl rfl) (hd.v 9 rfl rfl)) (zsT (T.keep S.below) (show P1 6 (q0) (r0) ((aP b0_ x0_ y0_ d0_ z0_ w0_)) _ from⟨b0_,x0_,y0_,d0_,z0_,w0_,rfl,hqa0,hra0,⟨hkx0,hky0⟩,⟨hkz0,hkw0⟩,⟨(S.num 6 rfl),(S.num 7 rfl)⟩,(S.num 8 rfl),(S.num 9 rfl)⟩) (show P1 6 (q1) (r1) ((aP b1_ x1_ y1_ d1_ z1_ w1_)) _ from⟨b1_,x1_,y1_,d1_,z1_,w1_,rfl,hqa1,hra1,⟨hkx1,hky1⟩,⟨hkz1,hkw1⟩,⟨(S.num 2 rfl),(S.num 3 rfl)⟩,(S.num 4 rfl),(S.num 5 rfl)⟩) (by omega) (by omega))) ?_
   refine sc (fun _ _ S _ hd=>svg rfl (hd.v 7 rfl rfl) (zac rfl (S.at 3 rfl) (S.bx 0 rfl) Tryz.underlying53 rfl (vs:=(lP b0_ x0_ y0_ d0_ z0_ w0_)) zaq rfl)) ?_
   refine sc (fun _ _ S _ hd=>svg rfl (hd.v 7 rfl rfl) (zac rfl (S.at 2 rfl) (S.bx 1 rfl) Tryz.underlying53 rfl (vs:=(lP b1_ x1_ y1_ d1_ z1_ w1_)) zaq rfl)) ?_
   refine sc (fun _ _ S _ hd=>slg rfl (hd.v 7 rfl rfl) (rc2 Tryz.func65 (hd.v 11 rfl rfl) (hd.v 12 rfl rfl)) (zsO (show P1 6 (q0) (r0) ((aP b0_ x0_ y0_ d0_ z0_ w0_)) _ from⟨b0_,x0_,y0_,d0_,z0_,w0_,rfl,hqa0,hra0,⟨hkx0,hky0⟩,⟨hkz0,hkw0⟩,⟨(S.num 6 rfl),(S.num 7 rfl)⟩,(S.num 8 rfl),(S.num 9 rfl)⟩) (show P1 6 (q1) (r1) ((aP b1_ x1_ y1_ d1_ z1_ w1_)) _ from⟨b1_,x1_,y1_,d1_,z1_,w1_,rfl,hqa1,hra1,⟨hkx1,hky1⟩,⟨hkz1,hkw1⟩,⟨(S.num 2 rfl),(S.num 3 rfl)⟩,(S.num 4 rfl),(S.num 5 rfl)⟩))) ?_
   refine sc (fun _ _ _ _ hd=>slg rfl (hd.v 7 rfl rfl) (rc2 Tryz.func61 rfl rfl) (zgC (hd.r 10 rfl rfl) (hd.r 13 rfl rfl) rfl)) ?_
   refine sc (fun _ _ _ _ hd=>sv rfl (zau true rfl (hd.v 7 rfl rfl) (hd.v 14 rfl rfl))) ?_
   refine sc (fun _ _ _ _ hd=>sv rfl (zad rfl (hd.v 15 rfl rfl))) ?_
   refine sc (fun _ _ S _ hd=>svg rfl (hd.v 16 rfl rfl) (zac rfl (S.at 3 rfl) (S.bx 0 rfl) Tryz.underlying53 rfl (vs:=(lP b0_ x0_ y0_ d0_ z0_ w0_)) zaq rfl)) ?_
   refine sc (fun _ _ S _ hd=>svg rfl (hd.v 16 rfl rfl) (zac rfl (S.at 2 rfl) (S.bx 1 rfl) Tryz.underlying53 rfl (vs:=(lP b1_ x1_ y1_ d1_ z1_ w1_)) zaq rfl)) ?_
   refine sc (fun _ _ S _ hd=>slg rfl (hd.v 16 rfl rfl) (rc2 Tryz.func66 (hd.v 17 rfl rfl) (hd.v 18 rfl rfl)) (zsU (T.keep S.below) (show P1 6 (q0) (r0) ((aP b0_ x0_ y0_ d0_ z0_ w0_)) _ from⟨b0_,x0_,y0_,d0_,z0_,w0_,rfl,hqa0,hra0,⟨hkx0,hky0⟩,⟨hkz0,hkw0⟩,⟨(S.num 6 rfl),(S.num 7 rfl)⟩,(S.num 8 rfl),(S.num 9 rfl)⟩) (show P1 6 (q1) (r1) ((aP b1_ x1_ y1_ d1_ z1_ w1_)) _ from⟨b1_,x1_,y1_,d1_,z1_,w1_,rfl,hqa1,hra1,⟨hkx1,hky1⟩,⟨hkz1,hkw1⟩,⟨(S.num 2 rfl),(S.num 3 rfl)⟩,(S.num 4 rfl),(S.num 5 rfl)⟩) (by omega) (by omega))) ?_
   refine sc (fun _ _ S _ hd=>svg rfl (hd.v 16 rfl rfl) (zac rfl (S.at 3 rfl) (S.bx 0 rfl) Tryz.underlying53 rfl (vs:=(lP b0_ x0_ y0_ d0_ z0_ w0_)) zaq rfl)) ?_
   refine sc (fun _ _ S _ hd=>svg rfl (hd.v 16 rfl rfl) (zac rfl (S.at 2 rfl) (S.bx 1 rfl) Tryz.underlying53 rfl (vs:=(lP b1_ x1_ y1_ d1_ z1_ w1_)) zaq rfl)) ?_
   refine sc (fun _ _ S _ hd=>slg rfl (hd.v 16 rfl rfl) (rc2 Tryz.func67 (hd.v 20 rfl rfl) (hd.v 21 rfl rfl)) (zsP (show P1 6 (q0) (r0) ((aP b0_ x0_ y0_ d0_ z0_ w0_)) _ from⟨b0_,x0_,y0_,d0_,z0_,w0_,rfl,hqa0,hra0,⟨hkx0,hky0⟩,⟨hkz0,hkw0⟩,⟨(S.num 6 rfl),(S.num 7 rfl)⟩,(S.num 8 rfl),(S.num 9 rfl)⟩) (show P1 6 (q1) (r1) ((aP b1_ x1_ y1_ d1_ z1_ w1_)) _ from⟨b1_,x1_,y1_,d1_,z1_,w1_,rfl,hqa1,hra1,⟨hkx1,hky1⟩,⟨hkz1,hkw1⟩,⟨(S.num 2 rfl),(S.num 3 rfl)⟩,(S.num 4 rfl),(S.num 5 rfl)⟩))) ?_
   refine sc (fun _ _ _ _ hd=>slg rfl (hd.v 16 rfl rfl) (rc2 Tryz.func61 rfl rfl) (zgC (hd.r 19 rfl rfl) (hd.r 22 rfl rfl) zpc)) ?_
   refine sc (fun _ _ _ _ hd=>sv rfl (zau true rfl (hd.v 16 rfl rfl) (hd.v 23 rfl rfl))) ?_
   refine sc (fun _ _ _ _ hd=>sv rfl (zad rfl (hd.v 24 rfl rfl))) ?_
   refine sc (fun _ _ S _ hd=>svg rfl (hd.v 25 rfl rfl) (zac rfl (S.at 3 rfl) (S.bx 0 rfl) Tryz.underlying53 rfl (vs:=(lP b0_ x0_ y0_ d0_ z0_ w0_)) zaq rfl)) ?_
   refine sc (fun _ _ S _ hd=>svg rfl (hd.v 25 rfl rfl) (zac rfl (S.at 2 rfl) (S.bx 1 rfl) Tryz.underlying53 rfl (vs:=(lP b1_ x1_ y1_ d1_ z1_ w1_)) zaq rfl)) ?_
   refine sc (fun _ _ S _ hd=>slg rfl (hd.v 25 rfl rfl) (rc2 Tryz.func68 (hd.v 26 rfl rfl) (hd.v 27 rfl rfl)) (ziB (T.keep S.below) (show P1 6 (q0) (r0) ((aP b0_ x0_ y0_ d0_ z0_ w0_)) _ from⟨b0_,x0_,y0_,d0_,z0_,w0_,rfl,hqa0,hra0,⟨hkx0,hky0⟩,⟨hkz0,hkw0⟩,⟨(S.num 6 rfl),(S.num 7 rfl)⟩,(S.num 8 rfl),(S.num 9 rfl)⟩) (show P1 6 (q1) (r1) ((aP b1_ x1_ y1_ d1_ z1_ w1_)) _ from⟨b1_,x1_,y1_,d1_,z1_,w1_,rfl,hqa1,hra1,⟨hkx1,hky1⟩,⟨hkz1,hkw1⟩,⟨(S.num 2 rfl),(S.num 3 rfl)⟩,(S.num 4 rfl),(S.num 5 rfl)⟩) (by omega) (by omega))) ?_
   refine sc (fun _ _ S _ hd=>svg rfl (hd.v 25 rfl rfl) (zac rfl (S.at 3 rfl) (S.bx 0 rfl) Tryz.underlying53 rfl (vs:=(lP b0_ x0_ y0_ d0_ z0_ w0_)) zaq rfl)) ?_
   refine sc (fun _ _ S _ hd=>svg rfl (hd.v 25 rfl rfl) (zac rfl (S.at 2 rfl) (S.bx 1 rfl) Tryz.underlying53 rfl (vs:=(lP b1_ x1_ y1_ d1_ z1_ w1_)) zaq rfl)) ?_
   refine sc (fun _ _ S _ hd=>slg rfl (hd.v 25 rfl rfl) (rc2 Tryz.func69 (hd.v 29 rfl rfl) (hd.v 30 rfl rfl)) (zqN (show P1 6 (q0) (r0) ((aP b0_ x0_ y0_ d0_ z0_ w0_)) _ from⟨b0_,x0_,y0_,d0_,z0_,w0_,rfl,hqa0,hra0,⟨hkx0,hky0⟩,⟨hkz0,hkw0⟩,⟨(S.num 6 rfl),(S.num 7 rfl)⟩,(S.num 8 rfl),(S.num 9 rfl)⟩) (show P1 6 (q1) (r1) ((aP b1_ x1_ y1_ d1_ z1_ w1_)) _ from⟨b1_,x1_,y1_,d1_,z1_,w1_,rfl,hqa1,hra1,⟨hkx1,hky1⟩,⟨hkz1,hkw1⟩,⟨(S.num 2 rfl),(S.num 3 rfl)⟩,(S.num 4 rfl),(S.num 5 rfl)⟩))) ?_
   refine sc (fun _ _ _ _ hd=>svg rfl (hd.v 25 rfl rfl) (za9 (zbZ _ (by decide) rfl (hd.v 28 rfl rfl) (hd.v 31 rfl rfl)) (show(decide (zaS q0 r0 q1 r1=zaS q0 r0 q1 r1))=true from(by simp)))) ?_
   refine sc (fun _ _ _ _ hd=>sv rfl (zau true rfl (hd.v 25 rfl rfl) (hd.v 32 rfl rfl))) ?_
   refine sc (fun _ _ _ _ hd=>sv rfl (zad rfl (hd.v 33 rfl rfl))) ?_
   refine sc (fun _ _ S _ hd=>svg rfl (hd.v 34 rfl rfl) (zac rfl (S.at 3 rfl) (S.bx 0 rfl) Tryz.underlying53 rfl (vs:=(lP b0_ x0_ y0_ d0_ z0_ w0_)) zaq rfl)) ?_
   refine sc (fun _ _ S _ hd=>svg rfl (hd.v 34 rfl rfl) (zac rfl (S.at 2 rfl) (S.bx 1 rfl) Tryz.underlying53 rfl (vs:=(lP b1_ x1_ y1_ d1_ z1_ w1_)) zaq rfl)) ?_
   refine sc (fun _ _ S _ hd=>slg rfl (hd.v 34 rfl rfl) (rc2 Tryz.func70 (hd.v 35 rfl rfl) (hd.v 36 rfl rfl)) (zew (T.keep S.below) (show P1 6 (q0) (r0) ((aP b0_ x0_ y0_ d0_ z0_ w0_)) _ from⟨b0_,x0_,y0_,d0_,z0_,w0_,rfl,hqa0,hra0,⟨hkx0,hky0⟩,⟨hkz0,hkw0⟩,⟨(S.num 6 rfl),(S.num 7 rfl)⟩,(S.num 8 rfl),(S.num 9 rfl)⟩) (show P1 6 (q1) (r1) ((aP b1_ x1_ y1_ d1_ z1_ w1_)) _ from⟨b1_,x1_,y1_,d1_,z1_,w1_,rfl,hqa1,hra1,⟨hkx1,hky1⟩,⟨hkz1,hkw1⟩,⟨(S.num 2 rfl),(S.num 3 rfl)⟩,(S.num 4 rfl),(S.num 5 rfl)⟩) (by omega) (by omega))) ?_
   refine sc (fun _ _ S _ hd=>svg rfl (hd.v 34 rfl rfl) (zac rfl (S.at 3 rfl) (S.bx 0 rfl) Tryz.underlying53 rfl (vs:=(lP b0_ x0_ y0_ d0_ z0_ w0_)) zaq rfl)) ?_
   refine sc (fun _ _ S _ hd=>svg rfl (hd.v 34 rfl rfl) (zac rfl (S.at 2 rfl) (S.bx 1 rfl) Tryz.underlying53 rfl (vs:=(lP b1_ x1_ y1_ d1_ z1_ w1_)) zaq rfl)) ?_
   refine sc (fun _ _ S _ hd=>slg rfl (hd.v 34 rfl rfl) (rc2 Tryz.func71 (hd.v 38 rfl rfl) (hd.v 39 rfl rfl)) (zrP (show P1 6 (q0) (r0) ((aP b0_ x0_ y0_ d0_ z0_ w0_)) _ from⟨b0_,x0_,y0_,d0_,z0_,w0_,rfl,hqa0,hra0,⟨hkx0,hky0⟩,⟨hkz0,hkw0⟩,⟨(S.num 6 rfl),(S.num 7 rfl)⟩,(S.num 8 rfl),(S.num 9 rfl)⟩) (show P1 6 (q1) (r1) ((aP b1_ x1_ y1_ d1_ z1_ w1_)) _ from⟨b1_,x1_,y1_,d1_,z1_,w1_,rfl,hqa1,hra1,⟨hkx1,hky1⟩,⟨hkz1,hkw1⟩,⟨(S.num 2 rfl),(S.num 3 rfl)⟩,(S.num 4 rfl),(S.num 5 rfl)⟩))) ?_
   refine sc (fun _ _ _ _ hd=>svg rfl (hd.v 34 rfl rfl) (za9 (zpY rfl (hd.v 37 rfl rfl) (hd.v 40 rfl rfl)) (show((decide (zaS q0 r0 q1 r1=0))==(decide (zaS q0 r0 q1 r1=0)))=true from(by simp)))) ?_
   refine sc (fun _ _ _ _ hd=>sv rfl (zau true rfl (hd.v 34 rfl rfl) (hd.v 41 rfl rfl))) ?_
   refine sc (fun _ _ _ _ hd=>sv rfl (zad rfl (hd.v 42 rfl rfl))) ?_
   refine sc (fun _ _ S _ hd=>svg rfl (hd.v 43 rfl rfl) (zad rfl (S.at 4 rfl))) ?_
   refine sc (fun _ _ S _ hd=>slg rfl (hd.v 43 rfl rfl) (rc1 Tryz.func73 (hd.v 44 rfl rfl)) (zdu (T.keep S.below) (hPR.keep S.below) (by omega))) ?_
   refine sc (fun _ _ S _ hd=>svg rfl (hd.v 43 rfl rfl) (zad rfl (S.at 4 rfl))) ?_
   refine sc (fun _ _ S _ hd=>slg rfl (hd.v 43 rfl rfl) (rc1 Tryz.func74 (hd.v 46 rfl rfl)) (zrR (hPR.keep S.below) (by decide))) ?_
   refine sc (fun _ _ _ _ hd=>slg rfl (hd.v 43 rfl rfl) (rc2 Tryz.func72 rfl rfl) (zc4 (hd.r 45 rfl rfl) (hd.r 47 rfl rfl) rfl)) ?_
   refine sc (fun _ _ _ _ hd=>sv rfl (zau true rfl (hd.v 43 rfl rfl) (hd.v 48 rfl rfl))) ?_
   refine sc (fun _ _ _ _ hd=>sv rfl (zad rfl (hd.v 49 rfl rfl))) ?_
   refine sc (fun _ _ S _ hd=>slg rfl (hd.v 50 rfl rfl) (rc0 Tryz.func47) (zcU (T.keep S.below))) ?_
   refine sc (fun _ _ _ _ hd=>sv rfl (zau true rfl (hd.v 50 rfl rfl) (hd.v 51 rfl rfl))) ?_
   exact sn
  ·intro a2 V9 S hB hf
   have S:=S.add (hf.v 52 rfl rfl)
   clear hf S0
   show wpList _ _ _ [_] _ _
   refine tv S (zan rfl (S.at 0 rfl)) fun a S=>?_
   refine hK6 _ _ ?_
   refine wp_ret ?_
   exact zaH rfl S (S.at 0 rfl) ⟨_,rfl,rfl,S.below⟩
theorem zg5 (b0_:Bool)(x0_ y0_:Num)(d0_:Bool)(z0_ w0_:Num)(b1_:Bool)(x1_ y1_:Num)(d1_:Bool)(z1_ w1_:Num)(b2_:Bool)(x2_ y2_:Num)(A:Option Addr)(c:Nat)(l:List PEl)(n m:Int){V:World}(T:TT V)(ox0:x0_.ok V V.heap.size)(oy0:y0_.ok V V.heap.size)(oz0:z0_.ok V V.heap.size)(ow0:w0_.ok V V.heap.size)(ox1:x1_.ok V V.heap.size)(oy1:y1_.ok V V.heap.size)(oz1:z1_.ok V V.heap.size)(ow1:w1_.ok V V.heap.size)(ox2:x2_.ok V V.heap.size)(oy2:y2_.ok V V.heap.size)(hG1:zbG [(b0_,x0_,y0_,d0_,z0_,w0_),(b1_,x1_,y1_,d1_,z1_,w1_)]=true):
  Calls Tryz.prog 5 #[(aP b0_ x0_ y0_ d0_ z0_ w0_),(aP b1_ x1_ y1_ d1_ z1_ w1_),(aG b2_ x2_ y2_),.slice A l.length c,.int .i64 n,.int .i64 m] V (zai V (fun v _=>v= .bool true)):=by
 obtain⟨q0,hqa0⟩:∃q,qOf b0_ x0_.N y0_.N=q:=⟨_,rfl⟩
 obtain⟨r0,hra0⟩:∃q,qOf d0_ z0_.N w0_.N=q:=⟨_,rfl⟩
 obtain⟨q1,hqa1⟩:∃q,qOf b1_ x1_.N y1_.N=q:=⟨_,rfl⟩
 obtain⟨r1,hra1⟩:∃q,qOf d1_ z1_.N w1_.N=q:=⟨_,rfl⟩
 obtain⟨q2,hqa2⟩:∃q,qOf b2_ x2_.N y2_.N=q:=⟨_,rfl⟩
 refine zao (e:=[x2_,y2_,x1_,y1_,z1_,w1_,x0_,y0_,z0_,w0_]) Tryz.func5 rfl Tryz.ntmps5 (zta rfl) [(0,(aP b0_ x0_ y0_ d0_ z0_ w0_)),(1,(aP b1_ x1_ y1_ d1_ z1_ w1_)),(2,(aG b2_ x2_ y2_)),(3,.slice A l.length c),(4,.int .i64 n),(5,.int .i64 m)] rfl (zaa ox2 (zaa oy2 (zaa ox1 (zaa oy1 (zaa oz1 (zaa ow1 (zaa ox0 (zaa oy0 (zaa oz0 (zaa ow0 zaz)))))))))) (fun a S=>?_)
 refine wp_seq_k fun K1 hK1=>?_
 refine zab ?_
 refine ti S (cs:=(lP b0_ x0_ y0_ d0_ z0_ w0_)) (zar rfl (S.at 0 rfl) rfl) (fun g1=>[⟨g1,53,(lP b0_ x0_ y0_ d0_ z0_ w0_)⟩]) fun g1 a V1 hgg1 S=>?_
 refine ti S (cs:=(lP b1_ x1_ y1_ d1_ z1_ w1_)) (zar rfl (S.at 2 rfl) rfl) (fun g2=>[⟨g1,53,(lP b0_ x0_ y0_ d0_ z0_ w0_)⟩,⟨g2,53,(lP b1_ x1_ y1_ d1_ z1_ w1_)⟩]) fun g2 a V2 hgg2 S=>?_
 refine ti S (cs:=(aL b2_ x2_ y2_)) (zar rfl (S.at 4 rfl) rfl) (fun g3=>[⟨g1,53,(lP b0_ x0_ y0_ d0_ z0_ w0_)⟩,⟨g2,53,(lP b1_ x1_ y1_ d1_ z1_ w1_)⟩,⟨g3,27,(aL b2_ x2_ y2_)⟩]) fun g3 a V3 hgg3 S=>?_
 refine tv S (zav rfl) fun a S=>?_
 refine hK1 _ _ ?_
 refine wp_seq_k fun K2 hK2=>?_
 refine wp_seq_k fun K3 hK3=>?_
 refine zab ?_
 refine tv S (zac rfl (S.at 3 rfl) (S.bx 0 rfl) Tryz.underlying53 rfl (vs:=(lP b0_ x0_ y0_ d0_ z0_ w0_)) zaq rfl) fun a S=>?_
 refine tv S (zac rfl (S.at 3 rfl) (S.bx 1 rfl) Tryz.underlying53 rfl (vs:=(lP b1_ x1_ y1_ d1_ z1_ w1_)) zaq rfl) fun a S=>?_
 refine ty S (F:=GP ([(b0_,x0_,y0_,d0_,z0_,w0_),(b1_,x1_,y1_,d1_,z1_,w1_)])) (zff rfl (S.at 1 rfl) (S.at 0 rfl) (S.num 6 rfl) (S.num 7 rfl) (S.num 8 rfl) (S.num 9 rfl) (S.num 2 rfl) (S.num 3 rfl) (S.num 4 rfl) (S.num 5 rfl)) fun v a V4 hF hb S=>?_
 obtain⟨ov1,hov1⟩:∃z,z=v:=⟨_,rfl⟩
 rw[←hov1]at hF S
 have rov1:=hF
 refine tc S (F:=(fun v _=>v= .bool true)) (rc1 Tryz.func45 (S.at 0 rfl)) (zc3 rov1 hG1) fun v a V5 hF hb S=>?_
 replace rov1:=rov1.keep hb
 subst hF
 refine tv S (zad rfl (S.at 0 rfl)) fun a S=>?_
 refine tk S (S.at 0 rfl) fun a S=>?_
 refine tk S (S.at 1 rfl) fun a S=>?_
 refine tv S (zau true rfl (S.at 2 rfl) rfl) fun a S=>?_
 refine tv S (zad rfl (S.at 0 rfl)) fun a S=>?_
 refine tk S (S.at 0 rfl) fun a S=>?_
 refine tk S (S.at 1 rfl) fun a S=>?_
 refine tv S (zau true rfl (S.at 2 rfl) rfl) fun a S=>?_
 refine hK3 _ _ ?_
 refine wp_cond_true (S.at 0 rfl) ?_
 refine wp_seq_k fun K4 hK4=>?_
 have S:=S.keep [12] (ls':=[(12,.bool false)]) rfl
 refine zab ?_
 refine tc S (F:=(fun v _=>v= .bool true)) (rc0 Tryz.func47) (zcU (T.keep S.below)) fun v a V6 hF hb S=>?_
 subst hF
 refine za5 S (v:= .bool true) (zan rfl (S.at 0 rfl)) rfl rfl (by decide) (ls':=[(25,.bool true)]) rfl (fun a S=>?_)
 refine hK4 _ _ ?_
 refine wp_ret ?_
 exact zaH rfl S (S.at 0 rfl) ⟨_,rfl,rfl,S.below⟩
theorem zg6 (b0_:Bool)(x0_ y0_:Num)(d0_:Bool)(z0_ w0_:Num)(b1_:Bool)(x1_ y1_:Num)(d1_:Bool)(z1_ w1_:Num)(b2_:Bool)(x2_ y2_:Num)(A:Option Addr)(c:Nat)(l:List PEl)(n m:Int){V:World}(T:TT V)(ox0:x0_.ok V V.heap.size)(oy0:y0_.ok V V.heap.size)(oz0:z0_.ok V V.heap.size)(ow0:w0_.ok V V.heap.size)(ox1:x1_.ok V V.heap.size)(oy1:y1_.ok V V.heap.size)(oz1:z1_.ok V V.heap.size)(ow1:w1_.ok V V.heap.size)(ox2:x2_.ok V V.heap.size)(oy2:y2_.ok V V.heap.size)(hR:PRds V V.heap.size A l)(hll:l.length≤100000000000000)(hlc:l.length≤c)(hcm:c≤maxLen)(hG1:zbG [(b0_,x0_,y0_,d0_,z0_,w0_),(b1_,x1_,y1_,d1_,z1_,w1_)]=false)(hG2:zbG l=true):
  Calls Tryz.prog 5 #[(aP b0_ x0_ y0_ d0_ z0_ w0_),(aP b1_ x1_ y1_ d1_ z1_ w1_),(aG b2_ x2_ y2_),.slice A l.length c,.int .i64 n,.int .i64 m] V (zai V (fun v _=>v= .bool true)):=by
 obtain⟨q0,hqa0⟩:∃q,qOf b0_ x0_.N y0_.N=q:=⟨_,rfl⟩
 obtain⟨r0,hra0⟩:∃q,qOf d0_ z0_.N w0_.N=q:=⟨_,rfl⟩
 obtain⟨q1,hqa1⟩:∃q,qOf b1_ x1_.N y1_.N=q:=⟨_,rfl⟩
 obtain⟨r1,hra1⟩:∃q,qOf d1_ z1_.N w1_.N=q:=⟨_,rfl⟩
 obtain⟨q2,hqa2⟩:∃q,qOf b2_ x2_.N y2_.N=q:=⟨_,rfl⟩
 refine zao (e:=[x2_,y2_,x1_,y1_,z1_,w1_,x0_,y0_,z0_,w0_]) Tryz.func5 rfl Tryz.ntmps5 (zta rfl) [(0,(aP b0_ x0_ y0_ d0_ z0_ w0_)),(1,(aP b1_ x1_ y1_ d1_ z1_ w1_)),(2,(aG b2_ x2_ y2_)),(3,.slice A l.length c),(4,.int .i64 n),(5,.int .i64 m)] rfl (zaa ox2 (zaa oy2 (zaa ox1 (zaa oy1 (zaa oz1 (zaa ow1 (zaa ox0 (zaa oy0 (zaa oz0 (zaa ow0 zaz)))))))))) (fun a S=>?_)
 refine wp_seq_k fun K1 hK1=>?_
 refine zab ?_
 refine ti S (cs:=(lP b0_ x0_ y0_ d0_ z0_ w0_)) (zar rfl (S.at 0 rfl) rfl) (fun g1=>[⟨g1,53,(lP b0_ x0_ y0_ d0_ z0_ w0_)⟩]) fun g1 a V1 hgg1 S=>?_
 refine ti S (cs:=(lP b1_ x1_ y1_ d1_ z1_ w1_)) (zar rfl (S.at 2 rfl) rfl) (fun g2=>[⟨g1,53,(lP b0_ x0_ y0_ d0_ z0_ w0_)⟩,⟨g2,53,(lP b1_ x1_ y1_ d1_ z1_ w1_)⟩]) fun g2 a V2 hgg2 S=>?_
 refine ti S (cs:=(aL b2_ x2_ y2_)) (zar rfl (S.at 4 rfl) rfl) (fun g3=>[⟨g1,53,(lP b0_ x0_ y0_ d0_ z0_ w0_)⟩,⟨g2,53,(lP b1_ x1_ y1_ d1_ z1_ w1_)⟩,⟨g3,27,(aL b2_ x2_ y2_)⟩]) fun g3 a V3 hgg3 S=>?_
 refine tv S (zav rfl) fun a S=>?_
 refine hK1 _ _ ?_
 refine wp_seq_k fun K2 hK2=>?_
 refine wp_seq_k fun K3 hK3=>?_
 refine zab ?_
 refine tv S (zac rfl (S.at 3 rfl) (S.bx 0 rfl) Tryz.underlying53 rfl (vs:=(lP b0_ x0_ y0_ d0_ z0_ w0_)) zaq rfl) fun a S=>?_
 refine tv S (zac rfl (S.at 3 rfl) (S.bx 1 rfl) Tryz.underlying53 rfl (vs:=(lP b1_ x1_ y1_ d1_ z1_ w1_)) zaq rfl) fun a S=>?_
 refine ty S (F:=GP ([(b0_,x0_,y0_,d0_,z0_,w0_),(b1_,x1_,y1_,d1_,z1_,w1_)])) (zff rfl (S.at 1 rfl) (S.at 0 rfl) (S.num 6 rfl) (S.num 7 rfl) (S.num 8 rfl) (S.num 9 rfl) (S.num 2 rfl) (S.num 3 rfl) (S.num 4 rfl) (S.num 5 rfl)) fun v a V4 hF hb S=>?_
 obtain⟨ov1,hov1⟩:∃z,z=v:=⟨_,rfl⟩
 rw[←hov1]at hF S
 have rov1:=hF
 refine tc S (F:=(fun v _=>v= .bool false)) (rc1 Tryz.func45 (S.at 0 rfl)) (zc3 rov1 hG1) fun v a V5 hF hb S=>?_
 replace rov1:=rov1.keep hb
 subst hF
 refine tv S (zad rfl (S.at 0 rfl)) fun a S=>?_
 refine tvg S (S.at 0 rfl) (zad rfl (S.at 12 rfl)) fun a S=>?_
 refine tcg S (S.at 1 rfl) (F:=(fun v _=>v= .bool true)) (rc1 Tryz.func45 (S.at 0 rfl)) (zc3 (ziz hR hll hlc hcm S.below) hG2) fun v a V6 hF hb S=>?_
 replace rov1:=rov1.keep hb
 subst hF
 refine tv S (zau false rfl (S.at 2 rfl) (S.at 0 rfl)) fun a S=>?_
 refine tv S (zad rfl (S.at 0 rfl)) fun a S=>?_
 refine tk S (S.at 0 rfl) fun a S=>?_
 refine tk S (S.at 1 rfl) fun a S=>?_
 refine tv S (zau true rfl (S.at 2 rfl) rfl) fun a S=>?_
 refine hK3 _ _ ?_
 refine wp_cond_true (S.at 0 rfl) ?_
 refine wp_seq_k fun K4 hK4=>?_
 have S:=S.keep [12] (ls':=[(12,.bool false)]) rfl
 refine zab ?_
 refine tc S (F:=(fun v _=>v= .bool true)) (rc0 Tryz.func47) (zcU (T.keep S.below)) fun v a V7 hF hb S=>?_
 subst hF
 refine za5 S (v:= .bool true) (zan rfl (S.at 0 rfl)) rfl rfl (by decide) (ls':=[(25,.bool true)]) rfl (fun a S=>?_)
 refine hK4 _ _ ?_
 refine wp_ret ?_
 exact zaH rfl S (S.at 0 rfl) ⟨_,rfl,rfl,S.below⟩
theorem zg7 (b0_:Bool)(x0_ y0_:Num)(d0_:Bool)(z0_ w0_:Num)(b1_:Bool)(x1_ y1_:Num)(d1_:Bool)(z1_ w1_:Num)(b2_:Bool)(x2_ y2_:Num)(A:Option Addr)(c:Nat)(l:List PEl)(n m:Int){V:World}(T:TT V)(ox0:x0_.ok V V.heap.size)(oy0:y0_.ok V V.heap.size)(oz0:z0_.ok V V.heap.size)(ow0:w0_.ok V V.heap.size)(ox1:x1_.ok V V.heap.size)(oy1:y1_.ok V V.heap.size)(oz1:z1_.ok V V.heap.size)(ow1:w1_.ok V V.heap.size)(ox2:x2_.ok V V.heap.size)(oy2:y2_.ok V V.heap.size)(hR:PRds V V.heap.size A l)(hll:l.length≤100000000000000)(hlc:l.length≤c)(hcm:c≤maxLen)(hG1:zbG [(b0_,x0_,y0_,d0_,z0_,w0_),(b1_,x1_,y1_,d1_,z1_,w1_)]=false)(hG2:zbG l=false)(hG3:decide ((6:Int)<((max x2_.n y2_.n:Nat):Int))=true):
  Calls Tryz.prog 5 #[(aP b0_ x0_ y0_ d0_ z0_ w0_),(aP b1_ x1_ y1_ d1_ z1_ w1_),(aG b2_ x2_ y2_),.slice A l.length c,.int .i64 n,.int .i64 m] V (zai V (fun v _=>v= .bool true)):=by
 obtain⟨q0,hqa0⟩:∃q,qOf b0_ x0_.N y0_.N=q:=⟨_,rfl⟩
 obtain⟨r0,hra0⟩:∃q,qOf d0_ z0_.N w0_.N=q:=⟨_,rfl⟩
 obtain⟨q1,hqa1⟩:∃q,qOf b1_ x1_.N y1_.N=q:=⟨_,rfl⟩
 obtain⟨r1,hra1⟩:∃q,qOf d1_ z1_.N w1_.N=q:=⟨_,rfl⟩
 obtain⟨q2,hqa2⟩:∃q,qOf b2_ x2_.N y2_.N=q:=⟨_,rfl⟩
 refine zao (e:=[x2_,y2_,x1_,y1_,z1_,w1_,x0_,y0_,z0_,w0_]) Tryz.func5 rfl Tryz.ntmps5 (zta rfl) [(0,(aP b0_ x0_ y0_ d0_ z0_ w0_)),(1,(aP b1_ x1_ y1_ d1_ z1_ w1_)),(2,(aG b2_ x2_ y2_)),(3,.slice A l.length c),(4,.int .i64 n),(5,.int .i64 m)] rfl (zaa ox2 (zaa oy2 (zaa ox1 (zaa oy1 (zaa oz1 (zaa ow1 (zaa ox0 (zaa oy0 (zaa oz0 (zaa ow0 zaz)))))))))) (fun a S=>?_)
 refine wp_seq_k fun K1 hK1=>?_
 refine zab ?_
 refine ti S (cs:=(lP b0_ x0_ y0_ d0_ z0_ w0_)) (zar rfl (S.at 0 rfl) rfl) (fun g1=>[⟨g1,53,(lP b0_ x0_ y0_ d0_ z0_ w0_)⟩]) fun g1 a V1 hgg1 S=>?_
 refine ti S (cs:=(lP b1_ x1_ y1_ d1_ z1_ w1_)) (zar rfl (S.at 2 rfl) rfl) (fun g2=>[⟨g1,53,(lP b0_ x0_ y0_ d0_ z0_ w0_)⟩,⟨g2,53,(lP b1_ x1_ y1_ d1_ z1_ w1_)⟩]) fun g2 a V2 hgg2 S=>?_
 refine ti S (cs:=(aL b2_ x2_ y2_)) (zar rfl (S.at 4 rfl) rfl) (fun g3=>[⟨g1,53,(lP b0_ x0_ y0_ d0_ z0_ w0_)⟩,⟨g2,53,(lP b1_ x1_ y1_ d1_ z1_ w1_)⟩,⟨g3,27,(aL b2_ x2_ y2_)⟩]) fun g3 a V3 hgg3 S=>?_
 refine tv S (zav rfl) fun a S=>?_
 refine hK1 _ _ ?_
 refine wp_seq_k fun K2 hK2=>?_
 refine wp_seq_k fun K3 hK3=>?_
 refine zab ?_
 refine tv S (zac rfl (S.at 3 rfl) (S.bx 0 rfl) Tryz.underlying53 rfl (vs:=(lP b0_ x0_ y0_ d0_ z0_ w0_)) zaq rfl) fun a S=>?_
 refine tv S (zac rfl (S.at 3 rfl) (S.bx 1 rfl) Tryz.underlying53 rfl (vs:=(lP b1_ x1_ y1_ d1_ z1_ w1_)) zaq rfl) fun a S=>?_
 refine ty S (F:=GP ([(b0_,x0_,y0_,d0_,z0_,w0_),(b1_,x1_,y1_,d1_,z1_,w1_)])) (zff rfl (S.at 1 rfl) (S.at 0 rfl) (S.num 6 rfl) (S.num 7 rfl) (S.num 8 rfl) (S.num 9 rfl) (S.num 2 rfl) (S.num 3 rfl) (S.num 4 rfl) (S.num 5 rfl)) fun v a V4 hF hb S=>?_
 obtain⟨ov1,hov1⟩:∃z,z=v:=⟨_,rfl⟩
 rw[←hov1]at hF S
 have rov1:=hF
 refine tc S (F:=(fun v _=>v= .bool false)) (rc1 Tryz.func45 (S.at 0 rfl)) (zc3 rov1 hG1) fun v a V5 hF hb S=>?_
 replace rov1:=rov1.keep hb
 subst hF
 refine tv S (zad rfl (S.at 0 rfl)) fun a S=>?_
 refine tvg S (S.at 0 rfl) (zad rfl (S.at 12 rfl)) fun a S=>?_
 refine tcg S (S.at 1 rfl) (F:=(fun v _=>v= .bool false)) (rc1 Tryz.func45 (S.at 0 rfl)) (zc3 (ziz hR hll hlc hcm S.below) hG2) fun v a V6 hF hb S=>?_
 replace rov1:=rov1.keep hb
 subst hF
 refine tv S (zau false rfl (S.at 2 rfl) (S.at 0 rfl)) fun a S=>?_
 refine tv S (zad rfl (S.at 0 rfl)) fun a S=>?_
 refine tvg S (S.at 0 rfl) (zac rfl (S.at 10 rfl) (S.bx 2 rfl) Tryz.underlying27 rfl (vs:=(aL b2_ x2_ y2_)) zag rfl) fun a S=>?_
 refine tcg S (S.at 1 rfl) (F:=(fun v _=>v= .bool true)) (rc1 Tryz.func46 (S.at 0 rfl)) (zbN (zlv (b:=b2_) (x:=x2_) (y:=y2_) (S.num 0 rfl) (S.num 1 rfl)) (fun _ _ h=>h.trans (congrArg Value.bool (show(decide ((6:Int)<((max x2_.n y2_.n:Nat):Int)))=true from hG3)))) fun v a V7 hF hb S=>?_
 replace rov1:=rov1.keep hb
 subst hF
 refine tv S (zau false rfl (S.at 2 rfl) (S.at 0 rfl)) fun a S=>?_
 refine hK3 _ _ ?_
 refine wp_cond_true (S.at 0 rfl) ?_
 refine wp_seq_k fun K4 hK4=>?_
 have S:=S.keep [12] (ls':=[(12,.bool false)]) rfl
 refine zab ?_
 refine tc S (F:=(fun v _=>v= .bool true)) (rc0 Tryz.func47) (zcU (T.keep S.below)) fun v a V8 hF hb S=>?_
 subst hF
 refine za5 S (v:= .bool true) (zan rfl (S.at 0 rfl)) rfl rfl (by decide) (ls':=[(25,.bool true)]) rfl (fun a S=>?_)
 refine hK4 _ _ ?_
 refine wp_ret ?_
 exact zaH rfl S (S.at 0 rfl) ⟨_,rfl,rfl,S.below⟩
end Go.Proofs.YtafokgknenienaaGreatDoor
