/- A part. -/
import Derived.Test.YtdeelcoipmdoiaaGreatDoorGSidG
set_option maxHeartbeats 4000000
set_option maxRecDepth 100000
namespace Go.Proofs.YtdeelcoipmdoiaaGreatDoor
open Go Go.RowKit
section
variable {A:Option Addr}{c:Nat}{l:List PEl}{V0 V:World}{v:Value}
theorem zd7 (hR:PRds V0 V0.heap.size A l)(hll:l.length≤100000000000000)(hlc:l.length≤c)(hcm:c≤maxLen)(hb:Below V0.heap.size V0 V):GP l (.slice A l.length c) V:=⟨A,c,rfl,(hR.below hb).more hb.size,hll,hlc,hcm⟩
theorem zoj (T:TT V)(h:GP l v V)(hG9:zby l=false):Calls Tryz.prog 13 #[v] V (zaj V (IRow (zck l))):=by
 obtain⟨hl,hs⟩:=zcL hG9
 have ho:=h.oks
 obtain⟨A,c,rfl,hR,-⟩:=h
 exact callsIn_wide.1 (zm2 T hR (by omega) (zeT hs) (by decide) (zmX ho hs))
theorem zl7 (h:GP l v V)(hG9:zby l=false):Calls Tryz.prog 14 #[v] V (zaj V (IRow (zck l))):=by
 obtain⟨hl,hs⟩:=zcL hG9
 have ho:=h.oks
 obtain⟨A,c,rfl,hR,-⟩:=h
 exact zr5 hR (by omega) (zeT hs) (by decide) (zmY ho hs)
theorem zok (T:TT V)(h:GP l v V)(hG9:zby l=false):Calls Tryz.prog 21 #[v] V (zaj V fun v _=>v= .bool (decide (zbQ (l.map pv)))):=by
 obtain⟨hl,hs⟩:=zcL hG9
 have ho:=h.oks
 obtain⟨A,c,rfl,hR,-⟩:=h
 exact callsIn_wide.1 (zsb T hR (by omega) (zeT hs) (by decide) (zmX ho hs))
theorem zl8 (h:GP l v V)(hG9:zby l=false):Calls Tryz.prog 22 #[v] V (zaj V fun v _=>v= .bool (decide (zbQ (l.map pv)))):=by
 obtain⟨hl,hs⟩:=zcL hG9
 have ho:=h.oks
 obtain⟨A,c,rfl,hR,-⟩:=h
 exact zr6 hR (by omega) (zeT hs) (by decide) (zmY ho hs)
end
theorem zl9 {b b' b'':Bool}{x y x' y' x'' y'':Num}(h:zc7 [(b,x,y),(b',x',y'),(b'',x'',y'')]=false):x.n+y.n+(x'.n+y'.n)+(x''.n+y''.n)≤40:=by
 have:=(zjl h).2
 simp[zkB]at this
 omega
theorem zol (b0_:Bool)(x0_ y0_:Num)(d0_:Bool)(z0_ w0_:Num)(b1_:Bool)(x1_ y1_:Num)(d1_:Bool)(z1_ w1_:Num)(b2_:Bool)(x2_ y2_:Num)(d2_:Bool)(z2_ w2_:Num)(A:Option Addr)(c:Nat)(l:List PEl)(b3_:Bool)(x3_ y3_:Num)(b4_:Bool)(x4_ y4_:Num)(b5_:Bool)(x5_ y5_:Num){V:World}(T:TT V)(ox0:x0_.ok V V.heap.size)(oy0:y0_.ok V V.heap.size)(oz0:z0_.ok V V.heap.size)(ow0:w0_.ok V V.heap.size)(ox1:x1_.ok V V.heap.size)(oy1:y1_.ok V V.heap.size)(oz1:z1_.ok V V.heap.size)(ow1:w1_.ok V V.heap.size)(ox2:x2_.ok V V.heap.size)(oy2:y2_.ok V V.heap.size)(oz2:z2_.ok V V.heap.size)(ow2:w2_.ok V V.heap.size)(ox3:x3_.ok V V.heap.size)(oy3:y3_.ok V V.heap.size)(ox4:x4_.ok V V.heap.size)(oy4:y4_.ok V V.heap.size)(ox5:x5_.ok V V.heap.size)(oy5:y5_.ok V V.heap.size)(hR:PRds V V.heap.size A l)(hll:l.length≤100000000000000)(hlc:l.length≤c)(hcm:c≤maxLen)(hG:zby [(b0_,x0_,y0_,d0_,z0_,w0_),(b1_,x1_,y1_,d1_,z1_,w1_),(b2_,x2_,y2_,d2_,z2_,w2_)]=false)(hG7:zc7 [(b3_,x3_,y3_),(b4_,x4_,y4_),(b5_,x5_,y5_)]=false)(hG9:zby l=false):
  Calls Tryz.prog 3 #[(aP b0_ x0_ y0_ d0_ z0_ w0_),(aP b1_ x1_ y1_ d1_ z1_ w1_),(aP b2_ x2_ y2_ d2_ z2_ w2_),.slice A l.length c,(aG b3_ x3_ y3_),(aG b4_ x4_ y4_),(aG b5_ x5_ y5_)] V (zaj V (fun v _=>v= .bool true)):=by
 have hsz:=zqP hG
 have hkx0:x0_.n≤80:=by omega
 have hky0:y0_.n≤80:=by omega
 have hkz0:z0_.n≤80:=by omega
 have hkw0:w0_.n≤80:=by omega
 have hkx1:x1_.n≤80:=by omega
 have hky1:y1_.n≤80:=by omega
 have hkz1:z1_.n≤80:=by omega
 have hkw1:w1_.n≤80:=by omega
 have hkx2:x2_.n≤80:=by omega
 have hky2:y2_.n≤80:=by omega
 have hkz2:z2_.n≤80:=by omega
 have hkw2:w2_.n≤80:=by omega
 have hsz7:=zl9 hG7
 have hkx3:x3_.n≤40:=by omega
 have hky3:y3_.n≤40:=by omega
 have hkx4:x4_.n≤40:=by omega
 have hky4:y4_.n≤40:=by omega
 have hkx5:x5_.n≤40:=by omega
 have hky5:y5_.n≤40:=by omega
 obtain⟨q0,hqa0⟩:∃q,qOf b0_ x0_.N y0_.N=q:=⟨_,rfl⟩
 obtain⟨r0,hra0⟩:∃q,qOf d0_ z0_.N w0_.N=q:=⟨_,rfl⟩
 obtain⟨q1,hqa1⟩:∃q,qOf b1_ x1_.N y1_.N=q:=⟨_,rfl⟩
 obtain⟨r1,hra1⟩:∃q,qOf d1_ z1_.N w1_.N=q:=⟨_,rfl⟩
 obtain⟨q2,hqa2⟩:∃q,qOf b2_ x2_.N y2_.N=q:=⟨_,rfl⟩
 obtain⟨r2,hra2⟩:∃q,qOf d2_ z2_.N w2_.N=q:=⟨_,rfl⟩
 obtain⟨q3,hqa3⟩:∃q,qOf b3_ x3_.N y3_.N=q:=⟨_,rfl⟩
 obtain⟨q4,hqa4⟩:∃q,qOf b4_ x4_.N y4_.N=q:=⟨_,rfl⟩
 obtain⟨q5,hqa5⟩:∃q,qOf b5_ x5_.N y5_.N=q:=⟨_,rfl⟩
 have m0:=smq hqa0 ox0 oy0
 have m0b:=smq hra0 oz0 ow0
 have m1:=smq hqa1 ox1 oy1
 have m1b:=smq hra1 oz1 ow1
 have m2:=smq hqa2 ox2 oy2
 have m2b:=smq hra2 oz2 ow2
 have m3:=smq hqa3 ox3 oy3
 have m4:=smq hqa4 ox4 oy4
 have m5:=smq hqa5 ox5 oy5
 have hP0:∀ {V':World},Below V.heap.size V V'→P1 80 q0 r0 ((aP b0_ x0_ y0_ d0_ z0_ w0_)) V':=fun hb=>⟨b0_,x0_,y0_,d0_,z0_,w0_,rfl,hqa0,hra0,⟨hkx0,hky0⟩,⟨hkz0,hkw0⟩,⟨ox0.later hb,oy0.later hb⟩,oz0.later hb,ow0.later hb⟩
 have hP1:∀ {V':World},Below V.heap.size V V'→P1 80 q1 r1 ((aP b1_ x1_ y1_ d1_ z1_ w1_)) V':=fun hb=>⟨b1_,x1_,y1_,d1_,z1_,w1_,rfl,hqa1,hra1,⟨hkx1,hky1⟩,⟨hkz1,hkw1⟩,⟨ox1.later hb,oy1.later hb⟩,oz1.later hb,ow1.later hb⟩
 have hP2:∀ {V':World},Below V.heap.size V V'→P1 80 q2 r2 ((aP b2_ x2_ y2_ d2_ z2_ w2_)) V':=fun hb=>⟨b2_,x2_,y2_,d2_,z2_,w2_,rfl,hqa2,hra2,⟨hkx2,hky2⟩,⟨hkz2,hkw2⟩,⟨ox2.later hb,oy2.later hb⟩,oz2.later hb,ow2.later hb⟩
 have hP3:∀ {V':World},Below V.heap.size V V'→Q1 40 q3 ((aG b3_ x3_ y3_)) V':=fun hb=>⟨b3_,x3_,y3_,rfl,hqa3,hkx3,hky3,ox3.later hb,oy3.later hb⟩
 have hP4:∀ {V':World},Below V.heap.size V V'→Q1 40 q4 ((aG b4_ x4_ y4_)) V':=fun hb=>⟨b4_,x4_,y4_,rfl,hqa4,hkx4,hky4,ox4.later hb,oy4.later hb⟩
 have hP5:∀ {V':World},Below V.heap.size V V'→Q1 40 q5 ((aG b5_ x5_ y5_)) V':=fun hb=>⟨b5_,x5_,y5_,rfl,hqa5,hkx5,hky5,ox5.later hb,oy5.later hb⟩
 have d01:Sm 250 (q1 - q0):=(m1.sub m0).mono (by omega)
 have d01b:Sm 250 (r1 - r0):=(m1b.sub m0b).mono (by omega)
 have d02:Sm 250 (q2 - q0):=(m2.sub m0).mono (by omega)
 have d02b:Sm 250 (r2 - r0):=(m2b.sub m0b).mono (by omega)
 have hS1:SmS q0 r0 q1 r1 q2 r2:=zmb m0 m0b m1 m1b m2 m2b (by omega)
 have hS2:SmS q0 r0 q2 r2 q1 r1:=zmb m0 m0b m2 m2b m1 m1b (by omega)
 refine fb Tryz.func3 Tryz.ntmps3 (zaa ox5 (zaa oy5 (zaa ox4 (zaa oy4 (zaa ox3 (zaa oy3 (zaa ox2 (zaa oy2 (zaa oz2 (zaa ow2 (zaa ox1 (zaa oy1 (zaa oz1 (zaa ow1 (zaa ox0 (zaa oy0 (zaa oz0 (zaa ow0 zaC)))))))))))))))))) (fun a S=>?_)
 refine wsp fun K1 hK1=>?_
 refine tb S 0 (lP b0_ x0_ y0_ d0_ z0_ w0_) fun g1 a V1 hgg1 S=>?_
 refine tb S 2 (lP b1_ x1_ y1_ d1_ z1_ w1_) fun g2 a V2 hgg2 S=>?_
 refine tb S 4 (lP b2_ x2_ y2_ d2_ z2_ w2_) fun g3 a V3 hgg3 S=>?_
 refine tb S 7 (aL b3_ x3_ y3_) fun g4 a V4 hgg4 S=>?_
 refine tb S 9 (aL b4_ x4_ y4_) fun g5 a V5 hgg5 S=>?_
 refine tb S 11 (aL b5_ x5_ y5_) fun g6 a V6 hgg6 S=>?_
 refine ac S fun a S=>?_
 refine hK1 _ _ ?_
 refine wp_seq_k fun K2 hK2=>?_
 refine wsp fun K3 hK3=>?_
 refine lp S 6 0 fun a S=>?_
 refine lp S 6 1 fun a S=>?_
 refine lp S 6 2 fun a S=>?_
 refine ty S (F:=GP ([(b0_,x0_,y0_,d0_,z0_,w0_),(b1_,x1_,y1_,d1_,z1_,w1_),(b2_,x2_,y2_,d2_,z2_,w2_)])) (zeD rfl (S.at 2 rfl) (S.at 1 rfl) (S.at 0 rfl) (S.num 14 rfl) (S.num 15 rfl) (S.num 16 rfl) (S.num 17 rfl) (S.num 10 rfl) (S.num 11 rfl) (S.num 12 rfl) (S.num 13 rfl) (S.num 6 rfl) (S.num 7 rfl) (S.num 8 rfl) (S.num 9 rfl)) fun v a V7 hF hb S=>?_
 obtain⟨ov1,hov1⟩:∃z,z=v:=⟨_,rfl⟩
 rw[←hov1]at hF S
 have rov1:=hF
 refine tc S (rc1 Tryz.func7 (S.at 0 rfl)) (zdq rov1 hG) fun v a V8 hF hb S=>?_
 replace rov1:=rov1.keep hb
 subst hF
 refine mv S 0 fun a S=>?_
 refine tvg S (S.at 0 rfl) (zab rfl (S.at 16 rfl)) fun a S=>?_
 refine tcg S (S.at 1 rfl) (rc1 Tryz.func7 (S.at 0 rfl)) (zdq (zd7 hR hll hlc hcm S.below) hG9) fun v a V9 hF hb S=>?_
 replace rov1:=rov1.keep hb
 subst hF
 refine tv S (zap false rfl (S.at 2 rfl) (S.at 0 rfl)) fun a S=>?_
 refine mv S 0 fun a S=>?_
 refine tvg S (S.at 0 rfl) (zaX rfl (S.at 13 rfl) (S.bx 3 rfl) rfl) fun a S=>?_
 refine tvg S (S.at 1 rfl) (zaX rfl (S.at 13 rfl) (S.bx 4 rfl) rfl) fun a S=>?_
 refine tvg S (S.at 2 rfl) (zaX rfl (S.at 13 rfl) (S.bx 5 rfl) rfl) fun a S=>?_
 refine tyg S (S.at 3 rfl) (F:=GL ([(b3_,x3_,y3_),(b4_,x4_,y4_),(b5_,x5_,y5_)])) (zkI rfl (S.at 2 rfl) (S.at 1 rfl) (S.at 0 rfl) (S.num 4 rfl) (S.num 5 rfl) (S.num 2 rfl) (S.num 3 rfl) (S.num 0 rfl) (S.num 1 rfl)) fun v a V10 hF hb S=>?_
 replace rov1:=rov1.keep hb
 obtain⟨ov2,hov2⟩:∃z,z=v:=⟨_,rfl⟩
 rw[←hov2]at hF S
 have rov2:=hF
 refine tcg S (S.at 4 rfl) (rc1 Tryz.func8 (S.at 0 rfl)) (zmP rov2 hG7) fun v a V11 hF hb S=>?_
 replace rov2:=rov2.keep hb
 replace rov1:=rov1.keep hb
 subst hF
 refine tv S (zap false rfl (S.at 5 rfl) (S.at 0 rfl)) fun a S=>?_
 refine hK3 _ _ ?_
 refine wp_cond_false (S.at 0 rfl) ?_
 refine wp_skip ?_
 refine hK2 _ _ ?_
 refine wp_seq_k fun K4 hK4=>?_
 refine wp_seq_k fun K5 hK5=>?_
 have S:=S.keep [13,12,11,9,8,7,3] (ls':=[(13,pT g6 0),(12,pT g5 0),(11,pT g4 0),(9,pT g3 0),(8,pT g2 0),(7,pT g1 0),(3,.slice A l.length c)]) rfl
 obtain⟨W1,hW1⟩:∃W,W=V11:=⟨_,rfl⟩
 rw[←hW1]at S ⊢
 have S0:=S
 refine fr 39 [32,33,34,35,36,37,38,39,40,41,42,43,44,45,46,47,48,49,50,51,52,53,54,55,56,57,58,59,60,61,62,63,64,65,66,67,68,69,70] [IsV ((aP b0_ x0_ y0_ d0_ z0_ w0_)),IsV ((aP b1_ x1_ y1_ d1_ z1_ w1_)),IsV ((aP b2_ x2_ y2_ d2_ z2_ w2_)),IsV (.int .i64 (zag (crs q0 r0 q1 r1 q2 r2) 0)),IsV ((aP b0_ x0_ y0_ d0_ z0_ w0_)),IsV ((aP b1_ x1_ y1_ d1_ z1_ w1_)),IsV ((aP b2_ x2_ y2_ d2_ z2_ w2_)),IsV (.int .i64 (zag (crs q0 r0 q1 r1 q2 r2) 0)),IsV (.bool false),IsV (.bool false),IsV (.slice A l.length c),IRow (zck l),IsV (.slice A l.length c),IRow (zck l),IsV (.bool true),IsV (.bool false),IsV (.bool false),IsV (.bool false),IsV ((aP b0_ x0_ y0_ d0_ z0_ w0_)),IsV ((aP b1_ x1_ y1_ d1_ z1_ w1_)),IsV ((aP b2_ x2_ y2_ d2_ z2_ w2_)),IsV (.bool (onR q0 r0 q1 r1 q2 r2)),IsV ((aP b0_ x0_ y0_ d0_ z0_ w0_)),IsV ((aP b1_ x1_ y1_ d1_ z1_ w1_)),IsV ((aP b2_ x2_ y2_ d2_ z2_ w2_)),IsV (.bool (onR q0 r0 q1 r1 q2 r2)),IsV (.bool false),IsV (.bool false),IsV (.bool false),IsV ((aP b0_ x0_ y0_ d0_ z0_ w0_)),IsV ((aP b1_ x1_ y1_ d1_ z1_ w1_)),IsV ((aP b2_ x2_ y2_ d2_ z2_ w2_)),IsV (.bool (zbO q0 r0 q1 r1 q2 r2)),IsV ((aP b0_ x0_ y0_ d0_ z0_ w0_)),IsV ((aP b1_ x1_ y1_ d1_ z1_ w1_)),IsV ((aP b2_ x2_ y2_ d2_ z2_ w2_)),IsV (.bool (zbO q0 r0 q1 r1 q2 r2)),IsV (.bool false),IsV (.bool false)] S ?_ ?_
 ·refine sc (fun _ _ S _ _=>sv rfl (za9 rfl (S.at 5 rfl) (S.bx 0 rfl) rfl)) ?_
  refine sc (fun _ _ S _ _=>sv rfl (za9 rfl (S.at 4 rfl) (S.bx 1 rfl) rfl)) ?_
  refine sc (fun _ _ S _ _=>sv rfl (za9 rfl (S.at 3 rfl) (S.bx 2 rfl) rfl)) ?_
  refine sc (fun _ _ S _ hd=>sl rfl (rc3 Tryz.func10 (hd.v 0 rfl rfl) (hd.v 1 rfl rfl) (hd.v 2 rfl rfl)) (zdG (T.keep S.below) (hP0 S.below) (hP1 S.below) (hP2 S.below) (by omega) (by omega) (by omega) (by assumption) (by assumption) (by assumption) (by assumption))) ?_
  refine sc (fun _ _ S _ _=>sv rfl (za9 rfl (S.at 5 rfl) (S.bx 0 rfl) rfl)) ?_
  refine sc (fun _ _ S _ _=>sv rfl (za9 rfl (S.at 4 rfl) (S.bx 1 rfl) rfl)) ?_
  refine sc (fun _ _ S _ _=>sv rfl (za9 rfl (S.at 3 rfl) (S.bx 2 rfl) rfl)) ?_
  refine sc (fun _ _ S _ hd=>sl rfl (rc3 Tryz.func11 (hd.v 4 rfl rfl) (hd.v 5 rfl rfl) (hd.v 6 rfl rfl)) (zf9 (((hP0 S.below)).to rfl rfl (by decide)) (((hP1 S.below)).to rfl rfl (by decide)) (((hP2 S.below)).to rfl rfl (by decide)) (by assumption))) ?_
  refine sc (fun _ _ _ _ hd=>sv rfl (zaN (zd6 _ (by decide) rfl (hd.v 3 rfl rfl) (hd.v 7 rfl rfl)) (show(!decide (zag (crs q0 r0 q1 r1 q2 r2) 0=zag (crs q0 r0 q1 r1 q2 r2) 0))=false from(by simp)))) ?_
  refine sc (fun _ _ _ _ hd=>sv rfl (zab rfl (hd.v 8 rfl rfl))) ?_
  refine sc (fun _ _ S _ hd=>svg rfl (hd.v 9 rfl rfl) (zab rfl (S.at 6 rfl))) ?_
  refine sc (fun _ _ S _ hd=>slg rfl (hd.v 9 rfl rfl) (rc1 Tryz.func13 (hd.v 10 rfl rfl)) (zoj (T.keep S.below) (zd7 hR hll hlc hcm S.below) hG9)) ?_
  refine sc (fun _ _ S _ hd=>svg rfl (hd.v 9 rfl rfl) (zab rfl (S.at 6 rfl))) ?_
  refine sc (fun _ _ S _ hd=>slg rfl (hd.v 9 rfl rfl) (rc1 Tryz.func14 (hd.v 12 rfl rfl)) (zl7 (zd7 hR hll hlc hcm S.below) hG9)) ?_
  refine sc (fun _ _ _ _ hd=>slg rfl (hd.v 9 rfl rfl) (rc2 Tryz.func12 rfl rfl) (ztI (hd.r 11 rfl rfl) (hd.r 13 rfl rfl))) ?_
  refine sc (fun _ _ _ _ hd=>svg rfl (hd.v 9 rfl rfl) (zcz (b:=true) rfl (hd.v 14 rfl rfl))) ?_
  refine sc (fun _ _ _ _ hd=>sv rfl (zap false rfl (hd.v 9 rfl rfl) (hd.v 15 rfl rfl))) ?_
  refine sc (fun _ _ _ _ hd=>sv rfl (zab rfl (hd.v 16 rfl rfl))) ?_
  refine sc (fun _ _ S _ hd=>svg rfl (hd.v 17 rfl rfl) (za9 rfl (S.at 5 rfl) (S.bx 0 rfl) rfl)) ?_
  refine sc (fun _ _ S _ hd=>svg rfl (hd.v 17 rfl rfl) (za9 rfl (S.at 4 rfl) (S.bx 1 rfl) rfl)) ?_
  refine sc (fun _ _ S _ hd=>svg rfl (hd.v 17 rfl rfl) (za9 rfl (S.at 3 rfl) (S.bx 2 rfl) rfl)) ?_
  refine sc (fun _ _ S _ hd=>slg rfl (hd.v 17 rfl rfl) (rc3 Tryz.func15 (hd.v 18 rfl rfl) (hd.v 19 rfl rfl) (hd.v 20 rfl rfl)) (zuy (T.keep S.below) (hP0 S.below) (hP1 S.below) (hP2 S.below) (by omega) (by omega) (by omega) (by assumption) (by assumption) (by assumption) (by assumption))) ?_
  refine sc (fun _ _ S _ hd=>svg rfl (hd.v 17 rfl rfl) (za9 rfl (S.at 5 rfl) (S.bx 0 rfl) rfl)) ?_
  refine sc (fun _ _ S _ hd=>svg rfl (hd.v 17 rfl rfl) (za9 rfl (S.at 4 rfl) (S.bx 1 rfl) rfl)) ?_
  refine sc (fun _ _ S _ hd=>svg rfl (hd.v 17 rfl rfl) (za9 rfl (S.at 3 rfl) (S.bx 2 rfl) rfl)) ?_
  refine sc (fun _ _ S _ hd=>slg rfl (hd.v 17 rfl rfl) (rc3 Tryz.func16 (hd.v 22 rfl rfl) (hd.v 23 rfl rfl) (hd.v 24 rfl rfl)) (zow (((hP0 S.below)).to rfl rfl (by decide)) (((hP1 S.below)).to rfl rfl (by decide)) (((hP2 S.below)).to rfl rfl (by decide)) (by assumption))) ?_
  refine sc (fun _ _ _ _ hd=>svg rfl (hd.v 17 rfl rfl) (zaN (zjn rfl (hd.v 21 rfl rfl) (hd.v 25 rfl rfl)) (show((onR q0 r0 q1 r1 q2 r2) != (onR q0 r0 q1 r1 q2 r2))=false from(by simp)))) ?_
  refine sc (fun _ _ _ _ hd=>sv rfl (zap false rfl (hd.v 17 rfl rfl) (hd.v 26 rfl rfl))) ?_
  refine sc (fun _ _ _ _ hd=>sv rfl (zab rfl (hd.v 27 rfl rfl))) ?_
  refine sc (fun _ _ S _ hd=>svg rfl (hd.v 28 rfl rfl) (za9 rfl (S.at 5 rfl) (S.bx 0 rfl) rfl)) ?_
  refine sc (fun _ _ S _ hd=>svg rfl (hd.v 28 rfl rfl) (za9 rfl (S.at 4 rfl) (S.bx 1 rfl) rfl)) ?_
  refine sc (fun _ _ S _ hd=>svg rfl (hd.v 28 rfl rfl) (za9 rfl (S.at 3 rfl) (S.bx 2 rfl) rfl)) ?_
  refine sc (fun _ _ S _ hd=>slg rfl (hd.v 28 rfl rfl) (rc3 Tryz.func17 (hd.v 29 rfl rfl) (hd.v 30 rfl rfl) (hd.v 31 rfl rfl)) (zhz (T.keep S.below) (hP0 S.below) (hP1 S.below) (hP2 S.below) (by omega) (by omega) (by omega) (by assumption) (by assumption) (by assumption) (by assumption))) ?_
  refine sc (fun _ _ S _ hd=>svg rfl (hd.v 28 rfl rfl) (za9 rfl (S.at 5 rfl) (S.bx 0 rfl) rfl)) ?_
  refine sc (fun _ _ S _ hd=>svg rfl (hd.v 28 rfl rfl) (za9 rfl (S.at 4 rfl) (S.bx 1 rfl) rfl)) ?_
  refine sc (fun _ _ S _ hd=>svg rfl (hd.v 28 rfl rfl) (za9 rfl (S.at 3 rfl) (S.bx 2 rfl) rfl)) ?_
  refine sc (fun _ _ S _ hd=>slg rfl (hd.v 28 rfl rfl) (rc3 Tryz.func18 (hd.v 33 rfl rfl) (hd.v 34 rfl rfl) (hd.v 35 rfl rfl)) (zqJ (((hP0 S.below)).to rfl rfl (by decide)) (((hP1 S.below)).to rfl rfl (by decide)) (((hP2 S.below)).to rfl rfl (by decide)) (by assumption))) ?_
  refine sc (fun _ _ _ _ hd=>svg rfl (hd.v 28 rfl rfl) (zaN (zjn rfl (hd.v 32 rfl rfl) (hd.v 36 rfl rfl)) (show((zbO q0 r0 q1 r1 q2 r2) != (zbO q0 r0 q1 r1 q2 r2))=false from(by simp)))) ?_
  refine sc (fun _ _ _ _ hd=>sv rfl (zap false rfl (hd.v 28 rfl rfl) (hd.v 37 rfl rfl))) ?_
  exact sn
 ·intro a1 V12 S hB hf
  have S:=S.add (hf.v 38 rfl rfl)
  clear hf S0
  show wpList _ _ _ [] _ _
  refine hK5 _ _ ?_
  refine wp_cond_false (S.at 0 rfl) ?_
  refine wp_skip ?_
  refine hK4 _ _ ?_
  refine wp_seq_k fun K6 hK6=>?_
  rcases zva (decide (8<((l.length:Nat):Int)))with hs8_|hs8_
  ·skip
   obtain⟨W2,hW2⟩:∃W,W=V12:=⟨_,rfl⟩
   rw[←hW2]at S ⊢
   have S0:=S
   refine fr 35 [71,72,73,74,75,76,77,78,79,80,81,82,83,84,85,86,87,88,89,90,91,92,93,94,95,96,97,98,99,100,101,102,103,104,105] [IsV ((aP b0_ x0_ y0_ d0_ z0_ w0_)),IsV ((aP b1_ x1_ y1_ d1_ z1_ w1_)),IsV ((aP b2_ x2_ y2_ d2_ z2_ w2_)),IsV (.bool (za3 q0 r0 q1 r1 q2 r2)),IsV ((aP b0_ x0_ y0_ d0_ z0_ w0_)),IsV ((aP b1_ x1_ y1_ d1_ z1_ w1_)),IsV ((aP b2_ x2_ y2_ d2_ z2_ w2_)),IsV (.bool (za3 q0 r0 q1 r1 q2 r2)),IsV (.bool true),IsV (.bool true),IsV (.slice A l.length c),IsV (.int .i64 (((l.length:Nat):Int))),IsV (.bool true),IsV (.bool true),IsV (undef),IsV (undef),IsV (undef),IsV (undef),IsV (undef),IsV (.bool true),IsV (.bool true),IsV (.bool true),IsV ((aG b3_ x3_ y3_)),IsV ((aG b4_ x4_ y4_)),IsV ((aG b5_ x5_ y5_)),IsV (.bool (zaY q3 q4 q5)),IsV ((aG b3_ x3_ y3_)),IsV ((aG b4_ x4_ y4_)),IsV ((aG b5_ x5_ y5_)),IsV (.bool (zaY q3 q4 q5)),IsV (.bool true),IsV (.bool true),IsV (.bool true),IsV (.bool true),IsV (.bool true)] S ?_ ?_
   ·refine sc (fun _ _ S _ _=>sv rfl (za9 rfl (S.at 6 rfl) (S.bx 0 rfl) rfl)) ?_
    refine sc (fun _ _ S _ _=>sv rfl (za9 rfl (S.at 5 rfl) (S.bx 1 rfl) rfl)) ?_
    refine sc (fun _ _ S _ _=>sv rfl (za9 rfl (S.at 4 rfl) (S.bx 2 rfl) rfl)) ?_
    refine sc (fun _ _ S _ hd=>sl rfl (rc3 Tryz.func19 (hd.v 0 rfl rfl) (hd.v 1 rfl rfl) (hd.v 2 rfl rfl)) (zfl (T.keep S.below) (hP0 S.below) (hP1 S.below) (hP2 S.below) (by omega) (by omega) (by omega) (by assumption) (by assumption) (by assumption) (by assumption))) ?_
    refine sc (fun _ _ S _ _=>sv rfl (za9 rfl (S.at 6 rfl) (S.bx 0 rfl) rfl)) ?_
    refine sc (fun _ _ S _ _=>sv rfl (za9 rfl (S.at 5 rfl) (S.bx 1 rfl) rfl)) ?_
    refine sc (fun _ _ S _ _=>sv rfl (za9 rfl (S.at 4 rfl) (S.bx 2 rfl) rfl)) ?_
    refine sc (fun _ _ S _ hd=>sl rfl (rc3 Tryz.func20 (hd.v 4 rfl rfl) (hd.v 5 rfl rfl) (hd.v 6 rfl rfl)) (zhB (((hP0 S.below)).to rfl rfl (by decide)) (((hP1 S.below)).to rfl rfl (by decide)) (((hP2 S.below)).to rfl rfl (by decide)) (by assumption))) ?_
    refine sc (fun _ _ _ _ hd=>sv rfl (zaN (zfH rfl (hd.v 3 rfl rfl) (hd.v 7 rfl rfl)) (show((za3 q0 r0 q1 r1 q2 r2)==(za3 q0 r0 q1 r1 q2 r2))=true from(by simp)))) ?_
    refine sc (fun _ _ _ _ hd=>sv rfl (zab rfl (hd.v 8 rfl rfl))) ?_
    refine sc (fun _ _ S _ hd=>svg rfl (hd.v 9 rfl rfl) (zab rfl (S.at 7 rfl))) ?_
    refine sc (fun _ _ _ _ hd=>svg rfl (hd.v 9 rfl rfl) (zbf rfl (hd.v 10 rfl rfl))) ?_
    refine sc (fun _ _ _ _ hd=>svg rfl (hd.v 9 rfl rfl) (zaN (c:=true) (zb8 rfl (hd.v 11 rfl rfl) rfl) hs8_)) ?_
    refine sc (fun _ _ _ _ hd=>svg rfl (hd.v 9 rfl rfl) (zab rfl (hd.v 12 rfl rfl))) ?_
    refine sc (fun _ _ _ _ hd=>sk rfl (hd.v 13 rfl rfl)) ?_
    refine sc (fun _ _ _ _ hd=>sk rfl (hd.v 13 rfl rfl)) ?_
    refine sc (fun _ _ _ _ hd=>sk rfl (hd.v 13 rfl rfl)) ?_
    refine sc (fun _ _ _ _ hd=>sk rfl (hd.v 13 rfl rfl)) ?_
    refine sc (fun _ _ _ _ hd=>sk rfl (hd.v 13 rfl rfl)) ?_
    refine sc (fun _ _ _ _ hd=>svg rfl (hd.v 9 rfl rfl) (zap true rfl (hd.v 13 rfl rfl) rfl)) ?_
    refine sc (fun _ _ _ _ hd=>sv rfl (zap true rfl (hd.v 9 rfl rfl) (hd.v 19 rfl rfl))) ?_
    refine sc (fun _ _ _ _ hd=>sv rfl (zab rfl (hd.v 20 rfl rfl))) ?_
    refine sc (fun _ _ S _ hd=>svg rfl (hd.v 21 rfl rfl) (zaX rfl (S.at 3 rfl) (S.bx 3 rfl) rfl)) ?_
    refine sc (fun _ _ S _ hd=>svg rfl (hd.v 21 rfl rfl) (zaX rfl (S.at 2 rfl) (S.bx 4 rfl) rfl)) ?_
    refine sc (fun _ _ S _ hd=>svg rfl (hd.v 21 rfl rfl) (zaX rfl (S.at 1 rfl) (S.bx 5 rfl) rfl)) ?_
    refine sc (fun _ _ S _ hd=>slg rfl (hd.v 21 rfl rfl) (rc3 Tryz.func23 (hd.v 22 rfl rfl) (hd.v 23 rfl rfl) (hd.v 24 rfl rfl)) (ziy (T.keep S.below) (hP3 S.below) (hP4 S.below) (hP5 S.below) (by omega) (by omega) (by omega))) ?_
    refine sc (fun _ _ S _ hd=>svg rfl (hd.v 21 rfl rfl) (zaX rfl (S.at 3 rfl) (S.bx 3 rfl) rfl)) ?_
    refine sc (fun _ _ S _ hd=>svg rfl (hd.v 21 rfl rfl) (zaX rfl (S.at 2 rfl) (S.bx 4 rfl) rfl)) ?_
    refine sc (fun _ _ S _ hd=>svg rfl (hd.v 21 rfl rfl) (zaX rfl (S.at 1 rfl) (S.bx 5 rfl) rfl)) ?_
    refine sc (fun _ _ S _ hd=>slg rfl (hd.v 21 rfl rfl) (rc3 Tryz.func24 (hd.v 26 rfl rfl) (hd.v 27 rfl rfl) (hd.v 28 rfl rfl)) (zdU (((hP3 S.below)).to rfl (by decide)) (((hP4 S.below)).to rfl (by decide)) (((hP5 S.below)).to rfl (by decide)))) ?_
    refine sc (fun _ _ _ _ hd=>svg rfl (hd.v 21 rfl rfl) (zaN (zfH rfl (hd.v 25 rfl rfl) (hd.v 29 rfl rfl)) (show((zaY q3 q4 q5)==(zaY q3 q4 q5))=true from(by simp)))) ?_
    refine sc (fun _ _ _ _ hd=>sv rfl (zap true rfl (hd.v 21 rfl rfl) (hd.v 30 rfl rfl))) ?_
    refine sc (fun _ _ _ _ hd=>sv rfl (zab rfl (hd.v 31 rfl rfl))) ?_
    refine sc (fun _ _ S _ hd=>slg rfl (hd.v 32 rfl rfl) (rc0 Tryz.func9) (zfK (T.keep S.below))) ?_
    refine sc (fun _ _ _ _ hd=>sv rfl (zap true rfl (hd.v 32 rfl rfl) (hd.v 33 rfl rfl))) ?_
    exact sn
   ·intro a2 V13 S hB hf
    have S:=S.add (hf.v 34 rfl rfl)
    clear hf S0
    show wpList _ _ _ [_] _ _
    refine tv S (zac rfl (S.at 0 rfl)) fun a S=>?_
    refine hK6 _ _ ?_
    refine wp_ret ?_
    exact zao rfl S (S.at 0 rfl) ⟨_,rfl,rfl,S.below⟩
  ·skip
   obtain⟨W3,hW3⟩:∃W,W=V12:=⟨_,rfl⟩
   rw[←hW3]at S ⊢
   have S0:=S
   refine fr 35 [71,72,73,74,75,76,77,78,79,80,81,82,83,84,85,86,87,88,89,90,91,92,93,94,95,96,97,98,99,100,101,102,103,104,105] [IsV ((aP b0_ x0_ y0_ d0_ z0_ w0_)),IsV ((aP b1_ x1_ y1_ d1_ z1_ w1_)),IsV ((aP b2_ x2_ y2_ d2_ z2_ w2_)),IsV (.bool (za3 q0 r0 q1 r1 q2 r2)),IsV ((aP b0_ x0_ y0_ d0_ z0_ w0_)),IsV ((aP b1_ x1_ y1_ d1_ z1_ w1_)),IsV ((aP b2_ x2_ y2_ d2_ z2_ w2_)),IsV (.bool (za3 q0 r0 q1 r1 q2 r2)),IsV (.bool true),IsV (.bool true),IsV (.slice A l.length c),IsV (.int .i64 (((l.length:Nat):Int))),IsV (.bool false),IsV (.bool false),IsV (.slice A l.length c),IsV (.bool (decide (zbQ (l.map pv)))),IsV (.slice A l.length c),IsV (.bool (decide (zbQ (l.map pv)))),IsV (.bool true),IsV (.bool true),IsV (.bool true),IsV (.bool true),IsV ((aG b3_ x3_ y3_)),IsV ((aG b4_ x4_ y4_)),IsV ((aG b5_ x5_ y5_)),IsV (.bool (zaY q3 q4 q5)),IsV ((aG b3_ x3_ y3_)),IsV ((aG b4_ x4_ y4_)),IsV ((aG b5_ x5_ y5_)),IsV (.bool (zaY q3 q4 q5)),IsV (.bool true),IsV (.bool true),IsV (.bool true),IsV (.bool true),IsV (.bool true)] S ?_ ?_
   ·refine sc (fun _ _ S _ _=>sv rfl (za9 rfl (S.at 6 rfl) (S.bx 0 rfl) rfl)) ?_
    refine sc (fun _ _ S _ _=>sv rfl (za9 rfl (S.at 5 rfl) (S.bx 1 rfl) rfl)) ?_
    refine sc (fun _ _ S _ _=>sv rfl (za9 rfl (S.at 4 rfl) (S.bx 2 rfl) rfl)) ?_
    refine sc (fun _ _ S _ hd=>sl rfl (rc3 Tryz.func19 (hd.v 0 rfl rfl) (hd.v 1 rfl rfl) (hd.v 2 rfl rfl)) (zfl (T.keep S.below) (hP0 S.below) (hP1 S.below) (hP2 S.below) (by omega) (by omega) (by omega) (by assumption) (by assumption) (by assumption) (by assumption))) ?_
    refine sc (fun _ _ S _ _=>sv rfl (za9 rfl (S.at 6 rfl) (S.bx 0 rfl) rfl)) ?_
    refine sc (fun _ _ S _ _=>sv rfl (za9 rfl (S.at 5 rfl) (S.bx 1 rfl) rfl)) ?_
    refine sc (fun _ _ S _ _=>sv rfl (za9 rfl (S.at 4 rfl) (S.bx 2 rfl) rfl)) ?_
    refine sc (fun _ _ S _ hd=>sl rfl (rc3 Tryz.func20 (hd.v 4 rfl rfl) (hd.v 5 rfl rfl) (hd.v 6 rfl rfl)) (zhB (((hP0 S.below)).to rfl rfl (by decide)) (((hP1 S.below)).to rfl rfl (by decide)) (((hP2 S.below)).to rfl rfl (by decide)) (by assumption))) ?_
    refine sc (fun _ _ _ _ hd=>sv rfl (zaN (zfH rfl (hd.v 3 rfl rfl) (hd.v 7 rfl rfl)) (show((za3 q0 r0 q1 r1 q2 r2)==(za3 q0 r0 q1 r1 q2 r2))=true from(by simp)))) ?_
    refine sc (fun _ _ _ _ hd=>sv rfl (zab rfl (hd.v 8 rfl rfl))) ?_
    refine sc (fun _ _ S _ hd=>svg rfl (hd.v 9 rfl rfl) (zab rfl (S.at 7 rfl))) ?_
    refine sc (fun _ _ _ _ hd=>svg rfl (hd.v 9 rfl rfl) (zbf rfl (hd.v 10 rfl rfl))) ?_
    refine sc (fun _ _ _ _ hd=>svg rfl (hd.v 9 rfl rfl) (zaN (c:=false) (zb8 rfl (hd.v 11 rfl rfl) rfl) hs8_)) ?_
    refine sc (fun _ _ _ _ hd=>svg rfl (hd.v 9 rfl rfl) (zab rfl (hd.v 12 rfl rfl))) ?_
    refine sc (fun _ _ S _ hd=>svg rfl (hd.v 13 rfl rfl) (zab rfl (S.at 7 rfl))) ?_
    refine sc (fun _ _ S _ hd=>slg rfl (hd.v 13 rfl rfl) (rc1 Tryz.func21 (hd.v 14 rfl rfl)) (zok (T.keep S.below) (zd7 hR hll hlc hcm S.below) hG9)) ?_
    refine sc (fun _ _ S _ hd=>svg rfl (hd.v 13 rfl rfl) (zab rfl (S.at 7 rfl))) ?_
    refine sc (fun _ _ S _ hd=>slg rfl (hd.v 13 rfl rfl) (rc1 Tryz.func22 (hd.v 16 rfl rfl)) (zl8 (zd7 hR hll hlc hcm S.below) hG9)) ?_
    refine sc (fun _ _ _ _ hd=>svg rfl (hd.v 13 rfl rfl) (zaN (zfH rfl (hd.v 15 rfl rfl) (hd.v 17 rfl rfl)) (show((decide (zbQ (l.map pv)))==(decide (zbQ (l.map pv))))=true from(by simp)))) ?_
    refine sc (fun _ _ _ _ hd=>svg rfl (hd.v 9 rfl rfl) (zap false rfl (hd.v 13 rfl rfl) (hd.v 18 rfl rfl))) ?_
    refine sc (fun _ _ _ _ hd=>sv rfl (zap true rfl (hd.v 9 rfl rfl) (hd.v 19 rfl rfl))) ?_
    refine sc (fun _ _ _ _ hd=>sv rfl (zab rfl (hd.v 20 rfl rfl))) ?_
    refine sc (fun _ _ S _ hd=>svg rfl (hd.v 21 rfl rfl) (zaX rfl (S.at 3 rfl) (S.bx 3 rfl) rfl)) ?_
    refine sc (fun _ _ S _ hd=>svg rfl (hd.v 21 rfl rfl) (zaX rfl (S.at 2 rfl) (S.bx 4 rfl) rfl)) ?_
    refine sc (fun _ _ S _ hd=>svg rfl (hd.v 21 rfl rfl) (zaX rfl (S.at 1 rfl) (S.bx 5 rfl) rfl)) ?_
    refine sc (fun _ _ S _ hd=>slg rfl (hd.v 21 rfl rfl) (rc3 Tryz.func23 (hd.v 22 rfl rfl) (hd.v 23 rfl rfl) (hd.v 24 rfl rfl)) (ziy (T.keep S.below) (hP3 S.below) (hP4 S.below) (hP5 S.below) (by omega) (by omega) (by omega))) ?_
    refine sc (fun _ _ S _ hd=>svg rfl (hd.v 21 rfl rfl) (zaX rfl (S.at 3 rfl) (S.bx 3 rfl) rfl)) ?_
    refine sc (fun _ _ S _ hd=>svg rfl (hd.v 21 rfl rfl) (zaX rfl (S.at 2 rfl) (S.bx 4 rfl) rfl)) ?_
    refine sc (fun _ _ S _ hd=>svg rfl (hd.v 21 rfl rfl) (zaX rfl (S.at 1 rfl) (S.bx 5 rfl) rfl)) ?_
    refine sc (fun _ _ S _ hd=>slg rfl (hd.v 21 rfl rfl) (rc3 Tryz.func24 (hd.v 26 rfl rfl) (hd.v 27 rfl rfl) (hd.v 28 rfl rfl)) (zdU (((hP3 S.below)).to rfl (by decide)) (((hP4 S.below)).to rfl (by decide)) (((hP5 S.below)).to rfl (by decide)))) ?_
    refine sc (fun _ _ _ _ hd=>svg rfl (hd.v 21 rfl rfl) (zaN (zfH rfl (hd.v 25 rfl rfl) (hd.v 29 rfl rfl)) (show((zaY q3 q4 q5)==(zaY q3 q4 q5))=true from(by simp)))) ?_
    refine sc (fun _ _ _ _ hd=>sv rfl (zap true rfl (hd.v 21 rfl rfl) (hd.v 30 rfl rfl))) ?_
    refine sc (fun _ _ _ _ hd=>sv rfl (zab rfl (hd.v 31 rfl rfl))) ?_
    refine sc (fun _ _ S _ hd=>slg rfl (hd.v 32 rfl rfl) (rc0 Tryz.func9) (zfK (T.keep S.below))) ?_
    refine sc (fun _ _ _ _ hd=>sv rfl (zap true rfl (hd.v 32 rfl rfl) (hd.v 33 rfl rfl))) ?_
    exact sn
   ·intro a3 V14 S hB hf
    have S:=S.add (hf.v 34 rfl rfl)
    clear hf S0
    show wpList _ _ _ [_] _ _
    refine tv S (zac rfl (S.at 0 rfl)) fun a S=>?_
    refine hK6 _ _ ?_
    refine wp_ret ?_
    exact zao rfl S (S.at 0 rfl) ⟨_,rfl,rfl,S.below⟩
theorem zkN (b0_:Bool)(x0_ y0_:Num)(d0_:Bool)(z0_ w0_:Num)(b1_:Bool)(x1_ y1_:Num)(d1_:Bool)(z1_ w1_:Num)(b2_:Bool)(x2_ y2_:Num)(d2_:Bool)(z2_ w2_:Num)(A:Option Addr)(c:Nat)(l:List PEl)(b3_:Bool)(x3_ y3_:Num)(b4_:Bool)(x4_ y4_:Num)(b5_:Bool)(x5_ y5_:Num){V:World}(T:TT V)(ox0:x0_.ok V V.heap.size)(oy0:y0_.ok V V.heap.size)(oz0:z0_.ok V V.heap.size)(ow0:w0_.ok V V.heap.size)(ox1:x1_.ok V V.heap.size)(oy1:y1_.ok V V.heap.size)(oz1:z1_.ok V V.heap.size)(ow1:w1_.ok V V.heap.size)(ox2:x2_.ok V V.heap.size)(oy2:y2_.ok V V.heap.size)(oz2:z2_.ok V V.heap.size)(ow2:w2_.ok V V.heap.size)(ox3:x3_.ok V V.heap.size)(oy3:y3_.ok V V.heap.size)(ox4:x4_.ok V V.heap.size)(oy4:y4_.ok V V.heap.size)(ox5:x5_.ok V V.heap.size)(oy5:y5_.ok V V.heap.size)(hR:PRds V V.heap.size A l)(hll:l.length≤100000000000000)(hlc:l.length≤c)(hcm:c≤maxLen)(hG:zby [(b0_,x0_,y0_,d0_,z0_,w0_),(b1_,x1_,y1_,d1_,z1_,w1_),(b2_,x2_,y2_,d2_,z2_,w2_)]=true):
  Calls Tryz.prog 3 #[(aP b0_ x0_ y0_ d0_ z0_ w0_),(aP b1_ x1_ y1_ d1_ z1_ w1_),(aP b2_ x2_ y2_ d2_ z2_ w2_),.slice A l.length c,(aG b3_ x3_ y3_),(aG b4_ x4_ y4_),(aG b5_ x5_ y5_)] V (zaj V (fun v _=>v= .bool true)):=by
 obtain⟨q0,hqa0⟩:∃q,qOf b0_ x0_.N y0_.N=q:=⟨_,rfl⟩
 obtain⟨r0,hra0⟩:∃q,qOf d0_ z0_.N w0_.N=q:=⟨_,rfl⟩
 obtain⟨q1,hqa1⟩:∃q,qOf b1_ x1_.N y1_.N=q:=⟨_,rfl⟩
 obtain⟨r1,hra1⟩:∃q,qOf d1_ z1_.N w1_.N=q:=⟨_,rfl⟩
 obtain⟨q2,hqa2⟩:∃q,qOf b2_ x2_.N y2_.N=q:=⟨_,rfl⟩
 obtain⟨r2,hra2⟩:∃q,qOf d2_ z2_.N w2_.N=q:=⟨_,rfl⟩
 obtain⟨q3,hqa3⟩:∃q,qOf b3_ x3_.N y3_.N=q:=⟨_,rfl⟩
 obtain⟨q4,hqa4⟩:∃q,qOf b4_ x4_.N y4_.N=q:=⟨_,rfl⟩
 obtain⟨q5,hqa5⟩:∃q,qOf b5_ x5_.N y5_.N=q:=⟨_,rfl⟩
 refine fb Tryz.func3 Tryz.ntmps3 (zaa ox5 (zaa oy5 (zaa ox4 (zaa oy4 (zaa ox3 (zaa oy3 (zaa ox2 (zaa oy2 (zaa oz2 (zaa ow2 (zaa ox1 (zaa oy1 (zaa oz1 (zaa ow1 (zaa ox0 (zaa oy0 (zaa oz0 (zaa ow0 zaC)))))))))))))))))) (fun a S=>?_)
 refine wsp fun K1 hK1=>?_
 refine tb S 0 (lP b0_ x0_ y0_ d0_ z0_ w0_) fun g1 a V1 hgg1 S=>?_
 refine tb S 2 (lP b1_ x1_ y1_ d1_ z1_ w1_) fun g2 a V2 hgg2 S=>?_
 refine tb S 4 (lP b2_ x2_ y2_ d2_ z2_ w2_) fun g3 a V3 hgg3 S=>?_
 refine tb S 7 (aL b3_ x3_ y3_) fun g4 a V4 hgg4 S=>?_
 refine tb S 9 (aL b4_ x4_ y4_) fun g5 a V5 hgg5 S=>?_
 refine tb S 11 (aL b5_ x5_ y5_) fun g6 a V6 hgg6 S=>?_
 refine ac S fun a S=>?_
 refine hK1 _ _ ?_
 refine wp_seq_k fun K2 hK2=>?_
 refine wsp fun K3 hK3=>?_
 refine lp S 6 0 fun a S=>?_
 refine lp S 6 1 fun a S=>?_
 refine lp S 6 2 fun a S=>?_
 refine ty S (F:=GP ([(b0_,x0_,y0_,d0_,z0_,w0_),(b1_,x1_,y1_,d1_,z1_,w1_),(b2_,x2_,y2_,d2_,z2_,w2_)])) (zeD rfl (S.at 2 rfl) (S.at 1 rfl) (S.at 0 rfl) (S.num 14 rfl) (S.num 15 rfl) (S.num 16 rfl) (S.num 17 rfl) (S.num 10 rfl) (S.num 11 rfl) (S.num 12 rfl) (S.num 13 rfl) (S.num 6 rfl) (S.num 7 rfl) (S.num 8 rfl) (S.num 9 rfl)) fun v a V7 hF hb S=>?_
 obtain⟨ov1,hov1⟩:∃z,z=v:=⟨_,rfl⟩
 rw[←hov1]at hF S
 have rov1:=hF
 refine tc S (rc1 Tryz.func7 (S.at 0 rfl)) (zdq rov1 hG) fun v a V8 hF hb S=>?_
 replace rov1:=rov1.keep hb
 subst hF
 refine mv S 0 fun a S=>?_
 refine tk S (S.at 0 rfl) fun a S=>?_
 refine tk S (S.at 1 rfl) fun a S=>?_
 refine tv S (zap true rfl (S.at 2 rfl) rfl) fun a S=>?_
 refine mv S 0 fun a S=>?_
 refine tk S (S.at 0 rfl) fun a S=>?_
 refine tk S (S.at 1 rfl) fun a S=>?_
 refine tk S (S.at 2 rfl) fun a S=>?_
 refine tk S (S.at 3 rfl) fun a S=>?_
 refine tk S (S.at 4 rfl) fun a S=>?_
 refine tv S (zap true rfl (S.at 5 rfl) rfl) fun a S=>?_
 refine hK3 _ _ ?_
 refine wp_cond_true (S.at 0 rfl) ?_
 refine wp_seq_k fun K4 hK4=>?_
 have S:=S.keep [14] (ls':=[(14,.bool false)]) rfl
 refine zam ?_
 refine tc S (rc0 Tryz.func9) (zfK (T.keep S.below)) fun v a V9 hF hb S=>?_
 subst hF
 refine zav S (v:= .bool true) (zac rfl (S.at 0 rfl)) rfl rfl (by decide) (ls':=[(31,.bool true)]) rfl (fun a S=>?_)
 refine hK4 _ _ ?_
 refine wp_ret ?_
 exact zao rfl S (S.at 0 rfl) ⟨_,rfl,rfl,S.below⟩
theorem zkO (b0_:Bool)(x0_ y0_:Num)(d0_:Bool)(z0_ w0_:Num)(b1_:Bool)(x1_ y1_:Num)(d1_:Bool)(z1_ w1_:Num)(b2_:Bool)(x2_ y2_:Num)(d2_:Bool)(z2_ w2_:Num)(A:Option Addr)(c:Nat)(l:List PEl)(b3_:Bool)(x3_ y3_:Num)(b4_:Bool)(x4_ y4_:Num)(b5_:Bool)(x5_ y5_:Num){V:World}(T:TT V)(ox0:x0_.ok V V.heap.size)(oy0:y0_.ok V V.heap.size)(oz0:z0_.ok V V.heap.size)(ow0:w0_.ok V V.heap.size)(ox1:x1_.ok V V.heap.size)(oy1:y1_.ok V V.heap.size)(oz1:z1_.ok V V.heap.size)(ow1:w1_.ok V V.heap.size)(ox2:x2_.ok V V.heap.size)(oy2:y2_.ok V V.heap.size)(oz2:z2_.ok V V.heap.size)(ow2:w2_.ok V V.heap.size)(ox3:x3_.ok V V.heap.size)(oy3:y3_.ok V V.heap.size)(ox4:x4_.ok V V.heap.size)(oy4:y4_.ok V V.heap.size)(ox5:x5_.ok V V.heap.size)(oy5:y5_.ok V V.heap.size)(hR:PRds V V.heap.size A l)(hll:l.length≤100000000000000)(hlc:l.length≤c)(hcm:c≤maxLen)(hG:zby [(b0_,x0_,y0_,d0_,z0_,w0_),(b1_,x1_,y1_,d1_,z1_,w1_),(b2_,x2_,y2_,d2_,z2_,w2_)]=false)(hG9:zby l=true):
  Calls Tryz.prog 3 #[(aP b0_ x0_ y0_ d0_ z0_ w0_),(aP b1_ x1_ y1_ d1_ z1_ w1_),(aP b2_ x2_ y2_ d2_ z2_ w2_),.slice A l.length c,(aG b3_ x3_ y3_),(aG b4_ x4_ y4_),(aG b5_ x5_ y5_)] V (zaj V (fun v _=>v= .bool true)):=by
 obtain⟨q0,hqa0⟩:∃q,qOf b0_ x0_.N y0_.N=q:=⟨_,rfl⟩
 obtain⟨r0,hra0⟩:∃q,qOf d0_ z0_.N w0_.N=q:=⟨_,rfl⟩
 obtain⟨q1,hqa1⟩:∃q,qOf b1_ x1_.N y1_.N=q:=⟨_,rfl⟩
 obtain⟨r1,hra1⟩:∃q,qOf d1_ z1_.N w1_.N=q:=⟨_,rfl⟩
 obtain⟨q2,hqa2⟩:∃q,qOf b2_ x2_.N y2_.N=q:=⟨_,rfl⟩
 obtain⟨r2,hra2⟩:∃q,qOf d2_ z2_.N w2_.N=q:=⟨_,rfl⟩
 obtain⟨q3,hqa3⟩:∃q,qOf b3_ x3_.N y3_.N=q:=⟨_,rfl⟩
 obtain⟨q4,hqa4⟩:∃q,qOf b4_ x4_.N y4_.N=q:=⟨_,rfl⟩
 obtain⟨q5,hqa5⟩:∃q,qOf b5_ x5_.N y5_.N=q:=⟨_,rfl⟩
 refine fb Tryz.func3 Tryz.ntmps3 (zaa ox5 (zaa oy5 (zaa ox4 (zaa oy4 (zaa ox3 (zaa oy3 (zaa ox2 (zaa oy2 (zaa oz2 (zaa ow2 (zaa ox1 (zaa oy1 (zaa oz1 (zaa ow1 (zaa ox0 (zaa oy0 (zaa oz0 (zaa ow0 zaC)))))))))))))))))) (fun a S=>?_)
 refine wsp fun K1 hK1=>?_
 refine tb S 0 (lP b0_ x0_ y0_ d0_ z0_ w0_) fun g1 a V1 hgg1 S=>?_
 refine tb S 2 (lP b1_ x1_ y1_ d1_ z1_ w1_) fun g2 a V2 hgg2 S=>?_
 refine tb S 4 (lP b2_ x2_ y2_ d2_ z2_ w2_) fun g3 a V3 hgg3 S=>?_
 refine tb S 7 (aL b3_ x3_ y3_) fun g4 a V4 hgg4 S=>?_
 refine tb S 9 (aL b4_ x4_ y4_) fun g5 a V5 hgg5 S=>?_
 refine tb S 11 (aL b5_ x5_ y5_) fun g6 a V6 hgg6 S=>?_
 refine ac S fun a S=>?_
 refine hK1 _ _ ?_
 refine wp_seq_k fun K2 hK2=>?_
 refine wsp fun K3 hK3=>?_
 refine lp S 6 0 fun a S=>?_
 refine lp S 6 1 fun a S=>?_
 refine lp S 6 2 fun a S=>?_
 refine ty S (F:=GP ([(b0_,x0_,y0_,d0_,z0_,w0_),(b1_,x1_,y1_,d1_,z1_,w1_),(b2_,x2_,y2_,d2_,z2_,w2_)])) (zeD rfl (S.at 2 rfl) (S.at 1 rfl) (S.at 0 rfl) (S.num 14 rfl) (S.num 15 rfl) (S.num 16 rfl) (S.num 17 rfl) (S.num 10 rfl) (S.num 11 rfl) (S.num 12 rfl) (S.num 13 rfl) (S.num 6 rfl) (S.num 7 rfl) (S.num 8 rfl) (S.num 9 rfl)) fun v a V7 hF hb S=>?_
 obtain⟨ov1,hov1⟩:∃z,z=v:=⟨_,rfl⟩
 rw[←hov1]at hF S
 have rov1:=hF
 refine tc S (rc1 Tryz.func7 (S.at 0 rfl)) (zdq rov1 hG) fun v a V8 hF hb S=>?_
 replace rov1:=rov1.keep hb
 subst hF
 refine mv S 0 fun a S=>?_
 refine tvg S (S.at 0 rfl) (zab rfl (S.at 16 rfl)) fun a S=>?_
 refine tcg S (S.at 1 rfl) (rc1 Tryz.func7 (S.at 0 rfl)) (zdq (zd7 hR hll hlc hcm S.below) hG9) fun v a V9 hF hb S=>?_
 replace rov1:=rov1.keep hb
 subst hF
 refine tv S (zap false rfl (S.at 2 rfl) (S.at 0 rfl)) fun a S=>?_
 refine mv S 0 fun a S=>?_
 refine tk S (S.at 0 rfl) fun a S=>?_
 refine tk S (S.at 1 rfl) fun a S=>?_
 refine tk S (S.at 2 rfl) fun a S=>?_
 refine tk S (S.at 3 rfl) fun a S=>?_
 refine tk S (S.at 4 rfl) fun a S=>?_
 refine tv S (zap true rfl (S.at 5 rfl) rfl) fun a S=>?_
 refine hK3 _ _ ?_
 refine wp_cond_true (S.at 0 rfl) ?_
 refine wp_seq_k fun K4 hK4=>?_
 have S:=S.keep [14] (ls':=[(14,.bool false)]) rfl
 refine zam ?_
 refine tc S (rc0 Tryz.func9) (zfK (T.keep S.below)) fun v a V10 hF hb S=>?_
 subst hF
 refine zav S (v:= .bool true) (zac rfl (S.at 0 rfl)) rfl rfl (by decide) (ls':=[(31,.bool true)]) rfl (fun a S=>?_)
 refine hK4 _ _ ?_
 refine wp_ret ?_
 exact zao rfl S (S.at 0 rfl) ⟨_,rfl,rfl,S.below⟩
theorem zkP (b0_:Bool)(x0_ y0_:Num)(d0_:Bool)(z0_ w0_:Num)(b1_:Bool)(x1_ y1_:Num)(d1_:Bool)(z1_ w1_:Num)(b2_:Bool)(x2_ y2_:Num)(d2_:Bool)(z2_ w2_:Num)(A:Option Addr)(c:Nat)(l:List PEl)(b3_:Bool)(x3_ y3_:Num)(b4_:Bool)(x4_ y4_:Num)(b5_:Bool)(x5_ y5_:Num){V:World}(T:TT V)(ox0:x0_.ok V V.heap.size)(oy0:y0_.ok V V.heap.size)(oz0:z0_.ok V V.heap.size)(ow0:w0_.ok V V.heap.size)(ox1:x1_.ok V V.heap.size)(oy1:y1_.ok V V.heap.size)(oz1:z1_.ok V V.heap.size)(ow1:w1_.ok V V.heap.size)(ox2:x2_.ok V V.heap.size)(oy2:y2_.ok V V.heap.size)(oz2:z2_.ok V V.heap.size)(ow2:w2_.ok V V.heap.size)(ox3:x3_.ok V V.heap.size)(oy3:y3_.ok V V.heap.size)(ox4:x4_.ok V V.heap.size)(oy4:y4_.ok V V.heap.size)(ox5:x5_.ok V V.heap.size)(oy5:y5_.ok V V.heap.size)(hR:PRds V V.heap.size A l)(hll:l.length≤100000000000000)(hlc:l.length≤c)(hcm:c≤maxLen)(hG:zby [(b0_,x0_,y0_,d0_,z0_,w0_),(b1_,x1_,y1_,d1_,z1_,w1_),(b2_,x2_,y2_,d2_,z2_,w2_)]=false)(hG7:zc7 [(b3_,x3_,y3_),(b4_,x4_,y4_),(b5_,x5_,y5_)]=true)(hG9:zby l=false):
  Calls Tryz.prog 3 #[(aP b0_ x0_ y0_ d0_ z0_ w0_),(aP b1_ x1_ y1_ d1_ z1_ w1_),(aP b2_ x2_ y2_ d2_ z2_ w2_),.slice A l.length c,(aG b3_ x3_ y3_),(aG b4_ x4_ y4_),(aG b5_ x5_ y5_)] V (zaj V (fun v _=>v= .bool true)):=by
 obtain⟨q0,hqa0⟩:∃q,qOf b0_ x0_.N y0_.N=q:=⟨_,rfl⟩
 obtain⟨r0,hra0⟩:∃q,qOf d0_ z0_.N w0_.N=q:=⟨_,rfl⟩
 obtain⟨q1,hqa1⟩:∃q,qOf b1_ x1_.N y1_.N=q:=⟨_,rfl⟩
 obtain⟨r1,hra1⟩:∃q,qOf d1_ z1_.N w1_.N=q:=⟨_,rfl⟩
 obtain⟨q2,hqa2⟩:∃q,qOf b2_ x2_.N y2_.N=q:=⟨_,rfl⟩
 obtain⟨r2,hra2⟩:∃q,qOf d2_ z2_.N w2_.N=q:=⟨_,rfl⟩
 obtain⟨q3,hqa3⟩:∃q,qOf b3_ x3_.N y3_.N=q:=⟨_,rfl⟩
 obtain⟨q4,hqa4⟩:∃q,qOf b4_ x4_.N y4_.N=q:=⟨_,rfl⟩
 obtain⟨q5,hqa5⟩:∃q,qOf b5_ x5_.N y5_.N=q:=⟨_,rfl⟩
 refine fb Tryz.func3 Tryz.ntmps3 (zaa ox5 (zaa oy5 (zaa ox4 (zaa oy4 (zaa ox3 (zaa oy3 (zaa ox2 (zaa oy2 (zaa oz2 (zaa ow2 (zaa ox1 (zaa oy1 (zaa oz1 (zaa ow1 (zaa ox0 (zaa oy0 (zaa oz0 (zaa ow0 zaC)))))))))))))))))) (fun a S=>?_)
 refine wsp fun K1 hK1=>?_
 refine tb S 0 (lP b0_ x0_ y0_ d0_ z0_ w0_) fun g1 a V1 hgg1 S=>?_
 refine tb S 2 (lP b1_ x1_ y1_ d1_ z1_ w1_) fun g2 a V2 hgg2 S=>?_
 refine tb S 4 (lP b2_ x2_ y2_ d2_ z2_ w2_) fun g3 a V3 hgg3 S=>?_
 refine tb S 7 (aL b3_ x3_ y3_) fun g4 a V4 hgg4 S=>?_
 refine tb S 9 (aL b4_ x4_ y4_) fun g5 a V5 hgg5 S=>?_
 refine tb S 11 (aL b5_ x5_ y5_) fun g6 a V6 hgg6 S=>?_
 refine ac S fun a S=>?_
 refine hK1 _ _ ?_
 refine wp_seq_k fun K2 hK2=>?_
 refine wsp fun K3 hK3=>?_
 refine lp S 6 0 fun a S=>?_
 refine lp S 6 1 fun a S=>?_
 refine lp S 6 2 fun a S=>?_
 refine ty S (F:=GP ([(b0_,x0_,y0_,d0_,z0_,w0_),(b1_,x1_,y1_,d1_,z1_,w1_),(b2_,x2_,y2_,d2_,z2_,w2_)])) (zeD rfl (S.at 2 rfl) (S.at 1 rfl) (S.at 0 rfl) (S.num 14 rfl) (S.num 15 rfl) (S.num 16 rfl) (S.num 17 rfl) (S.num 10 rfl) (S.num 11 rfl) (S.num 12 rfl) (S.num 13 rfl) (S.num 6 rfl) (S.num 7 rfl) (S.num 8 rfl) (S.num 9 rfl)) fun v a V7 hF hb S=>?_
 obtain⟨ov1,hov1⟩:∃z,z=v:=⟨_,rfl⟩
 rw[←hov1]at hF S
 have rov1:=hF
 refine tc S (rc1 Tryz.func7 (S.at 0 rfl)) (zdq rov1 hG) fun v a V8 hF hb S=>?_
 replace rov1:=rov1.keep hb
 subst hF
 refine mv S 0 fun a S=>?_
 refine tvg S (S.at 0 rfl) (zab rfl (S.at 16 rfl)) fun a S=>?_
 refine tcg S (S.at 1 rfl) (rc1 Tryz.func7 (S.at 0 rfl)) (zdq (zd7 hR hll hlc hcm S.below) hG9) fun v a V9 hF hb S=>?_
 replace rov1:=rov1.keep hb
 subst hF
 refine tv S (zap false rfl (S.at 2 rfl) (S.at 0 rfl)) fun a S=>?_
 refine mv S 0 fun a S=>?_
 refine tvg S (S.at 0 rfl) (zaX rfl (S.at 13 rfl) (S.bx 3 rfl) rfl) fun a S=>?_
 refine tvg S (S.at 1 rfl) (zaX rfl (S.at 13 rfl) (S.bx 4 rfl) rfl) fun a S=>?_
 refine tvg S (S.at 2 rfl) (zaX rfl (S.at 13 rfl) (S.bx 5 rfl) rfl) fun a S=>?_
 refine tyg S (S.at 3 rfl) (F:=GL ([(b3_,x3_,y3_),(b4_,x4_,y4_),(b5_,x5_,y5_)])) (zkI rfl (S.at 2 rfl) (S.at 1 rfl) (S.at 0 rfl) (S.num 4 rfl) (S.num 5 rfl) (S.num 2 rfl) (S.num 3 rfl) (S.num 0 rfl) (S.num 1 rfl)) fun v a V10 hF hb S=>?_
 replace rov1:=rov1.keep hb
 obtain⟨ov2,hov2⟩:∃z,z=v:=⟨_,rfl⟩
 rw[←hov2]at hF S
 have rov2:=hF
 refine tcg S (S.at 4 rfl) (rc1 Tryz.func8 (S.at 0 rfl)) (zmP rov2 hG7) fun v a V11 hF hb S=>?_
 replace rov2:=rov2.keep hb
 replace rov1:=rov1.keep hb
 subst hF
 refine tv S (zap false rfl (S.at 5 rfl) (S.at 0 rfl)) fun a S=>?_
 refine hK3 _ _ ?_
 refine wp_cond_true (S.at 0 rfl) ?_
 refine wp_seq_k fun K4 hK4=>?_
 have S:=S.keep [14] (ls':=[(14,.bool false)]) rfl
 refine zam ?_
 refine tc S (rc0 Tryz.func9) (zfK (T.keep S.below)) fun v a V12 hF hb S=>?_
 subst hF
 refine zav S (v:= .bool true) (zac rfl (S.at 0 rfl)) rfl rfl (by decide) (ls':=[(31,.bool true)]) rfl (fun a S=>?_)
 refine hK4 _ _ ?_
 refine wp_ret ?_
 exact zao rfl S (S.at 0 rfl) ⟨_,rfl,rfl,S.below⟩
end Go.Proofs.YtdeelcoipmdoiaaGreatDoor
