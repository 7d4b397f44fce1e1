/- A part. -/
import Derived.Test.YtdeelcoipmdoiaaGreatDoorGSidG
set_option maxHeartbeats 4000000
set_option maxRecDepth 100000
namespace Go.Proofs.YtdeelcoipmdoiaaGreatDoor
open Go Go.RowKit
theorem zmm (b0_:Bool)(x0_ y0_:Num)(d0_:Bool)(z0_ w0_:Num)(b1_:Bool)(x1_ y1_:Num)(d1_:Bool)(z1_ w1_:Num)(b2_:Bool)(x2_ y2_:Num)(d2_:Bool)(z2_ w2_:Num)(b3_:Bool)(x3_ y3_:Num)(d3_:Bool)(z3_ w3_:Num){V:World}(T:TT V)(ox0:x0_.ok V V.heap.size)(oy0:y0_.ok V V.heap.size)(oz0:z0_.ok V V.heap.size)(ow0:w0_.ok V V.heap.size)(ox1:x1_.ok V V.heap.size)(oy1:y1_.ok V V.heap.size)(oz1:z1_.ok V V.heap.size)(ow1:w1_.ok V V.heap.size)(ox2:x2_.ok V V.heap.size)(oy2:y2_.ok V V.heap.size)(oz2:z2_.ok V V.heap.size)(ow2:w2_.ok V V.heap.size)(ox3:x3_.ok V V.heap.size)(oy3:y3_.ok V V.heap.size)(oz3:z3_.ok V V.heap.size)(ow3:w3_.ok V V.heap.size)(hG:zck [(b0_,x0_,y0_,d0_,z0_,w0_),(b1_,x1_,y1_,d1_,z1_,w1_),(b2_,x2_,y2_,d2_,z2_,w2_),(b3_,x3_,y3_,d3_,z3_,w3_)]=false):
  Calls Tryz.prog 4 #[.agg #[.bool b0_,.slice x0_.A x0_.n x0_.c,.slice y0_.A y0_.n y0_.c,.bool d0_,.slice z0_.A z0_.n z0_.c,.slice w0_.A w0_.n w0_.c],.agg #[.bool b1_,.slice x1_.A x1_.n x1_.c,.slice y1_.A y1_.n y1_.c,.bool d1_,.slice z1_.A z1_.n z1_.c,.slice w1_.A w1_.n w1_.c],.agg #[.bool b2_,.slice x2_.A x2_.n x2_.c,.slice y2_.A y2_.n y2_.c,.bool d2_,.slice z2_.A z2_.n z2_.c,.slice w2_.A w2_.n w2_.c],.agg #[.bool b3_,.slice x3_.A x3_.n x3_.c,.slice y3_.A y3_.n y3_.c,.bool d3_,.slice z3_.A z3_.n z3_.c,.slice w3_.A w3_.n w3_.c]] V (zao V (fun v _=>v= .bool true)):=by
 have hsz:=zow hG
 have hkx0:x0_.n≤80:=by omega
 have hky0:y0_.n≤80:=by omega
 have hkz0:z0_.n≤80:=by omega
 have hkw0:w0_.n≤80:=by omega
 have hkx1:x1_.n≤80:=by omega
 have hky1:y1_.n≤80:=by omega
 have hkz1:z1_.n≤80:=by omega
 have hkw1:w1_.n≤80:=by omega
 have hkx2:x2_.n≤80:=by omega
 have hky2:y2_.n≤80:=by omega
 have hkz2:z2_.n≤80:=by omega
 have hkw2:w2_.n≤80:=by omega
 have hkx3:x3_.n≤80:=by omega
 have hky3:y3_.n≤80:=by omega
 have hkz3:z3_.n≤80:=by omega
 have hkw3:w3_.n≤80:=by omega
 obtain⟨q0,hqa0⟩:∃q,qOf b0_ x0_.N y0_.N=q:=⟨_,rfl⟩
 obtain⟨r0,hra0⟩:∃q,qOf d0_ z0_.N w0_.N=q:=⟨_,rfl⟩
 obtain⟨q1,hqa1⟩:∃q,qOf b1_ x1_.N y1_.N=q:=⟨_,rfl⟩
 obtain⟨r1,hra1⟩:∃q,qOf d1_ z1_.N w1_.N=q:=⟨_,rfl⟩
 obtain⟨q2,hqa2⟩:∃q,qOf b2_ x2_.N y2_.N=q:=⟨_,rfl⟩
 obtain⟨r2,hra2⟩:∃q,qOf d2_ z2_.N w2_.N=q:=⟨_,rfl⟩
 obtain⟨q3,hqa3⟩:∃q,qOf b3_ x3_.N y3_.N=q:=⟨_,rfl⟩
 obtain⟨r3,hra3⟩:∃q,qOf d3_ z3_.N w3_.N=q:=⟨_,rfl⟩
 have m0:=smq hqa0 ox0 oy0
 have m0b:=smq hra0 oz0 ow0
 have m1:=smq hqa1 ox1 oy1
 have m1b:=smq hra1 oz1 ow1
 have m2:=smq hqa2 ox2 oy2
 have m2b:=smq hra2 oz2 ow2
 have m3:=smq hqa3 ox3 oy3
 have m3b:=smq hra3 oz3 ow3
 have d01:Sm 250 (q1 - q0):=(m1.sub m0).mono (by omega)
 have d01b:Sm 250 (r1 - r0):=(m1b.sub m0b).mono (by omega)
 have d02:Sm 250 (q2 - q0):=(m2.sub m0).mono (by omega)
 have d02b:Sm 250 (r2 - r0):=(m2b.sub m0b).mono (by omega)
 have d10:Sm 250 (q0 - q1):=(m0.sub m1).mono (by omega)
 have d10b:Sm 250 (r0 - r1):=(m0b.sub m1b).mono (by omega)
 have d12:Sm 250 (q2 - q1):=(m2.sub m1).mono (by omega)
 have d12b:Sm 250 (r2 - r1):=(m2b.sub m1b).mono (by omega)
 have d20:Sm 250 (q0 - q2):=(m0.sub m2).mono (by omega)
 have d20b:Sm 250 (r0 - r2):=(m0b.sub m2b).mono (by omega)
 have d21:Sm 250 (q1 - q2):=(m1.sub m2).mono (by omega)
 have d21b:Sm 250 (r1 - r2):=(m1b.sub m2b).mono (by omega)
 have d00:Sm 250 (q0 - q0):=(m0.sub m0).mono (by omega)
 have d00b:Sm 250 (r0 - r0):=(m0b.sub m0b).mono (by omega)
 have s0:Sm 349 (q0+q3):=(m0.add m3).mono (by omega)
 have s0b:Sm 349 (r0+r3):=(m0b.add m3b).mono (by omega)
 have s1:Sm 349 (q1+q3):=(m1.add m3).mono (by omega)
 have s1b:Sm 349 (r1+r3):=(m1b.add m3b).mono (by omega)
 have s2:Sm 349 (q2+q3):=(m2.add m3).mono (by omega)
 have s2b:Sm 349 (r2+r3):=(m2b.add m3b).mono (by omega)
 have e01:Sm 250 (q1+q3 - (q0+q3)):=by rw[ze0];exact d01
 have e01b:Sm 250 (r1+r3 - (r0+r3)):=by rw[ze0];exact d01b
 have e02:Sm 250 (q2+q3 - (q0+q3)):=by rw[ze0];exact d02
 have e02b:Sm 250 (r2+r3 - (r0+r3)):=by rw[ze0];exact d02b
 refine zaz (e:=[x3_,y3_,z3_,w3_,x2_,y2_,z2_,w2_,x1_,y1_,z1_,w1_,x0_,y0_,z0_,w0_]) Tryz.func4 rfl Tryz.ntmps4 (zsj rfl) [(0,.agg #[.bool b0_,.slice x0_.A x0_.n x0_.c,.slice y0_.A y0_.n y0_.c,.bool d0_,.slice z0_.A z0_.n z0_.c,.slice w0_.A w0_.n w0_.c]),(1,.agg #[.bool b1_,.slice x1_.A x1_.n x1_.c,.slice y1_.A y1_.n y1_.c,.bool d1_,.slice z1_.A z1_.n z1_.c,.slice w1_.A w1_.n w1_.c]),(2,.agg #[.bool b2_,.slice x2_.A x2_.n x2_.c,.slice y2_.A y2_.n y2_.c,.bool d2_,.slice z2_.A z2_.n z2_.c,.slice w2_.A w2_.n w2_.c]),(3,.agg #[.bool b3_,.slice x3_.A x3_.n x3_.c,.slice y3_.A y3_.n y3_.c,.bool d3_,.slice z3_.A z3_.n z3_.c,.slice w3_.A w3_.n w3_.c])] rfl (zaa ox3 (zaa oy3 (zaa oz3 (zaa ow3 (zaa ox2 (zaa oy2 (zaa oz2 (zaa ow2 (zaa ox1 (zaa oy1 (zaa oz1 (zaa ow1 (zaa ox0 (zaa oy0 (zaa oz0 (zaa ow0 zaW)))))))))))))))) (fun a S=>?_)
 refine wp_seq_k fun K1 hK1=>?_
 refine zab ?_
 refine ti S (cs:=[.bool b0_,.slice x0_.A x0_.n x0_.c,.slice y0_.A y0_.n y0_.c,.bool d0_,.slice z0_.A z0_.n z0_.c,.slice w0_.A w0_.n w0_.c]) (zaB rfl (S.at 0 rfl) rfl) (fun g1=>[⟨g1,29,[.bool b0_,.slice x0_.A x0_.n x0_.c,.slice y0_.A y0_.n y0_.c,.bool d0_,.slice z0_.A z0_.n z0_.c,.slice w0_.A w0_.n w0_.c]⟩]) fun g1 a V1 hgg1 S=>?_
 refine ti S (cs:=[.bool b1_,.slice x1_.A x1_.n x1_.c,.slice y1_.A y1_.n y1_.c,.bool d1_,.slice z1_.A z1_.n z1_.c,.slice w1_.A w1_.n w1_.c]) (zaB rfl (S.at 2 rfl) rfl) (fun g2=>[⟨g1,29,[.bool b0_,.slice x0_.A x0_.n x0_.c,.slice y0_.A y0_.n y0_.c,.bool d0_,.slice z0_.A z0_.n z0_.c,.slice w0_.A w0_.n w0_.c]⟩,⟨g2,29,[.bool b1_,.slice x1_.A x1_.n x1_.c,.slice y1_.A y1_.n y1_.c,.bool d1_,.slice z1_.A z1_.n z1_.c,.slice w1_.A w1_.n w1_.c]⟩]) fun g2 a V2 hgg2 S=>?_
 refine ti S (cs:=[.bool b2_,.slice x2_.A x2_.n x2_.c,.slice y2_.A y2_.n y2_.c,.bool d2_,.slice z2_.A z2_.n z2_.c,.slice w2_.A w2_.n w2_.c]) (zaB rfl (S.at 4 rfl) rfl) (fun g3=>[⟨g1,29,[.bool b0_,.slice x0_.A x0_.n x0_.c,.slice y0_.A y0_.n y0_.c,.bool d0_,.slice z0_.A z0_.n z0_.c,.slice w0_.A w0_.n w0_.c]⟩,⟨g2,29,[.bool b1_,.slice x1_.A x1_.n x1_.c,.slice y1_.A y1_.n y1_.c,.bool d1_,.slice z1_.A z1_.n z1_.c,.slice w1_.A w1_.n w1_.c]⟩,⟨g3,29,[.bool b2_,.slice x2_.A x2_.n x2_.c,.slice y2_.A y2_.n y2_.c,.bool d2_,.slice z2_.A z2_.n z2_.c,.slice w2_.A w2_.n w2_.c]⟩]) fun g3 a V3 hgg3 S=>?_
 refine ti S (cs:=[.bool b3_,.slice x3_.A x3_.n x3_.c,.slice y3_.A y3_.n y3_.c,.bool d3_,.slice z3_.A z3_.n z3_.c,.slice w3_.A w3_.n w3_.c]) (zaB rfl (S.at 6 rfl) rfl) (fun g4=>[⟨g1,29,[.bool b0_,.slice x0_.A x0_.n x0_.c,.slice y0_.A y0_.n y0_.c,.bool d0_,.slice z0_.A z0_.n z0_.c,.slice w0_.A w0_.n w0_.c]⟩,⟨g2,29,[.bool b1_,.slice x1_.A x1_.n x1_.c,.slice y1_.A y1_.n y1_.c,.bool d1_,.slice z1_.A z1_.n z1_.c,.slice w1_.A w1_.n w1_.c]⟩,⟨g3,29,[.bool b2_,.slice x2_.A x2_.n x2_.c,.slice y2_.A y2_.n y2_.c,.bool d2_,.slice z2_.A z2_.n z2_.c,.slice w2_.A w2_.n w2_.c]⟩,⟨g4,29,[.bool b3_,.slice x3_.A x3_.n x3_.c,.slice y3_.A y3_.n y3_.c,.bool d3_,.slice z3_.A z3_.n z3_.c,.slice w3_.A w3_.n w3_.c]⟩]) fun g4 a V4 hgg4 S=>?_
 refine tv S (zaA rfl) fun a S=>?_
 refine hK1 _ _ ?_
 refine wp_seq_k fun K2 hK2=>?_
 refine wp_seq_k fun K3 hK3=>?_
 refine zab ?_
 refine tv S (zad rfl (S.at 4 rfl) (S.bx 0 rfl) Tryz.underlying29 rfl (vs:=[.bool b0_,.slice x0_.A x0_.n x0_.c,.slice y0_.A y0_.n y0_.c,.bool d0_,.slice z0_.A z0_.n z0_.c,.slice w0_.A w0_.n w0_.c]) zam rfl) fun a S=>?_
 refine tv S (zad rfl (S.at 4 rfl) (S.bx 1 rfl) Tryz.underlying29 rfl (vs:=[.bool b1_,.slice x1_.A x1_.n x1_.c,.slice y1_.A y1_.n y1_.c,.bool d1_,.slice z1_.A z1_.n z1_.c,.slice w1_.A w1_.n w1_.c]) zam rfl) fun a S=>?_
 refine tv S (zad rfl (S.at 4 rfl) (S.bx 2 rfl) Tryz.underlying29 rfl (vs:=[.bool b2_,.slice x2_.A x2_.n x2_.c,.slice y2_.A y2_.n y2_.c,.bool d2_,.slice z2_.A z2_.n z2_.c,.slice w2_.A w2_.n w2_.c]) zam rfl) fun a S=>?_
 refine tv S (zad rfl (S.at 4 rfl) (S.bx 3 rfl) Tryz.underlying29 rfl (vs:=[.bool b3_,.slice x3_.A x3_.n x3_.c,.slice y3_.A y3_.n y3_.c,.bool d3_,.slice z3_.A z3_.n z3_.c,.slice w3_.A w3_.n w3_.c]) zam rfl) fun a S=>?_
 refine ty S (F:=GP ([(b0_,x0_,y0_,d0_,z0_,w0_),(b1_,x1_,y1_,d1_,z1_,w1_),(b2_,x2_,y2_,d2_,z2_,w2_),(b3_,x3_,y3_,d3_,z3_,w3_)])) (zjk rfl (S.at 3 rfl) (S.at 2 rfl) (S.at 1 rfl) (S.at 0 rfl) (S.num 12 rfl) (S.num 13 rfl) (S.num 14 rfl) (S.num 15 rfl) (S.num 8 rfl) (S.num 9 rfl) (S.num 10 rfl) (S.num 11 rfl) (S.num 4 rfl) (S.num 5 rfl) (S.num 6 rfl) (S.num 7 rfl) (S.num 0 rfl) (S.num 1 rfl) (S.num 2 rfl) (S.num 3 rfl)) fun v a V5 hF hb S=>?_
 obtain⟨ov1,hov1⟩:∃z,z=v:=⟨_,rfl⟩
 rw[←hov1]at hF S
 have rov1:=hF
 refine tc S (F:=(fun v _=>v= .bool false)) (rc1 Tryz.func7 (S.at 0 rfl)) (zji rov1 hG) fun v a V6 hF hb S=>?_
 replace rov1:=rov1.keep hb
 subst hF
 refine hK3 _ _ ?_
 refine wp_cond_false (S.at 0 rfl) ?_
 refine wp_skip ?_
 refine hK2 _ _ ?_
 refine wp_seq_k fun K4 hK4=>?_
 have S:=S.keep [7,6,5,4] (ls':=[(7,.pointer (some ⟨g4,0,none⟩)),(6,.pointer (some ⟨g3,0,none⟩)),(5,.pointer (some ⟨g2,0,none⟩)),(4,.pointer (some ⟨g1,0,none⟩))]) rfl
 refine zab ?_
 refine tv S (zad rfl (S.at 3 rfl) (S.bx 0 rfl) Tryz.underlying29 rfl (vs:=[.bool b0_,.slice x0_.A x0_.n x0_.c,.slice y0_.A y0_.n y0_.c,.bool d0_,.slice z0_.A z0_.n z0_.c,.slice w0_.A w0_.n w0_.c]) zam rfl) fun a S=>?_
 refine tv S (zad rfl (S.at 3 rfl) (S.bx 1 rfl) Tryz.underlying29 rfl (vs:=[.bool b1_,.slice x1_.A x1_.n x1_.c,.slice y1_.A y1_.n y1_.c,.bool d1_,.slice z1_.A z1_.n z1_.c,.slice w1_.A w1_.n w1_.c]) zam rfl) fun a S=>?_
 refine tv S (zad rfl (S.at 3 rfl) (S.bx 2 rfl) Tryz.underlying29 rfl (vs:=[.bool b2_,.slice x2_.A x2_.n x2_.c,.slice y2_.A y2_.n y2_.c,.bool d2_,.slice z2_.A z2_.n z2_.c,.slice w2_.A w2_.n w2_.c]) zam rfl) fun a S=>?_
 refine tc S (F:=(fun v _=>v= .int .i64 (zaj (crs q0 r0 q1 r1 q2 r2) 0))) (rc3 Tryz.func10 (S.at 2 rfl) (S.at 1 rfl) (S.at 0 rfl)) (zb3 (T.keep S.below) (show P1 80 (q0) (r0) (.agg #[.bool b0_,.slice x0_.A x0_.n x0_.c,.slice y0_.A y0_.n y0_.c,.bool d0_,.slice z0_.A z0_.n z0_.c,.slice w0_.A w0_.n w0_.c]) _ from⟨b0_,x0_,y0_,d0_,z0_,w0_,rfl,hqa0,hra0,⟨hkx0,hky0⟩,⟨hkz0,hkw0⟩,⟨(S.num 12 rfl),(S.num 13 rfl)⟩,(S.num 14 rfl),(S.num 15 rfl)⟩) (show P1 80 (q1) (r1) (.agg #[.bool b1_,.slice x1_.A x1_.n x1_.c,.slice y1_.A y1_.n y1_.c,.bool d1_,.slice z1_.A z1_.n z1_.c,.slice w1_.A w1_.n w1_.c]) _ from⟨b1_,x1_,y1_,d1_,z1_,w1_,rfl,hqa1,hra1,⟨hkx1,hky1⟩,⟨hkz1,hkw1⟩,⟨(S.num 8 rfl),(S.num 9 rfl)⟩,(S.num 10 rfl),(S.num 11 rfl)⟩) (show P1 80 (q2) (r2) (.agg #[.bool b2_,.slice x2_.A x2_.n x2_.c,.slice y2_.A y2_.n y2_.c,.bool d2_,.slice z2_.A z2_.n z2_.c,.slice w2_.A w2_.n w2_.c]) _ from⟨b2_,x2_,y2_,d2_,z2_,w2_,rfl,hqa2,hra2,⟨hkx2,hky2⟩,⟨hkz2,hkw2⟩,⟨(S.num 4 rfl),(S.num 5 rfl)⟩,(S.num 6 rfl),(S.num 7 rfl)⟩) (by omega) (by omega) (by omega) (by assumption) (by assumption) (by assumption) (by assumption)) fun v a V7 hF hb S=>?_
 subst hF
 refine tv S (zal rfl (S.at 0 rfl)) fun a S=>?_
 refine hK4 _ _ ?_
 refine wp_seq_k fun K5 hK5=>?_
 refine wp_seq_k fun K6 hK6=>?_
 refine zab ?_
 refine tv S (zac rfl (S.at 0 rfl)) fun a S=>?_
 refine tv S (zaX (zdO rfl (S.at 0 rfl) rfl) (show(decide (zaj (crs q0 r0 q1 r1 q2 r2) 0< -1))=false from(zrK _ _))) fun a S=>?_
 refine tv S (zac rfl (S.at 0 rfl)) fun a S=>?_
 refine tvg S (S.at 0 rfl) (zac rfl (S.at 3 rfl)) fun a S=>?_
 refine tvg S (S.at 1 rfl) (zaX (zb9 rfl (S.at 0 rfl) rfl) (show(decide (1<zaj (crs q0 r0 q1 r1 q2 r2) 0))=false from(zr4 _ _))) fun a S=>?_
 refine tv S (zaP false rfl (S.at 2 rfl) (S.at 0 rfl)) fun a S=>?_
 refine tv S (zac rfl (S.at 0 rfl)) fun a S=>?_
 refine tvg S (S.at 0 rfl) (zad rfl (S.at 14 rfl) (S.bx 1 rfl) Tryz.underlying29 rfl (vs:=[.bool b1_,.slice x1_.A x1_.n x1_.c,.slice y1_.A y1_.n y1_.c,.bool d1_,.slice z1_.A z1_.n z1_.c,.slice w1_.A w1_.n w1_.c]) zam rfl) fun a S=>?_
 refine tvg S (S.at 1 rfl) (zad rfl (S.at 14 rfl) (S.bx 2 rfl) Tryz.underlying29 rfl (vs:=[.bool b2_,.slice x2_.A x2_.n x2_.c,.slice y2_.A y2_.n y2_.c,.bool d2_,.slice z2_.A z2_.n z2_.c,.slice w2_.A w2_.n w2_.c]) zam rfl) fun a S=>?_
 refine tvg S (S.at 2 rfl) (zad rfl (S.at 17 rfl) (S.bx 0 rfl) Tryz.underlying29 rfl (vs:=[.bool b0_,.slice x0_.A x0_.n x0_.c,.slice y0_.A y0_.n y0_.c,.bool d0_,.slice z0_.A z0_.n z0_.c,.slice w0_.A w0_.n w0_.c]) zam rfl) fun a S=>?_
 refine tcg S (S.at 3 rfl) (F:=(fun v _=>v= .int .i64 (zaj (crs q1 r1 q2 r2 q0 r0) 0))) (rc3 Tryz.func10 (S.at 2 rfl) (S.at 1 rfl) (S.at 0 rfl)) (zb3 (T.keep S.below) (show P1 80 (q1) (r1) (.agg #[.bool b1_,.slice x1_.A x1_.n x1_.c,.slice y1_.A y1_.n y1_.c,.bool d1_,.slice z1_.A z1_.n z1_.c,.slice w1_.A w1_.n w1_.c]) _ from⟨b1_,x1_,y1_,d1_,z1_,w1_,rfl,hqa1,hra1,⟨hkx1,hky1⟩,⟨hkz1,hkw1⟩,⟨(S.num 8 rfl),(S.num 9 rfl)⟩,(S.num 10 rfl),(S.num 11 rfl)⟩) (show P1 80 (q2) (r2) (.agg #[.bool b2_,.slice x2_.A x2_.n x2_.c,.slice y2_.A y2_.n y2_.c,.bool d2_,.slice z2_.A z2_.n z2_.c,.slice w2_.A w2_.n w2_.c]) _ from⟨b2_,x2_,y2_,d2_,z2_,w2_,rfl,hqa2,hra2,⟨hkx2,hky2⟩,⟨hkz2,hkw2⟩,⟨(S.num 4 rfl),(S.num 5 rfl)⟩,(S.num 6 rfl),(S.num 7 rfl)⟩) (show P1 80 (q0) (r0) (.agg #[.bool b0_,.slice x0_.A x0_.n x0_.c,.slice y0_.A y0_.n y0_.c,.bool d0_,.slice z0_.A z0_.n z0_.c,.slice w0_.A w0_.n w0_.c]) _ from⟨b0_,x0_,y0_,d0_,z0_,w0_,rfl,hqa0,hra0,⟨hkx0,hky0⟩,⟨hkz0,hkw0⟩,⟨(S.num 12 rfl),(S.num 13 rfl)⟩,(S.num 14 rfl),(S.num 15 rfl)⟩) (by omega) (by omega) (by omega) (by assumption) (by assumption) (by assumption) (by assumption)) fun v a V8 hF hb S=>?_
 subst hF
 refine tvg S (S.at 4 rfl) (zac rfl (S.at 11 rfl)) fun a S=>?_
 refine tvg S (S.at 5 rfl) (zaX (zdq _ (by decide) rfl (S.at 1 rfl) (S.at 0 rfl)) (show(!decide (zaj (crs q1 r1 q2 r2 q0 r0) 0=zaj (crs q0 r0 q1 r1 q2 r2) 0))=false from zr5)) fun a S=>?_
 refine tv S (zaP false rfl (S.at 6 rfl) (S.at 0 rfl)) fun a S=>?_
 refine tv S (zac rfl (S.at 0 rfl)) fun a S=>?_
 refine tvg S (S.at 0 rfl) (zad rfl (S.at 21 rfl) (S.bx 2 rfl) Tryz.underlying29 rfl (vs:=[.bool b2_,.slice x2_.A x2_.n x2_.c,.slice y2_.A y2_.n y2_.c,.bool d2_,.slice z2_.A z2_.n z2_.c,.slice w2_.A w2_.n w2_.c]) zam rfl) fun a S=>?_
 refine tvg S (S.at 1 rfl) (zad rfl (S.at 24 rfl) (S.bx 0 rfl) Tryz.underlying29 rfl (vs:=[.bool b0_,.slice x0_.A x0_.n x0_.c,.slice y0_.A y0_.n y0_.c,.bool d0_,.slice z0_.A z0_.n z0_.c,.slice w0_.A w0_.n w0_.c]) zam rfl) fun a S=>?_
 refine tvg S (S.at 2 rfl) (zad rfl (S.at 24 rfl) (S.bx 1 rfl) Tryz.underlying29 rfl (vs:=[.bool b1_,.slice x1_.A x1_.n x1_.c,.slice y1_.A y1_.n y1_.c,.bool d1_,.slice z1_.A z1_.n z1_.c,.slice w1_.A w1_.n w1_.c]) zam rfl) fun a S=>?_
 refine tcg S (S.at 3 rfl) (F:=(fun v _=>v= .int .i64 (zaj (crs q2 r2 q0 r0 q1 r1) 0))) (rc3 Tryz.func10 (S.at 2 rfl) (S.at 1 rfl) (S.at 0 rfl)) (zb3 (T.keep S.below) (show P1 80 (q2) (r2) (.agg #[.bool b2_,.slice x2_.A x2_.n x2_.c,.slice y2_.A y2_.n y2_.c,.bool d2_,.slice z2_.A z2_.n z2_.c,.slice w2_.A w2_.n w2_.c]) _ from⟨b2_,x2_,y2_,d2_,z2_,w2_,rfl,hqa2,hra2,⟨hkx2,hky2⟩,⟨hkz2,hkw2⟩,⟨(S.num 4 rfl),(S.num 5 rfl)⟩,(S.num 6 rfl),(S.num 7 rfl)⟩) (show P1 80 (q0) (r0) (.agg #[.bool b0_,.slice x0_.A x0_.n x0_.c,.slice y0_.A y0_.n y0_.c,.bool d0_,.slice z0_.A z0_.n z0_.c,.slice w0_.A w0_.n w0_.c]) _ from⟨b0_,x0_,y0_,d0_,z0_,w0_,rfl,hqa0,hra0,⟨hkx0,hky0⟩,⟨hkz0,hkw0⟩,⟨(S.num 12 rfl),(S.num 13 rfl)⟩,(S.num 14 rfl),(S.num 15 rfl)⟩) (show P1 80 (q1) (r1) (.agg #[.bool b1_,.slice x1_.A x1_.n x1_.c,.slice y1_.A y1_.n y1_.c,.bool d1_,.slice z1_.A z1_.n z1_.c,.slice w1_.A w1_.n w1_.c]) _ from⟨b1_,x1_,y1_,d1_,z1_,w1_,rfl,hqa1,hra1,⟨hkx1,hky1⟩,⟨hkz1,hkw1⟩,⟨(S.num 8 rfl),(S.num 9 rfl)⟩,(S.num 10 rfl),(S.num 11 rfl)⟩) (by omega) (by omega) (by omega) (by assumption) (by assumption) (by assumption) (by assumption)) fun v a V9 hF hb S=>?_
 subst hF
 refine tvg S (S.at 4 rfl) (zac rfl (S.at 19 rfl)) fun a S=>?_
 refine tvg S (S.at 5 rfl) (zaX (zdq _ (by decide) rfl (S.at 1 rfl) (S.at 0 rfl)) (show(!decide (zaj (crs q2 r2 q0 r0 q1 r1) 0=zaj (crs q0 r0 q1 r1 q2 r2) 0))=false from zr6)) fun a S=>?_
 refine tv S (zaP false rfl (S.at 6 rfl) (S.at 0 rfl)) fun a S=>?_
 refine tv S (zac rfl (S.at 0 rfl)) fun a S=>?_
 refine tvg S (S.at 0 rfl) (zad rfl (S.at 30 rfl) (S.bx 1 rfl) Tryz.underlying29 rfl (vs:=[.bool b1_,.slice x1_.A x1_.n x1_.c,.slice y1_.A y1_.n y1_.c,.bool d1_,.slice z1_.A z1_.n z1_.c,.slice w1_.A w1_.n w1_.c]) zam rfl) fun a S=>?_
 refine tvg S (S.at 1 rfl) (zad rfl (S.at 32 rfl) (S.bx 0 rfl) Tryz.underlying29 rfl (vs:=[.bool b0_,.slice x0_.A x0_.n x0_.c,.slice y0_.A y0_.n y0_.c,.bool d0_,.slice z0_.A z0_.n z0_.c,.slice w0_.A w0_.n w0_.c]) zam rfl) fun a S=>?_
 refine tvg S (S.at 2 rfl) (zad rfl (S.at 31 rfl) (S.bx 2 rfl) Tryz.underlying29 rfl (vs:=[.bool b2_,.slice x2_.A x2_.n x2_.c,.slice y2_.A y2_.n y2_.c,.bool d2_,.slice z2_.A z2_.n z2_.c,.slice w2_.A w2_.n w2_.c]) zam rfl) fun a S=>?_
 refine tcg S (S.at 3 rfl) (F:=(fun v _=>v= .int .i64 (zaj (crs q1 r1 q0 r0 q2 r2) 0))) (rc3 Tryz.func10 (S.at 2 rfl) (S.at 1 rfl) (S.at 0 rfl)) (zb3 (T.keep S.below) (show P1 80 (q1) (r1) (.agg #[.bool b1_,.slice x1_.A x1_.n x1_.c,.slice y1_.A y1_.n y1_.c,.bool d1_,.slice z1_.A z1_.n z1_.c,.slice w1_.A w1_.n w1_.c]) _ from⟨b1_,x1_,y1_,d1_,z1_,w1_,rfl,hqa1,hra1,⟨hkx1,hky1⟩,⟨hkz1,hkw1⟩,⟨(S.num 8 rfl),(S.num 9 rfl)⟩,(S.num 10 rfl),(S.num 11 rfl)⟩) (show P1 80 (q0) (r0) (.agg #[.bool b0_,.slice x0_.A x0_.n x0_.c,.slice y0_.A y0_.n y0_.c,.bool d0_,.slice z0_.A z0_.n z0_.c,.slice w0_.A w0_.n w0_.c]) _ from⟨b0_,x0_,y0_,d0_,z0_,w0_,rfl,hqa0,hra0,⟨hkx0,hky0⟩,⟨hkz0,hkw0⟩,⟨(S.num 12 rfl),(S.num 13 rfl)⟩,(S.num 14 rfl),(S.num 15 rfl)⟩) (show P1 80 (q2) (r2) (.agg #[.bool b2_,.slice x2_.A x2_.n x2_.c,.slice y2_.A y2_.n y2_.c,.bool d2_,.slice z2_.A z2_.n z2_.c,.slice w2_.A w2_.n w2_.c]) _ from⟨b2_,x2_,y2_,d2_,z2_,w2_,rfl,hqa2,hra2,⟨hkx2,hky2⟩,⟨hkz2,hkw2⟩,⟨(S.num 4 rfl),(S.num 5 rfl)⟩,(S.num 6 rfl),(S.num 7 rfl)⟩) (by omega) (by omega) (by omega) (by assumption) (by assumption) (by assumption) (by assumption)) fun v a V10 hF hb S=>?_
 subst hF
 refine tvg S (S.at 4 rfl) (zac rfl (S.at 27 rfl)) fun a S=>?_
 refine tvg S (S.at 5 rfl) (zn2 rfl (S.at 0 rfl) (zkY _ _)) fun a S=>?_
 refine tvg S (S.at 6 rfl) (zaX (zdq _ (by decide) rfl (S.at 2 rfl) (S.at 0 rfl)) (show(!decide (zaj (crs q1 r1 q0 r0 q2 r2) 0= -(zaj (crs q0 r0 q1 r1 q2 r2) 0)))=false from zr7)) fun a S=>?_
 refine tv S (zaP false rfl (S.at 7 rfl) (S.at 0 rfl)) fun a S=>?_
 refine tv S (zac rfl (S.at 0 rfl)) fun a S=>?_
 refine tvg S (S.at 0 rfl) (zad rfl (S.at 40 rfl) (S.bx 0 rfl) Tryz.underlying29 rfl (vs:=[.bool b0_,.slice x0_.A x0_.n x0_.c,.slice y0_.A y0_.n y0_.c,.bool d0_,.slice z0_.A z0_.n z0_.c,.slice w0_.A w0_.n w0_.c]) zam rfl) fun a S=>?_
 refine tvg S (S.at 1 rfl) (zad rfl (S.at 39 rfl) (S.bx 2 rfl) Tryz.underlying29 rfl (vs:=[.bool b2_,.slice x2_.A x2_.n x2_.c,.slice y2_.A y2_.n y2_.c,.bool d2_,.slice z2_.A z2_.n z2_.c,.slice w2_.A w2_.n w2_.c]) zam rfl) fun a S=>?_
 refine tvg S (S.at 2 rfl) (zad rfl (S.at 41 rfl) (S.bx 1 rfl) Tryz.underlying29 rfl (vs:=[.bool b1_,.slice x1_.A x1_.n x1_.c,.slice y1_.A y1_.n y1_.c,.bool d1_,.slice z1_.A z1_.n z1_.c,.slice w1_.A w1_.n w1_.c]) zam rfl) fun a S=>?_
 refine tcg S (S.at 3 rfl) (F:=(fun v _=>v= .int .i64 (zaj (crs q0 r0 q2 r2 q1 r1) 0))) (rc3 Tryz.func10 (S.at 2 rfl) (S.at 1 rfl) (S.at 0 rfl)) (zb3 (T.keep S.below) (show P1 80 (q0) (r0) (.agg #[.bool b0_,.slice x0_.A x0_.n x0_.c,.slice y0_.A y0_.n y0_.c,.bool d0_,.slice z0_.A z0_.n z0_.c,.slice w0_.A w0_.n w0_.c]) _ from⟨b0_,x0_,y0_,d0_,z0_,w0_,rfl,hqa0,hra0,⟨hkx0,hky0⟩,⟨hkz0,hkw0⟩,⟨(S.num 12 rfl),(S.num 13 rfl)⟩,(S.num 14 rfl),(S.num 15 rfl)⟩) (show P1 80 (q2) (r2) (.agg #[.bool b2_,.slice x2_.A x2_.n x2_.c,.slice y2_.A y2_.n y2_.c,.bool d2_,.slice z2_.A z2_.n z2_.c,.slice w2_.A w2_.n w2_.c]) _ from⟨b2_,x2_,y2_,d2_,z2_,w2_,rfl,hqa2,hra2,⟨hkx2,hky2⟩,⟨hkz2,hkw2⟩,⟨(S.num 4 rfl),(S.num 5 rfl)⟩,(S.num 6 rfl),(S.num 7 rfl)⟩) (show P1 80 (q1) (r1) (.agg #[.bool b1_,.slice x1_.A x1_.n x1_.c,.slice y1_.A y1_.n y1_.c,.bool d1_,.slice z1_.A z1_.n z1_.c,.slice w1_.A w1_.n w1_.c]) _ from⟨b1_,x1_,y1_,d1_,z1_,w1_,rfl,hqa1,hra1,⟨hkx1,hky1⟩,⟨hkz1,hkw1⟩,⟨(S.num 8 rfl),(S.num 9 rfl)⟩,(S.num 10 rfl),(S.num 11 rfl)⟩) (by omega) (by omega) (by omega) (by assumption) (by assumption) (by assumption) (by assumption)) fun v a V11 hF hb S=>?_
 subst hF
 refine tvg S (S.at 4 rfl) (zac rfl (S.at 36 rfl)) fun a S=>?_
 refine tvg S (S.at 5 rfl) (zn2 rfl (S.at 0 rfl) (zkY _ _)) fun a S=>?_
 refine tvg S (S.at 6 rfl) (zaX (zdq _ (by decide) rfl (S.at 2 rfl) (S.at 0 rfl)) (show(!decide (zaj (crs q0 r0 q2 r2 q1 r1) 0= -(zaj (crs q0 r0 q1 r1 q2 r2) 0)))=false from zr8)) fun a S=>?_
 refine tv S (zaP false rfl (S.at 7 rfl) (S.at 0 rfl)) fun a S=>?_
 refine tv S (zac rfl (S.at 0 rfl)) fun a S=>?_
 refine tvg S (S.at 0 rfl) (zad rfl (S.at 49 rfl) (S.bx 0 rfl) Tryz.underlying29 rfl (vs:=[.bool b0_,.slice x0_.A x0_.n x0_.c,.slice y0_.A y0_.n y0_.c,.bool d0_,.slice z0_.A z0_.n z0_.c,.slice w0_.A w0_.n w0_.c]) zam rfl) fun a S=>?_
 refine tvg S (S.at 1 rfl) (zad rfl (S.at 50 rfl) (S.bx 0 rfl) Tryz.underlying29 rfl (vs:=[.bool b0_,.slice x0_.A x0_.n x0_.c,.slice y0_.A y0_.n y0_.c,.bool d0_,.slice z0_.A z0_.n z0_.c,.slice w0_.A w0_.n w0_.c]) zam rfl) fun a S=>?_
 refine tvg S (S.at 2 rfl) (zad rfl (S.at 49 rfl) (S.bx 2 rfl) Tryz.underlying29 rfl (vs:=[.bool b2_,.slice x2_.A x2_.n x2_.c,.slice y2_.A y2_.n y2_.c,.bool d2_,.slice z2_.A z2_.n z2_.c,.slice w2_.A w2_.n w2_.c]) zam rfl) fun a S=>?_
 refine tcg S (S.at 3 rfl) (F:=(fun v _=>v= .int .i64 (zaj (crs q0 r0 q0 r0 q2 r2) 0))) (rc3 Tryz.func10 (S.at 2 rfl) (S.at 1 rfl) (S.at 0 rfl)) (zb3 (T.keep S.below) (show P1 80 (q0) (r0) (.agg #[.bool b0_,.slice x0_.A x0_.n x0_.c,.slice y0_.A y0_.n y0_.c,.bool d0_,.slice z0_.A z0_.n z0_.c,.slice w0_.A w0_.n w0_.c]) _ from⟨b0_,x0_,y0_,d0_,z0_,w0_,rfl,hqa0,hra0,⟨hkx0,hky0⟩,⟨hkz0,hkw0⟩,⟨(S.num 12 rfl),(S.num 13 rfl)⟩,(S.num 14 rfl),(S.num 15 rfl)⟩) (show P1 80 (q0) (r0) (.agg #[.bool b0_,.slice x0_.A x0_.n x0_.c,.slice y0_.A y0_.n y0_.c,.bool d0_,.slice z0_.A z0_.n z0_.c,.slice w0_.A w0_.n w0_.c]) _ from⟨b0_,x0_,y0_,d0_,z0_,w0_,rfl,hqa0,hra0,⟨hkx0,hky0⟩,⟨hkz0,hkw0⟩,⟨(S.num 12 rfl),(S.num 13 rfl)⟩,(S.num 14 rfl),(S.num 15 rfl)⟩) (show P1 80 (q2) (r2) (.agg #[.bool b2_,.slice x2_.A x2_.n x2_.c,.slice y2_.A y2_.n y2_.c,.bool d2_,.slice z2_.A z2_.n z2_.c,.slice w2_.A w2_.n w2_.c]) _ from⟨b2_,x2_,y2_,d2_,z2_,w2_,rfl,hqa2,hra2,⟨hkx2,hky2⟩,⟨hkz2,hkw2⟩,⟨(S.num 4 rfl),(S.num 5 rfl)⟩,(S.num 6 rfl),(S.num 7 rfl)⟩) (by omega) (by omega) (by omega) (by assumption) (by assumption) (by assumption) (by assumption)) fun v a V12 hF hb S=>?_
 subst hF
 refine tvg S (S.at 4 rfl) (zaX (zdq _ (by decide) rfl (S.at 0 rfl) rfl) (show(!decide (zaj (crs q0 r0 q0 r0 q2 r2) 0=0))=false from zr9)) fun a S=>?_
 refine tv S (zaP false rfl (S.at 5 rfl) (S.at 0 rfl)) fun a S=>?_
 refine hK6 _ _ ?_
 refine wp_cond_false (S.at 0 rfl) ?_
 refine wp_skip ?_
 refine hK5 _ _ ?_
 refine wp_seq_k fun K7 hK7=>?_
 have S:=S.keep [9,7,6,5,4] (ls':=[(9,.int .i64 (zaj (crs q0 r0 q1 r1 q2 r2) 0)),(7,.pointer (some ⟨g4,0,none⟩)),(6,.pointer (some ⟨g3,0,none⟩)),(5,.pointer (some ⟨g2,0,none⟩)),(4,.pointer (some ⟨g1,0,none⟩))]) rfl
 obtain⟨W1,hW1⟩:∃W,W=V12:=⟨_,rfl⟩
 rw[←hW1]at S ⊢
 have S0:=S
 refine frs [(29,6)] [some 71,some 72,some 73,some 74,some 75,some 76,some 77,some 78,some 79,some 10,some 11,some 12,none,none,none] [IsV (.agg #[.bool b0_,.slice x0_.A x0_.n x0_.c,.slice y0_.A y0_.n y0_.c,.bool d0_,.slice z0_.A z0_.n z0_.c,.slice w0_.A w0_.n w0_.c]),IsV (.agg #[.bool b3_,.slice x3_.A x3_.n x3_.c,.slice y3_.A y3_.n y3_.c,.bool d3_,.slice z3_.A z3_.n z3_.c,.slice w3_.A w3_.n w3_.c]),PT 349 (q0+q3) (r0+r3),IsV (.agg #[.bool b1_,.slice x1_.A x1_.n x1_.c,.slice y1_.A y1_.n y1_.c,.bool d1_,.slice z1_.A z1_.n z1_.c,.slice w1_.A w1_.n w1_.c]),IsV (.agg #[.bool b3_,.slice x3_.A x3_.n x3_.c,.slice y3_.A y3_.n y3_.c,.bool d3_,.slice z3_.A z3_.n z3_.c,.slice w3_.A w3_.n w3_.c]),PT 349 (q1+q3) (r1+r3),IsV (.agg #[.bool b2_,.slice x2_.A x2_.n x2_.c,.slice y2_.A y2_.n y2_.c,.bool d2_,.slice z2_.A z2_.n z2_.c,.slice w2_.A w2_.n w2_.c]),IsV (.agg #[.bool b3_,.slice x3_.A x3_.n x3_.c,.slice y3_.A y3_.n y3_.c,.bool d3_,.slice z3_.A z3_.n z3_.c,.slice w3_.A w3_.n w3_.c]),PT 349 (q2+q3) (r2+r3),zeZ,zeZ,zeZ,zeZ,zeZ,zeZ] [⟨9,10,29,[.bool false,.slice none 0 0,.slice none 0 0,.bool false,.slice none 0 0,.slice none 0 0]⟩,⟨10,11,29,[.bool false,.slice none 0 0,.slice none 0 0,.bool false,.slice none 0 0,.slice none 0 0]⟩,⟨11,12,29,[.bool false,.slice none 0 0,.slice none 0 0,.bool false,.slice none 0 0,.slice none 0 0]⟩] [⟨12,10,29,PT 349 (q0+q3) (r0+r3)⟩,⟨13,11,29,PT 349 (q1+q3) (r1+r3)⟩,⟨14,12,29,PT 349 (q2+q3) (r2+r3)⟩] [] (lb:=[⟨g1,29,[.bool b0_,.slice x0_.A x0_.n x0_.c,.slice y0_.A y0_.n y0_.c,.bool d0_,.slice z0_.A z0_.n z0_.c,.slice w0_.A w0_.n w0_.c]⟩,⟨g2,29,[.bool b1_,.slice x1_.A x1_.n x1_.c,.slice y1_.A y1_.n y1_.c,.bool d1_,.slice z1_.A z1_.n z1_.c,.slice w1_.A w1_.n w1_.c]⟩,⟨g3,29,[.bool b2_,.slice x2_.A x2_.n x2_.c,.slice y2_.A y2_.n y2_.c,.bool d2_,.slice z2_.A z2_.n z2_.c,.slice w2_.A w2_.n w2_.c]⟩,⟨g4,29,[.bool b3_,.slice x3_.A x3_.n x3_.c,.slice y3_.A y3_.n y3_.c,.bool d3_,.slice z3_.A z3_.n z3_.c,.slice w3_.A w3_.n w3_.c]⟩]) S (all_cons (zfi 0 rfl rfl) (all_cons (zfi 1 rfl rfl) (all_cons (zfi 2 rfl rfl) zaY))) ?_ (all_cons ⟨rfl,_,rfl,rfl,rfl,fun _ _ _=>(zay rfl (Tryz.zeroValue29 _) rfl)⟩ (all_cons ⟨rfl,_,rfl,rfl,rfl,fun _ _ _=>(zay rfl (Tryz.zeroValue29 _) rfl)⟩ (all_cons ⟨rfl,_,rfl,rfl,rfl,fun _ _ _=>(zay rfl (Tryz.zeroValue29 _) rfl)⟩ zaY))) (all_cons ⟨_,6,rfl,rfl,rfl,List.mem_of_getElem? (i:=0) rfl,(all_cons (fun h=>⟨rfl,rfl⟩) (all_cons (fun h=>by cases h) (all_cons (fun h=>by cases h) zaY))),zaY,fun _ _ _ _ hg hd=>zff (hd.r 2 rfl rfl) (hd.r 2 rfl rfl).parts rfl hg rfl zam⟩ (all_cons ⟨_,6,rfl,rfl,rfl,List.mem_of_getElem? (i:=0) rfl,(all_cons (fun h=>by cases h) (all_cons (fun h=>⟨rfl,rfl⟩) (all_cons (fun h=>by cases h) zaY))),zaY,fun _ _ _ _ hg hd=>zff (hd.r 5 rfl rfl) (hd.r 5 rfl rfl).parts rfl hg rfl zam⟩ (all_cons ⟨_,6,rfl,rfl,rfl,List.mem_of_getElem? (i:=0) rfl,(all_cons (fun h=>by cases h) (all_cons (fun h=>by cases h) (all_cons (fun h=>⟨rfl,rfl⟩) zaY))),zaY,fun _ _ _ _ hg hd=>zff (hd.r 8 rfl rfl) (hd.r 8 rfl rfl).parts rfl hg rfl zam⟩ zaY))) zaY ?_
 ·refine va (fun _ _ S _ _ _=>sv rfl (zad rfl (S.at 4 rfl) (S.bx 0 rfl) Tryz.underlying29 rfl (vs:=[.bool b0_,.slice x0_.A x0_.n x0_.c,.slice y0_.A y0_.n y0_.c,.bool d0_,.slice z0_.A z0_.n z0_.c,.slice w0_.A w0_.n w0_.c]) zam rfl)) ?_
  refine va (fun _ _ S _ _ _=>sv rfl (zad rfl (S.at 1 rfl) (S.bx 3 rfl) Tryz.underlying29 rfl (vs:=[.bool b3_,.slice x3_.A x3_.n x3_.c,.slice y3_.A y3_.n y3_.c,.bool d3_,.slice z3_.A z3_.n z3_.c,.slice w3_.A w3_.n w3_.c]) zam rfl)) ?_
  refine va (fun _ _ S _ hd _=>sl rfl (rc2 Tryz.func25 (hd.v 0 rfl rfl) (hd.v 1 rfl rfl)) (zkx (((show P1 80 (q0) (r0) (.agg #[.bool b0_,.slice x0_.A x0_.n x0_.c,.slice y0_.A y0_.n y0_.c,.bool d0_,.slice z0_.A z0_.n z0_.c,.slice w0_.A w0_.n w0_.c]) _ from⟨b0_,x0_,y0_,d0_,z0_,w0_,rfl,hqa0,hra0,⟨hkx0,hky0⟩,⟨hkz0,hkw0⟩,⟨(S.num 12 rfl),(S.num 13 rfl)⟩,(S.num 14 rfl),(S.num 15 rfl)⟩)).to rfl rfl (by decide)) (((show P1 80 (q3) (r3) (.agg #[.bool b3_,.slice x3_.A x3_.n x3_.c,.slice y3_.A y3_.n y3_.c,.bool d3_,.slice z3_.A z3_.n z3_.c,.slice w3_.A w3_.n w3_.c]) _ from⟨b3_,x3_,y3_,d3_,z3_,w3_,rfl,hqa3,hra3,⟨hkx3,hky3⟩,⟨hkz3,hkw3⟩,⟨(S.num 0 rfl),(S.num 1 rfl)⟩,(S.num 2 rfl),(S.num 3 rfl)⟩)).to rfl rfl (by decide)) (by assumption) (by assumption))) ?_
  refine va (fun _ _ S _ _ _=>sv rfl (zad rfl (S.at 3 rfl) (S.bx 1 rfl) Tryz.underlying29 rfl (vs:=[.bool b1_,.slice x1_.A x1_.n x1_.c,.slice y1_.A y1_.n y1_.c,.bool d1_,.slice z1_.A z1_.n z1_.c,.slice w1_.A w1_.n w1_.c]) zam rfl)) ?_
  refine va (fun _ _ S _ _ _=>sv rfl (zad rfl (S.at 1 rfl) (S.bx 3 rfl) Tryz.underlying29 rfl (vs:=[.bool b3_,.slice x3_.A x3_.n x3_.c,.slice y3_.A y3_.n y3_.c,.bool d3_,.slice z3_.A z3_.n z3_.c,.slice w3_.A w3_.n w3_.c]) zam rfl)) ?_
  refine va (fun _ _ S _ hd _=>sl rfl (rc2 Tryz.func25 (hd.v 3 rfl rfl) (hd.v 4 rfl rfl)) (zkx (((show P1 80 (q1) (r1) (.agg #[.bool b1_,.slice x1_.A x1_.n x1_.c,.slice y1_.A y1_.n y1_.c,.bool d1_,.slice z1_.A z1_.n z1_.c,.slice w1_.A w1_.n w1_.c]) _ from⟨b1_,x1_,y1_,d1_,z1_,w1_,rfl,hqa1,hra1,⟨hkx1,hky1⟩,⟨hkz1,hkw1⟩,⟨(S.num 8 rfl),(S.num 9 rfl)⟩,(S.num 10 rfl),(S.num 11 rfl)⟩)).to rfl rfl (by decide)) (((show P1 80 (q3) (r3) (.agg #[.bool b3_,.slice x3_.A x3_.n x3_.c,.slice y3_.A y3_.n y3_.c,.bool d3_,.slice z3_.A z3_.n z3_.c,.slice w3_.A w3_.n w3_.c]) _ from⟨b3_,x3_,y3_,d3_,z3_,w3_,rfl,hqa3,hra3,⟨hkx3,hky3⟩,⟨hkz3,hkw3⟩,⟨(S.num 0 rfl),(S.num 1 rfl)⟩,(S.num 2 rfl),(S.num 3 rfl)⟩)).to rfl rfl (by decide)) (by assumption) (by assumption))) ?_
  refine va (fun _ _ S _ _ _=>sv rfl (zad rfl (S.at 2 rfl) (S.bx 2 rfl) Tryz.underlying29 rfl (vs:=[.bool b2_,.slice x2_.A x2_.n x2_.c,.slice y2_.A y2_.n y2_.c,.bool d2_,.slice z2_.A z2_.n z2_.c,.slice w2_.A w2_.n w2_.c]) zam rfl)) ?_
  refine va (fun _ _ S _ _ _=>sv rfl (zad rfl (S.at 1 rfl) (S.bx 3 rfl) Tryz.underlying29 rfl (vs:=[.bool b3_,.slice x3_.A x3_.n x3_.c,.slice y3_.A y3_.n y3_.c,.bool d3_,.slice z3_.A z3_.n z3_.c,.slice w3_.A w3_.n w3_.c]) zam rfl)) ?_
  refine va (fun _ _ S _ hd _=>sl rfl (rc2 Tryz.func25 (hd.v 6 rfl rfl) (hd.v 7 rfl rfl)) (zkx (((show P1 80 (q2) (r2) (.agg #[.bool b2_,.slice x2_.A x2_.n x2_.c,.slice y2_.A y2_.n y2_.c,.bool d2_,.slice z2_.A z2_.n z2_.c,.slice w2_.A w2_.n w2_.c]) _ from⟨b2_,x2_,y2_,d2_,z2_,w2_,rfl,hqa2,hra2,⟨hkx2,hky2⟩,⟨hkz2,hkw2⟩,⟨(S.num 4 rfl),(S.num 5 rfl)⟩,(S.num 6 rfl),(S.num 7 rfl)⟩)).to rfl rfl (by decide)) (((show P1 80 (q3) (r3) (.agg #[.bool b3_,.slice x3_.A x3_.n x3_.c,.slice y3_.A y3_.n y3_.c,.bool d3_,.slice z3_.A z3_.n z3_.c,.slice w3_.A w3_.n w3_.c]) _ from⟨b3_,x3_,y3_,d3_,z3_,w3_,rfl,hqa3,hra3,⟨hkx3,hky3⟩,⟨hkz3,hkw3⟩,⟨(S.num 0 rfl),(S.num 1 rfl)⟩,(S.num 2 rfl),(S.num 3 rfl)⟩)).to rfl rfl (by decide)) (by assumption) (by assumption))) ?_
  refine vb ?_
  refine vb ?_
  refine vb ?_
  refine vs ?_
  refine vs ?_
  refine vs ?_
  exact vn
 ·intro a1 V13 S hB hf hl hdis hs hp
  obtain⟨g5,csg5,hvg5,hgg5,hbg5,hlg5,hng5,hkg5⟩:=hl _ (List.mem_of_getElem? (i:=0) rfl)
  obtain⟨g6,csg6,hvg6,hgg6,hbg6,hlg6,hng6,hkg6⟩:=hl _ (List.mem_of_getElem? (i:=1) rfl)
  obtain⟨g7,csg7,hvg7,hgg7,hbg7,hlg7,hng7,hkg7⟩:=hl _ (List.mem_of_getElem? (i:=2) rfl)
  have hne_g5_g6:g5≠g6:=fun h=>hdis _ (List.mem_of_getElem? (i:=0) rfl) _ (List.mem_of_getElem? (i:=1) rfl) (by decide) (hvg5.trans (h▸hvg6.symm))
  have hne_g5_g7:g5≠g7:=fun h=>hdis _ (List.mem_of_getElem? (i:=0) rfl) _ (List.mem_of_getElem? (i:=2) rfl) (by decide) (hvg5.trans (h▸hvg7.symm))
  have hne_g6_g7:g6≠g7:=fun h=>hdis _ (List.mem_of_getElem? (i:=1) rfl) _ (List.mem_of_getElem? (i:=2) rfl) (by decide) (hvg6.trans (h▸hvg7.symm))
  obtain⟨gs1,vsgs1,hvgs1,-,hbgs1,hngs1,hPgs1⟩:=hs _ (List.mem_of_getElem? (i:=0) rfl)
  have hegs1:=zd5 ((hvg5).symm.trans hvgs1)
  subst hegs1
  obtain⟨b1,x1,y1,b2,x2,y2,hv1,hq1,hq2,⟨hk1,hk2⟩,⟨hk3,hk4⟩,⟨ok1,ok2⟩,ok3,ok4⟩:=(show PT 349 (q0+q3) (r0+r3) (.agg vsgs1.toArray) V13 from hPgs1)
  have hvsgs1:=zd6 (ws:=[.bool b1,.slice x1.A x1.n x1.c,.slice y1.A y1.n y1.c,.bool b2,.slice x2.A x2.n x2.c,.slice y2.A y2.n y2.c]) hv1
  subst hvsgs1
  have S:=S.know ok1
  have S:=S.know ok2
  have S:=S.know ok3
  have S:=S.know ok4
  obtain⟨gs2,vsgs2,hvgs2,-,hbgs2,hngs2,hPgs2⟩:=hs _ (List.mem_of_getElem? (i:=1) rfl)
  have hegs2:=zd5 ((hvg6).symm.trans hvgs2)
  subst hegs2
  obtain⟨b3,x3,y3,b4,x4,y4,hv2,hq3,hq4,⟨hk5,hk6⟩,⟨hk7,hk8⟩,⟨ok5,ok6⟩,ok7,ok8⟩:=(show PT 349 (q1+q3) (r1+r3) (.agg vsgs2.toArray) V13 from hPgs2)
  have hvsgs2:=zd6 (ws:=[.bool b3,.slice x3.A x3.n x3.c,.slice y3.A y3.n y3.c,.bool b4,.slice x4.A x4.n x4.c,.slice y4.A y4.n y4.c]) hv2
  subst hvsgs2
  have S:=S.know ok5
  have S:=S.know ok6
  have S:=S.know ok7
  have S:=S.know ok8
  obtain⟨gs3,vsgs3,hvgs3,-,hbgs3,hngs3,hPgs3⟩:=hs _ (List.mem_of_getElem? (i:=2) rfl)
  have hegs3:=zd5 ((hvg7).symm.trans hvgs3)
  subst hegs3
  obtain⟨b5,x5,y5,b6,x6,y6,hv3,hq5,hq6,⟨hk9,hk10⟩,⟨hk11,hk12⟩,⟨ok9,ok10⟩,ok11,ok12⟩:=(show PT 349 (q2+q3) (r2+r3) (.agg vsgs3.toArray) V13 from hPgs3)
  have hvsgs3:=zd6 (ws:=[.bool b5,.slice x5.A x5.n x5.c,.slice y5.A y5.n y5.c,.bool b6,.slice x6.A x6.n x6.c,.slice y6.A y6.n y6.c]) hv3
  subst hvsgs3
  have S:=S.know ok9
  have S:=S.know ok10
  have S:=S.know ok11
  have S:=S.know ok12
  have S:=Frm.readd (S.add hvg5) (zsm S0.below.size hgg5) hbgs1 rfl (zbb (zaS (S0.lt 0 rfl) hgg5) (zbb (zaS (S0.lt 1 rfl) hgg5) (zbb (zaS (S0.lt 2 rfl) hgg5) (zbb (zaS (S0.lt 3 rfl) hgg5) zfe))))
  have S:=Frm.readd (S.add hvg6) (zsm S0.below.size hgg6) hbgs2 rfl (zbb (zaS (S0.lt 0 rfl) hgg6) (zbb (zaS (S0.lt 1 rfl) hgg6) (zbb (zaS (S0.lt 2 rfl) hgg6) (zbb (zaS (S0.lt 3 rfl) hgg6) (zbb hne_g5_g6 zfe)))))
  have S:=Frm.readd (S.add hvg7) (zsm S0.below.size hgg7) hbgs3 rfl (zbb (zaS (S0.lt 0 rfl) hgg7) (zbb (zaS (S0.lt 1 rfl) hgg7) (zbb (zaS (S0.lt 2 rfl) hgg7) (zbb (zaS (S0.lt 3 rfl) hgg7) (zbb hne_g5_g7 (zbb hne_g6_g7 zfe))))))
  have S:Frm 100 [(12,.pointer (some ⟨g7,0,none⟩)),(11,.pointer (some ⟨g6,0,none⟩)),(10,.pointer (some ⟨g5,0,none⟩)),(9,.int .i64 (zaj (crs q0 r0 q1 r1 q2 r2) 0)),(7,.pointer (some ⟨g4,0,none⟩)),(6,.pointer (some ⟨g3,0,none⟩)),(5,.pointer (some ⟨g2,0,none⟩)),(4,.pointer (some ⟨g1,0,none⟩))] [⟨g1,29,[.bool b0_,.slice x0_.A x0_.n x0_.c,.slice y0_.A y0_.n y0_.c,.bool d0_,.slice z0_.A z0_.n z0_.c,.slice w0_.A w0_.n w0_.c]⟩,⟨g2,29,[.bool b1_,.slice x1_.A x1_.n x1_.c,.slice y1_.A y1_.n y1_.c,.bool d1_,.slice z1_.A z1_.n z1_.c,.slice w1_.A w1_.n w1_.c]⟩,⟨g3,29,[.bool b2_,.slice x2_.A x2_.n x2_.c,.slice y2_.A y2_.n y2_.c,.bool d2_,.slice z2_.A z2_.n z2_.c,.slice w2_.A w2_.n w2_.c]⟩,⟨g4,29,[.bool b3_,.slice x3_.A x3_.n x3_.c,.slice y3_.A y3_.n y3_.c,.bool d3_,.slice z3_.A z3_.n z3_.c,.slice w3_.A w3_.n w3_.c]⟩,⟨g5,29,[.bool b1,.slice x1.A x1.n x1.c,.slice y1.A y1.n y1.c,.bool b2,.slice x2.A x2.n x2.c,.slice y2.A y2.n y2.c]⟩,⟨g6,29,[.bool b3,.slice x3.A x3.n x3.c,.slice y3.A y3.n y3.c,.bool b4,.slice x4.A x4.n x4.c,.slice y4.A y4.n y4.c]⟩,⟨g7,29,[.bool b5,.slice x5.A x5.n x5.c,.slice y5.A y5.n y5.c,.bool b6,.slice x6.A x6.n x6.c,.slice y6.A y6.n y6.c]⟩] V _ _ _:=S
  clear hf hl hdis hs hp S0
  refine hK7 _ _ ?_
  refine wp_seq_k fun K8 hK8=>?_
  obtain⟨W2,hW2⟩:∃W,W=V13:=⟨_,rfl⟩
  rw[←hW2]at S ⊢
  have S0:=S
  refine fr 20 [80,81,82,83,84,85,86,87,88,89,90,91,92,93,94,95,96,97,98,99] [IsV (.agg #[.bool b1,.slice x1.A x1.n x1.c,.slice y1.A y1.n y1.c,.bool b2,.slice x2.A x2.n x2.c,.slice y2.A y2.n y2.c]),IsV (.agg #[.bool b3,.slice x3.A x3.n x3.c,.slice y3.A y3.n y3.c,.bool b4,.slice x4.A x4.n x4.c,.slice y4.A y4.n y4.c]),IsV (.agg #[.bool b5,.slice x5.A x5.n x5.c,.slice y5.A y5.n y5.c,.bool b6,.slice x6.A x6.n x6.c,.slice y6.A y6.n y6.c]),IsV (.int .i64 (zaj (crs (q0+q3) (r0+r3) (q1+q3) (r1+r3) (q2+q3) (r2+r3)) 0)),IsV (.int .i64 (zaj (crs q0 r0 q1 r1 q2 r2) 0)),IsV (.bool true),IsV (.bool true),IsV (.agg #[.bool b1,.slice x1.A x1.n x1.c,.slice y1.A y1.n y1.c,.bool b2,.slice x2.A x2.n x2.c,.slice y2.A y2.n y2.c]),IsV (.agg #[.bool b3,.slice x3.A x3.n x3.c,.slice y3.A y3.n y3.c,.bool b4,.slice x4.A x4.n x4.c,.slice y4.A y4.n y4.c]),IsV (.agg #[.bool b5,.slice x5.A x5.n x5.c,.slice y5.A y5.n y5.c,.bool b6,.slice x6.A x6.n x6.c,.slice y6.A y6.n y6.c]),IsV (.bool (onR (q0+q3) (r0+r3) (q1+q3) (r1+r3) (q2+q3) (r2+r3))),IsV (.agg #[.bool b0_,.slice x0_.A x0_.n x0_.c,.slice y0_.A y0_.n y0_.c,.bool d0_,.slice z0_.A z0_.n z0_.c,.slice w0_.A w0_.n w0_.c]),IsV (.agg #[.bool b1_,.slice x1_.A x1_.n x1_.c,.slice y1_.A y1_.n y1_.c,.bool d1_,.slice z1_.A z1_.n z1_.c,.slice w1_.A w1_.n w1_.c]),IsV (.agg #[.bool b2_,.slice x2_.A x2_.n x2_.c,.slice y2_.A y2_.n y2_.c,.bool d2_,.slice z2_.A z2_.n z2_.c,.slice w2_.A w2_.n w2_.c]),IsV (.bool (onR q0 r0 q1 r1 q2 r2)),IsV (.bool true),IsV (.bool true),IsV (.bool true),IsV (.bool true),IsV (.bool true)] S ?_ ?_
  ·refine sc (fun _ _ S _ _=>sv rfl (zad rfl (S.at 2 rfl) (S.bx 4 rfl) Tryz.underlying29 rfl (vs:=[.bool b1,.slice x1.A x1.n x1.c,.slice y1.A y1.n y1.c,.bool b2,.slice x2.A x2.n x2.c,.slice y2.A y2.n y2.c]) zam rfl)) ?_
   refine sc (fun _ _ S _ _=>sv rfl (zad rfl (S.at 1 rfl) (S.bx 5 rfl) Tryz.underlying29 rfl (vs:=[.bool b3,.slice x3.A x3.n x3.c,.slice y3.A y3.n y3.c,.bool b4,.slice x4.A x4.n x4.c,.slice y4.A y4.n y4.c]) zam rfl)) ?_
   refine sc (fun _ _ S _ _=>sv rfl (zad rfl (S.at 0 rfl) (S.bx 6 rfl) Tryz.underlying29 rfl (vs:=[.bool b5,.slice x5.A x5.n x5.c,.slice y5.A y5.n y5.c,.bool b6,.slice x6.A x6.n x6.c,.slice y6.A y6.n y6.c]) zam rfl)) ?_
   refine sc (fun _ _ S _ hd=>sl rfl (rc3 Tryz.func10 (hd.v 0 rfl rfl) (hd.v 1 rfl rfl) (hd.v 2 rfl rfl)) (zb3 (T.keep S.below) (show PT 349 (q0+q3) (r0+r3) (.agg #[.bool b1,.slice x1.A x1.n x1.c,.slice y1.A y1.n y1.c,.bool b2,.slice x2.A x2.n x2.c,.slice y2.A y2.n y2.c]) _ from⟨b1,x1,y1,b2,x2,y2,rfl,hq1,hq2,⟨hk1,hk2⟩,⟨hk3,hk4⟩,⟨(S.num 11 rfl),(S.num 10 rfl)⟩,(S.num 9 rfl),(S.num 8 rfl)⟩).any (show PT 349 (q1+q3) (r1+r3) (.agg #[.bool b3,.slice x3.A x3.n x3.c,.slice y3.A y3.n y3.c,.bool b4,.slice x4.A x4.n x4.c,.slice y4.A y4.n y4.c]) _ from⟨b3,x3,y3,b4,x4,y4,rfl,hq3,hq4,⟨hk5,hk6⟩,⟨hk7,hk8⟩,⟨(S.num 7 rfl),(S.num 6 rfl)⟩,(S.num 5 rfl),(S.num 4 rfl)⟩).any (show PT 349 (q2+q3) (r2+r3) (.agg #[.bool b5,.slice x5.A x5.n x5.c,.slice y5.A y5.n y5.c,.bool b6,.slice x6.A x6.n x6.c,.slice y6.A y6.n y6.c]) _ from⟨b5,x5,y5,b6,x6,y6,rfl,hq5,hq6,⟨hk9,hk10⟩,⟨hk11,hk12⟩,⟨(S.num 3 rfl),(S.num 2 rfl)⟩,(S.num 1 rfl),(S.num 0 rfl)⟩).any (by omega) (by omega) (by omega) (by assumption) (by assumption) (by assumption) (by assumption))) ?_
   refine sc (fun _ _ S _ _=>sv rfl (zac rfl (S.at 3 rfl))) ?_
   refine sc (fun _ _ _ _ hd=>sv rfl (zaX (zbW _ (by decide) rfl (hd.v 3 rfl rfl) (hd.v 4 rfl rfl)) (show(decide (zaj (crs (q0+q3) (r0+r3) (q1+q3) (r1+r3) (q2+q3) (r2+r3)) 0=zaj (crs q0 r0 q1 r1 q2 r2) 0))=true from zsa))) ?_
   refine sc (fun _ _ _ _ hd=>sv rfl (zac rfl (hd.v 5 rfl rfl))) ?_
   refine sc (fun _ _ S _ hd=>svg rfl (hd.v 6 rfl rfl) (zad rfl (S.at 2 rfl) (S.bx 4 rfl) Tryz.underlying29 rfl (vs:=[.bool b1,.slice x1.A x1.n x1.c,.slice y1.A y1.n y1.c,.bool b2,.slice x2.A x2.n x2.c,.slice y2.A y2.n y2.c]) zam rfl)) ?_
   refine sc (fun _ _ S _ hd=>svg rfl (hd.v 6 rfl rfl) (zad rfl (S.at 1 rfl) (S.bx 5 rfl) Tryz.underlying29 rfl (vs:=[.bool b3,.slice x3.A x3.n x3.c,.slice y3.A y3.n y3.c,.bool b4,.slice x4.A x4.n x4.c,.slice y4.A y4.n y4.c]) zam rfl)) ?_
   refine sc (fun _ _ S _ hd=>svg rfl (hd.v 6 rfl rfl) (zad rfl (S.at 0 rfl) (S.bx 6 rfl) Tryz.underlying29 rfl (vs:=[.bool b5,.slice x5.A x5.n x5.c,.slice y5.A y5.n y5.c,.bool b6,.slice x6.A x6.n x6.c,.slice y6.A y6.n y6.c]) zam rfl)) ?_
   refine sc (fun _ _ S _ hd=>slg rfl (hd.v 6 rfl rfl) (rc3 Tryz.func15 (hd.v 7 rfl rfl) (hd.v 8 rfl rfl) (hd.v 9 rfl rfl)) (zq2 (T.keep S.below) (show PT 349 (q0+q3) (r0+r3) (.agg #[.bool b1,.slice x1.A x1.n x1.c,.slice y1.A y1.n y1.c,.bool b2,.slice x2.A x2.n x2.c,.slice y2.A y2.n y2.c]) _ from⟨b1,x1,y1,b2,x2,y2,rfl,hq1,hq2,⟨hk1,hk2⟩,⟨hk3,hk4⟩,⟨(S.num 11 rfl),(S.num 10 rfl)⟩,(S.num 9 rfl),(S.num 8 rfl)⟩).any (show PT 349 (q1+q3) (r1+r3) (.agg #[.bool b3,.slice x3.A x3.n x3.c,.slice y3.A y3.n y3.c,.bool b4,.slice x4.A x4.n x4.c,.slice y4.A y4.n y4.c]) _ from⟨b3,x3,y3,b4,x4,y4,rfl,hq3,hq4,⟨hk5,hk6⟩,⟨hk7,hk8⟩,⟨(S.num 7 rfl),(S.num 6 rfl)⟩,(S.num 5 rfl),(S.num 4 rfl)⟩).any (show PT 349 (q2+q3) (r2+r3) (.agg #[.bool b5,.slice x5.A x5.n x5.c,.slice y5.A y5.n y5.c,.bool b6,.slice x6.A x6.n x6.c,.slice y6.A y6.n y6.c]) _ from⟨b5,x5,y5,b6,x6,y6,rfl,hq5,hq6,⟨hk9,hk10⟩,⟨hk11,hk12⟩,⟨(S.num 3 rfl),(S.num 2 rfl)⟩,(S.num 1 rfl),(S.num 0 rfl)⟩).any (by omega) (by omega) (by omega) (by assumption) (by assumption) (by assumption) (by assumption))) ?_
   refine sc (fun _ _ S _ hd=>svg rfl (hd.v 6 rfl rfl) (zad rfl (S.at 7 rfl) (S.bx 0 rfl) Tryz.underlying29 rfl (vs:=[.bool b0_,.slice x0_.A x0_.n x0_.c,.slice y0_.A y0_.n y0_.c,.bool d0_,.slice z0_.A z0_.n z0_.c,.slice w0_.A w0_.n w0_.c]) zam rfl)) ?_
   refine sc (fun _ _ S _ hd=>svg rfl (hd.v 6 rfl rfl) (zad rfl (S.at 6 rfl) (S.bx 1 rfl) Tryz.underlying29 rfl (vs:=[.bool b1_,.slice x1_.A x1_.n x1_.c,.slice y1_.A y1_.n y1_.c,.bool d1_,.slice z1_.A z1_.n z1_.c,.slice w1_.A w1_.n w1_.c]) zam rfl)) ?_
   refine sc (fun _ _ S _ hd=>svg rfl (hd.v 6 rfl rfl) (zad rfl (S.at 5 rfl) (S.bx 2 rfl) Tryz.underlying29 rfl (vs:=[.bool b2_,.slice x2_.A x2_.n x2_.c,.slice y2_.A y2_.n y2_.c,.bool d2_,.slice z2_.A z2_.n z2_.c,.slice w2_.A w2_.n w2_.c]) zam rfl)) ?_
   refine sc (fun _ _ S _ hd=>slg rfl (hd.v 6 rfl rfl) (rc3 Tryz.func15 (hd.v 11 rfl rfl) (hd.v 12 rfl rfl) (hd.v 13 rfl rfl)) (zq2 (T.keep S.below) (show P1 80 (q0) (r0) (.agg #[.bool b0_,.slice x0_.A x0_.n x0_.c,.slice y0_.A y0_.n y0_.c,.bool d0_,.slice z0_.A z0_.n z0_.c,.slice w0_.A w0_.n w0_.c]) _ from⟨b0_,x0_,y0_,d0_,z0_,w0_,rfl,hqa0,hra0,⟨hkx0,hky0⟩,⟨hkz0,hkw0⟩,⟨(S.num 24 rfl),(S.num 25 rfl)⟩,(S.num 26 rfl),(S.num 27 rfl)⟩) (show P1 80 (q1) (r1) (.agg #[.bool b1_,.slice x1_.A x1_.n x1_.c,.slice y1_.A y1_.n y1_.c,.bool d1_,.slice z1_.A z1_.n z1_.c,.slice w1_.A w1_.n w1_.c]) _ from⟨b1_,x1_,y1_,d1_,z1_,w1_,rfl,hqa1,hra1,⟨hkx1,hky1⟩,⟨hkz1,hkw1⟩,⟨(S.num 20 rfl),(S.num 21 rfl)⟩,(S.num 22 rfl),(S.num 23 rfl)⟩) (show P1 80 (q2) (r2) (.agg #[.bool b2_,.slice x2_.A x2_.n x2_.c,.slice y2_.A y2_.n y2_.c,.bool d2_,.slice z2_.A z2_.n z2_.c,.slice w2_.A w2_.n w2_.c]) _ from⟨b2_,x2_,y2_,d2_,z2_,w2_,rfl,hqa2,hra2,⟨hkx2,hky2⟩,⟨hkz2,hkw2⟩,⟨(S.num 16 rfl),(S.num 17 rfl)⟩,(S.num 18 rfl),(S.num 19 rfl)⟩) (by omega) (by omega) (by omega) (by assumption) (by assumption) (by assumption) (by assumption))) ?_
   refine sc (fun _ _ _ _ hd=>svg rfl (hd.v 6 rfl rfl) (zaX (zpj rfl (hd.v 10 rfl rfl) (hd.v 14 rfl rfl)) (show((onR (q0+q3) (r0+r3) (q1+q3) (r1+r3) (q2+q3) (r2+r3))==(onR q0 r0 q1 r1 q2 r2))=true from zsb))) ?_
   refine sc (fun _ _ _ _ hd=>sv rfl (zaP true rfl (hd.v 6 rfl rfl) (hd.v 15 rfl rfl))) ?_
   refine sc (fun _ _ _ _ hd=>sv rfl (zac rfl (hd.v 16 rfl rfl))) ?_
   refine sc (fun _ _ S _ hd=>slg rfl (hd.v 17 rfl rfl) (rc0 Tryz.func9) (zk2 (T.keep S.below))) ?_
   refine sc (fun _ _ _ _ hd=>sv rfl (zaP true rfl (hd.v 17 rfl rfl) (hd.v 18 rfl rfl))) ?_
   exact sn
  ·intro a2 V14 S hB hf
   have S:=S.add (hf.v 19 rfl rfl)
   clear hf S0
   show wpList _ _ _ [_] _ _
   refine tv S (zal rfl (S.at 0 rfl)) fun a S=>?_
   refine hK8 _ _ ?_
   refine wp_ret ?_
   exact zaM rfl S (S.at 0 rfl) ⟨_,rfl,rfl,S.below⟩
theorem zkk (b0_:Bool)(x0_ y0_:Num)(d0_:Bool)(z0_ w0_:Num)(b1_:Bool)(x1_ y1_:Num)(d1_:Bool)(z1_ w1_:Num)(b2_:Bool)(x2_ y2_:Num)(d2_:Bool)(z2_ w2_:Num)(b3_:Bool)(x3_ y3_:Num)(d3_:Bool)(z3_ w3_:Num){V:World}(T:TT V)(ox0:x0_.ok V V.heap.size)(oy0:y0_.ok V V.heap.size)(oz0:z0_.ok V V.heap.size)(ow0:w0_.ok V V.heap.size)(ox1:x1_.ok V V.heap.size)(oy1:y1_.ok V V.heap.size)(oz1:z1_.ok V V.heap.size)(ow1:w1_.ok V V.heap.size)(ox2:x2_.ok V V.heap.size)(oy2:y2_.ok V V.heap.size)(oz2:z2_.ok V V.heap.size)(ow2:w2_.ok V V.heap.size)(ox3:x3_.ok V V.heap.size)(oy3:y3_.ok V V.heap.size)(oz3:z3_.ok V V.heap.size)(ow3:w3_.ok V V.heap.size)(hG:zck [(b0_,x0_,y0_,d0_,z0_,w0_),(b1_,x1_,y1_,d1_,z1_,w1_),(b2_,x2_,y2_,d2_,z2_,w2_),(b3_,x3_,y3_,d3_,z3_,w3_)]=true):
  Calls Tryz.prog 4 #[.agg #[.bool b0_,.slice x0_.A x0_.n x0_.c,.slice y0_.A y0_.n y0_.c,.bool d0_,.slice z0_.A z0_.n z0_.c,.slice w0_.A w0_.n w0_.c],.agg #[.bool b1_,.slice x1_.A x1_.n x1_.c,.slice y1_.A y1_.n y1_.c,.bool d1_,.slice z1_.A z1_.n z1_.c,.slice w1_.A w1_.n w1_.c],.agg #[.bool b2_,.slice x2_.A x2_.n x2_.c,.slice y2_.A y2_.n y2_.c,.bool d2_,.slice z2_.A z2_.n z2_.c,.slice w2_.A w2_.n w2_.c],.agg #[.bool b3_,.slice x3_.A x3_.n x3_.c,.slice y3_.A y3_.n y3_.c,.bool d3_,.slice z3_.A z3_.n z3_.c,.slice w3_.A w3_.n w3_.c]] V (zao V (fun v _=>v= .bool true)):=by
 obtain⟨q0,hqa0⟩:∃q,qOf b0_ x0_.N y0_.N=q:=⟨_,rfl⟩
 obtain⟨r0,hra0⟩:∃q,qOf d0_ z0_.N w0_.N=q:=⟨_,rfl⟩
 obtain⟨q1,hqa1⟩:∃q,qOf b1_ x1_.N y1_.N=q:=⟨_,rfl⟩
 obtain⟨r1,hra1⟩:∃q,qOf d1_ z1_.N w1_.N=q:=⟨_,rfl⟩
 obtain⟨q2,hqa2⟩:∃q,qOf b2_ x2_.N y2_.N=q:=⟨_,rfl⟩
 obtain⟨r2,hra2⟩:∃q,qOf d2_ z2_.N w2_.N=q:=⟨_,rfl⟩
 obtain⟨q3,hqa3⟩:∃q,qOf b3_ x3_.N y3_.N=q:=⟨_,rfl⟩
 obtain⟨r3,hra3⟩:∃q,qOf d3_ z3_.N w3_.N=q:=⟨_,rfl⟩
 refine zaz (e:=[x3_,y3_,z3_,w3_,x2_,y2_,z2_,w2_,x1_,y1_,z1_,w1_,x0_,y0_,z0_,w0_]) Tryz.func4 rfl Tryz.ntmps4 (zsj rfl) [(0,.agg #[.bool b0_,.slice x0_.A x0_.n x0_.c,.slice y0_.A y0_.n y0_.c,.bool d0_,.slice z0_.A z0_.n z0_.c,.slice w0_.A w0_.n w0_.c]),(1,.agg #[.bool b1_,.slice x1_.A x1_.n x1_.c,.slice y1_.A y1_.n y1_.c,.bool d1_,.slice z1_.A z1_.n z1_.c,.slice w1_.A w1_.n w1_.c]),(2,.agg #[.bool b2_,.slice x2_.A x2_.n x2_.c,.slice y2_.A y2_.n y2_.c,.bool d2_,.slice z2_.A z2_.n z2_.c,.slice w2_.A w2_.n w2_.c]),(3,.agg #[.bool b3_,.slice x3_.A x3_.n x3_.c,.slice y3_.A y3_.n y3_.c,.bool d3_,.slice z3_.A z3_.n z3_.c,.slice w3_.A w3_.n w3_.c])] rfl (zaa ox3 (zaa oy3 (zaa oz3 (zaa ow3 (zaa ox2 (zaa oy2 (zaa oz2 (zaa ow2 (zaa ox1 (zaa oy1 (zaa oz1 (zaa ow1 (zaa ox0 (zaa oy0 (zaa oz0 (zaa ow0 zaW)))))))))))))))) (fun a S=>?_)
 refine wp_seq_k fun K1 hK1=>?_
 refine zab ?_
 refine ti S (cs:=[.bool b0_,.slice x0_.A x0_.n x0_.c,.slice y0_.A y0_.n y0_.c,.bool d0_,.slice z0_.A z0_.n z0_.c,.slice w0_.A w0_.n w0_.c]) (zaB rfl (S.at 0 rfl) rfl) (fun g1=>[⟨g1,29,[.bool b0_,.slice x0_.A x0_.n x0_.c,.slice y0_.A y0_.n y0_.c,.bool d0_,.slice z0_.A z0_.n z0_.c,.slice w0_.A w0_.n w0_.c]⟩]) fun g1 a V1 hgg1 S=>?_
 refine ti S (cs:=[.bool b1_,.slice x1_.A x1_.n x1_.c,.slice y1_.A y1_.n y1_.c,.bool d1_,.slice z1_.A z1_.n z1_.c,.slice w1_.A w1_.n w1_.c]) (zaB rfl (S.at 2 rfl) rfl) (fun g2=>[⟨g1,29,[.bool b0_,.slice x0_.A x0_.n x0_.c,.slice y0_.A y0_.n y0_.c,.bool d0_,.slice z0_.A z0_.n z0_.c,.slice w0_.A w0_.n w0_.c]⟩,⟨g2,29,[.bool b1_,.slice x1_.A x1_.n x1_.c,.slice y1_.A y1_.n y1_.c,.bool d1_,.slice z1_.A z1_.n z1_.c,.slice w1_.A w1_.n w1_.c]⟩]) fun g2 a V2 hgg2 S=>?_
 refine ti S (cs:=[.bool b2_,.slice x2_.A x2_.n x2_.c,.slice y2_.A y2_.n y2_.c,.bool d2_,.slice z2_.A z2_.n z2_.c,.slice w2_.A w2_.n w2_.c]) (zaB rfl (S.at 4 rfl) rfl) (fun g3=>[⟨g1,29,[.bool b0_,.slice x0_.A x0_.n x0_.c,.slice y0_.A y0_.n y0_.c,.bool d0_,.slice z0_.A z0_.n z0_.c,.slice w0_.A w0_.n w0_.c]⟩,⟨g2,29,[.bool b1_,.slice x1_.A x1_.n x1_.c,.slice y1_.A y1_.n y1_.c,.bool d1_,.slice z1_.A z1_.n z1_.c,.slice w1_.A w1_.n w1_.c]⟩,⟨g3,29,[.bool b2_,.slice x2_.A x2_.n x2_.c,.slice y2_.A y2_.n y2_.c,.bool d2_,.slice z2_.A z2_.n z2_.c,.slice w2_.A w2_.n w2_.c]⟩]) fun g3 a V3 hgg3 S=>?_
 refine ti S (cs:=[.bool b3_,.slice x3_.A x3_.n x3_.c,.slice y3_.A y3_.n y3_.c,.bool d3_,.slice z3_.A z3_.n z3_.c,.slice w3_.A w3_.n w3_.c]) (zaB rfl (S.at 6 rfl) rfl) (fun g4=>[⟨g1,29,[.bool b0_,.slice x0_.A x0_.n x0_.c,.slice y0_.A y0_.n y0_.c,.bool d0_,.slice z0_.A z0_.n z0_.c,.slice w0_.A w0_.n w0_.c]⟩,⟨g2,29,[.bool b1_,.slice x1_.A x1_.n x1_.c,.slice y1_.A y1_.n y1_.c,.bool d1_,.slice z1_.A z1_.n z1_.c,.slice w1_.A w1_.n w1_.c]⟩,⟨g3,29,[.bool b2_,.slice x2_.A x2_.n x2_.c,.slice y2_.A y2_.n y2_.c,.bool d2_,.slice z2_.A z2_.n z2_.c,.slice w2_.A w2_.n w2_.c]⟩,⟨g4,29,[.bool b3_,.slice x3_.A x3_.n x3_.c,.slice y3_.A y3_.n y3_.c,.bool d3_,.slice z3_.A z3_.n z3_.c,.slice w3_.A w3_.n w3_.c]⟩]) fun g4 a V4 hgg4 S=>?_
 refine tv S (zaA rfl) fun a S=>?_
 refine hK1 _ _ ?_
 refine wp_seq_k fun K2 hK2=>?_
 refine wp_seq_k fun K3 hK3=>?_
 refine zab ?_
 refine tv S (zad rfl (S.at 4 rfl) (S.bx 0 rfl) Tryz.underlying29 rfl (vs:=[.bool b0_,.slice x0_.A x0_.n x0_.c,.slice y0_.A y0_.n y0_.c,.bool d0_,.slice z0_.A z0_.n z0_.c,.slice w0_.A w0_.n w0_.c]) zam rfl) fun a S=>?_
 refine tv S (zad rfl (S.at 4 rfl) (S.bx 1 rfl) Tryz.underlying29 rfl (vs:=[.bool b1_,.slice x1_.A x1_.n x1_.c,.slice y1_.A y1_.n y1_.c,.bool d1_,.slice z1_.A z1_.n z1_.c,.slice w1_.A w1_.n w1_.c]) zam rfl) fun a S=>?_
 refine tv S (zad rfl (S.at 4 rfl) (S.bx 2 rfl) Tryz.underlying29 rfl (vs:=[.bool b2_,.slice x2_.A x2_.n x2_.c,.slice y2_.A y2_.n y2_.c,.bool d2_,.slice z2_.A z2_.n z2_.c,.slice w2_.A w2_.n w2_.c]) zam rfl) fun a S=>?_
 refine tv S (zad rfl (S.at 4 rfl) (S.bx 3 rfl) Tryz.underlying29 rfl (vs:=[.bool b3_,.slice x3_.A x3_.n x3_.c,.slice y3_.A y3_.n y3_.c,.bool d3_,.slice z3_.A z3_.n z3_.c,.slice w3_.A w3_.n w3_.c]) zam rfl) fun a S=>?_
 refine ty S (F:=GP ([(b0_,x0_,y0_,d0_,z0_,w0_),(b1_,x1_,y1_,d1_,z1_,w1_),(b2_,x2_,y2_,d2_,z2_,w2_),(b3_,x3_,y3_,d3_,z3_,w3_)])) (zjk rfl (S.at 3 rfl) (S.at 2 rfl) (S.at 1 rfl) (S.at 0 rfl) (S.num 12 rfl) (S.num 13 rfl) (S.num 14 rfl) (S.num 15 rfl) (S.num 8 rfl) (S.num 9 rfl) (S.num 10 rfl) (S.num 11 rfl) (S.num 4 rfl) (S.num 5 rfl) (S.num 6 rfl) (S.num 7 rfl) (S.num 0 rfl) (S.num 1 rfl) (S.num 2 rfl) (S.num 3 rfl)) fun v a V5 hF hb S=>?_
 obtain⟨ov1,hov1⟩:∃z,z=v:=⟨_,rfl⟩
 rw[←hov1]at hF S
 have rov1:=hF
 refine tc S (F:=(fun v _=>v= .bool true)) (rc1 Tryz.func7 (S.at 0 rfl)) (zji rov1 hG) fun v a V6 hF hb S=>?_
 replace rov1:=rov1.keep hb
 subst hF
 refine hK3 _ _ ?_
 refine wp_cond_true (S.at 0 rfl) ?_
 refine wp_seq_k fun K4 hK4=>?_
 have S:=S.keep [8] (ls':=[(8,.bool false)]) rfl
 refine zab ?_
 refine tc S (F:=(fun v _=>v= .bool true)) (rc0 Tryz.func9) (zk2 (T.keep S.below)) fun v a V7 hF hb S=>?_
 subst hF
 refine za9 S (v:= .bool true) (zal rfl (S.at 0 rfl)) rfl rfl (by decide) (ls':=[(19,.bool true)]) rfl (fun a S=>?_)
 refine hK4 _ _ ?_
 refine wp_ret ?_
 exact zaM rfl S (S.at 0 rfl) ⟨_,rfl,rfl,S.below⟩
end Go.Proofs.YtdeelcoipmdoiaaGreatDoor
