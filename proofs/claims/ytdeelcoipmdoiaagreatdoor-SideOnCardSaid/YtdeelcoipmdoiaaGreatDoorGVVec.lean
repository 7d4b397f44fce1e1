/- Contracts of package vec: points, part by part. -/
import Derived.Test.YtdeelcoipmdoiaaGreatDoorGVPt
set_option maxHeartbeats 4000000
set_option maxRecDepth 100000
namespace Go.Proofs.YtdeelcoipmdoiaaGreatDoor
open Go Go.RowKit
section
variable {v v1 v2:Value}{V V' W:World}{K K':Nat}{q q' q1 q1' q2 q2':Rat}
theorem ztB {K:Nat}{q q':Rat}{v1:Value}{V:World}(h1:P1 K (q) (q') v1 V):
  Calls Tryz.prog 88 #[v1] V (zam V (Q1 K q)):=by
 obtain⟨b1,x1,y1,b2,x2,y2,rfl,hq1,hq2,⟨hk1,hk2⟩,⟨hk3,hk4⟩,⟨ok1,ok2⟩,ok3,ok4⟩:=h1
 refine zaw (e:=[x1,y1,x2,y2]) Tryz.func88 rfl Tryz.ntmps88 (ztJ rfl) [(0,(aP b1 x1 y1 b2 x2 y2))] rfl (zaa ok1 (zaa ok2 (zaa ok3 (zaa ok4 zaN)))) (fun a S=>?_)
 refine wp_seq_k fun K1 hK1=>?_
 refine zac ?_
 refine ti S (cs:=(lP b1 x1 y1 b2 x2 y2)) (zas rfl (S.at 0 rfl) rfl) (fun g1=>[⟨g1,29,(lP b1 x1 y1 b2 x2 y2)⟩]) fun g1 a V1 hgg1 S=>?_
 refine ti S (cs:=[.bool false,.slice none 0 0,.slice none 0 0]) (zaz rfl (Tryz.zeroValue27 _) rfl) (fun g2=>[⟨g1,29,(lP b1 x1 y1 b2 x2 y2)⟩,⟨g2,27,[.bool false,.slice none 0 0,.slice none 0 0]⟩]) fun g2 a V2 hgg2 S=>?_
 refine hK1 _ _ ?_
 refine wp_seq_k fun K2 hK2=>?_
 refine zac ?_
 refine tv S (zae rfl (S.at 1 rfl) (zbj _)) fun a S=>?_
 refine tv S (zaj rfl (S.at 0 rfl) (S.bx 0 rfl) Tryz.underlying27 rfl (vs:=(aL b1 x1 y1)) zap rfl) fun a S=>?_
 refine zaA S (i:=1) (vs:=(aL b1 x1 y1)) rfl (fun ht=>zav rfl (S.at 2 rfl) (S.at 0 rfl) zap rfl (ztJ rfl) ht) (ztJ rfl) rfl rfl rfl (lb':=[⟨g1,29,(lP b1 x1 y1 b2 x2 y2)⟩,⟨g2,27,(aL b1 x1 y1)⟩]) rfl (fun V3 S=>?_)
 refine hK2 _ _ ?_
 refine wp_ret ?_
 exact zaQ rfl S (S.at 2 rfl) (i:=1) rfl Tryz.underlying27 rfl zap ⟨_,rfl,(show Q1 K (q) ((aG b1 x1 y1)) _ from⟨b1,x1,y1,rfl,hq1,hk1,hk2,(S.num 0 rfl),(S.num 1 rfl)⟩),S.below⟩
theorem ztC {K:Nat}{q q':Rat}{v1:Value}{V:World}(h1:P1 K (q) (q') v1 V):
  Calls Tryz.prog 89 #[v1] V (zam V (Q1 K q')):=by
 obtain⟨b1,x1,y1,b2,x2,y2,rfl,hq1,hq2,⟨hk1,hk2⟩,⟨hk3,hk4⟩,⟨ok1,ok2⟩,ok3,ok4⟩:=h1
 refine zaw (e:=[x1,y1,x2,y2]) Tryz.func89 rfl Tryz.ntmps89 (ztJ rfl) [(0,(aP b1 x1 y1 b2 x2 y2))] rfl (zaa ok1 (zaa ok2 (zaa ok3 (zaa ok4 zaN)))) (fun a S=>?_)
 refine wp_seq_k fun K1 hK1=>?_
 refine zac ?_
 refine ti S (cs:=(lP b1 x1 y1 b2 x2 y2)) (zas rfl (S.at 0 rfl) rfl) (fun g1=>[⟨g1,29,(lP b1 x1 y1 b2 x2 y2)⟩]) fun g1 a V1 hgg1 S=>?_
 refine ti S (cs:=[.bool false,.slice none 0 0,.slice none 0 0]) (zaz rfl (Tryz.zeroValue27 _) rfl) (fun g2=>[⟨g1,29,(lP b1 x1 y1 b2 x2 y2)⟩,⟨g2,27,[.bool false,.slice none 0 0,.slice none 0 0]⟩]) fun g2 a V2 hgg2 S=>?_
 refine hK1 _ _ ?_
 refine wp_seq_k fun K2 hK2=>?_
 refine zac ?_
 refine tv S (zae rfl (S.at 1 rfl) (zbk _)) fun a S=>?_
 refine tv S (zaj rfl (S.at 0 rfl) (S.bx 0 rfl) Tryz.underlying27 rfl (vs:=(aL b2 x2 y2)) zap rfl) fun a S=>?_
 refine zaA S (i:=1) (vs:=(aL b2 x2 y2)) rfl (fun ht=>zav rfl (S.at 2 rfl) (S.at 0 rfl) zap rfl (ztJ rfl) ht) (ztJ rfl) rfl rfl rfl (lb':=[⟨g1,29,(lP b1 x1 y1 b2 x2 y2)⟩,⟨g2,27,(aL b2 x2 y2)⟩]) rfl (fun V3 S=>?_)
 refine hK2 _ _ ?_
 refine wp_ret ?_
 exact zaQ rfl S (S.at 2 rfl) (i:=1) rfl Tryz.underlying27 rfl zap ⟨_,rfl,(show Q1 K (q') ((aG b2 x2 y2)) _ from⟨b2,x2,y2,rfl,hq2,hk3,hk4,(S.num 2 rfl),(S.num 3 rfl)⟩),S.below⟩
theorem ztD:Sel 88 false:=⟨enters_of Tryz.func88 (by kernel_rfl) rfl,fun h=>ztB h⟩
theorem ztE:Sel 89 true:=⟨enters_of Tryz.func89 (by kernel_rfl) rfl,fun h=>ztC h⟩
theorem zny {f:FuncId}{caps:Array Value}{K:Nat}{q q':Rat}{V:World}(en:∀args w,(callFunc f args).run Tryz.prog w= .ok (.enter f args) w)(hx:∀W,Below V.heap.size V W→Calls Tryz.prog f (#[.func (.func 88) #[] #[]]++caps) W (zam W (QT K q))) (hy:∀W,Below V.heap.size V W→Calls Tryz.prog f (#[.func (.func 89) #[] #[]]++caps) W (zam W (QT K q'))):
  Calls Tryz.prog 66 #[.func (.func f) #[] caps] V (zam V (PT K q q')):=by
 refine zaw (e:=[]) Tryz.func66 rfl Tryz.ntmps66 (ztJ rfl) [(0,.func (.func f) #[] caps)] rfl zaN (fun a S=>?_)
 refine wp_seq_k fun K1 hK1=>?_
 refine zac ?_
 refine ti S (cs:=[.bool false,.slice none 0 0,.slice none 0 0,.bool false,.slice none 0 0,.slice none 0 0]) (zaz rfl (Tryz.zeroValue29 _) rfl) (fun g1=>[⟨g1,29,[.bool false,.slice none 0 0,.slice none 0 0,.bool false,.slice none 0 0,.slice none 0 0]⟩]) fun g1 a V1 hgg1 S=>?_
 refine hK1 _ _ ?_
 refine wp_seq_k fun K2 hK2=>?_
 refine zac ?_
 refine tv S (zab rfl (S.at 1 rfl)) fun a S=>?_
 refine tc S (F:=QT K (q)) (zh1 en (S.at 0 rfl)) (hx _ S.below) fun v a V2 hF hb S=>?_
 obtain⟨b1,x1,y1,rfl,hq1,hk1,hk2,ok1,ok2⟩:=hF
 have S:=S.know ok1
 have S:=S.know ok2
 refine tv S (zab rfl (S.at 3 rfl)) fun a S=>?_
 refine tc S (F:=QT K (q')) (zh1 en (S.at 0 rfl)) (hy _ S.below) fun v a V3 hF hb S=>?_
 obtain⟨b2,x2,y2,rfl,hq2,hk3,hk4,ok3,ok4⟩:=hF
 have S:=S.know ok3
 have S:=S.know ok4
 refine tv S (za7 rfl (S.at 2 rfl) (S.at 0 rfl) (zpK _ _ _ _ _ _ _ _ _ _ _ _ _ _)) fun a S=>?_
 refine zaA S (i:=0) (vs:=(lP b1 x1 y1 b2 x2 y2)) rfl (fun ht=>zav rfl (S.at 5 rfl) (S.at 0 rfl) zaY rfl (ztJ rfl) ht) (ztJ rfl) rfl rfl rfl (lb':=[⟨g1,29,(lP b1 x1 y1 b2 x2 y2)⟩]) rfl (fun V4 S=>?_)
 refine hK2 _ _ ?_
 refine wp_ret ?_
 exact zaQ rfl S (S.at 5 rfl) (i:=0) rfl Tryz.underlying29 rfl zaY ⟨_,rfl,⟨b1,x1,y1,b2,x2,y2,rfl,hq1,hq2,⟨hk1,hk2⟩,⟨hk3,hk4⟩,⟨(S.num 3 rfl),(S.num 2 rfl)⟩,(S.num 1 rfl),(S.num 0 rfl)⟩,S.below⟩
structure PtAt (V:World) (g K:Nat) (q q':Rat) (b:Bool) (x y:Num) (b':Bool) (x' y':Num):Prop where
 cell:V.heap[g]?=some (.cells [.bool b,.slice x.A x.n x.c,.slice y.A y.n y.c,.bool b',.slice x'.A x'.n x'.c,.slice y'.A y'.n y'.c].toArray 29 (0,0))
 q:qOf b x.N y.N=q
 q':qOf b' x'.N y'.N=q'
 kx:x.n≤K
 ky:y.n≤K
 kx':x'.n≤K
 ky':y'.n≤K
 ox:x.ok V V.heap.size
 oy:y.ok V V.heap.size
 ox':x'.ok V V.heap.size
 oy':y'.ok V V.heap.size
structure RtAt (V:World) (g K:Nat) (q:Rat) (b:Bool) (x y:Num):Prop where
 cell:V.heap[g]?=some (.cells [.bool b,.slice x.A x.n x.c,.slice y.A y.n y.c].toArray 27 (0,0))
 q:qOf b x.N y.N=q
 kx:x.n≤K
 ky:y.n≤K
 ox:x.ok V V.heap.size
 oy:y.ok V V.heap.size
section
variable {g:Nat}{b b':Bool}{x y x' y':Num}
theorem PtAt.at (h:PtAt V g K q q' b x y b' x' y')(hb:Below V.heap.size V W):W.heap[g]?=some (.cells [.bool b,.slice x.A x.n x.c,.slice y.A y.n y.c,.bool b',.slice x'.A x'.n x'.c,.slice y'.A y'.n y'.c].toArray 29 (0,0)):=
 (hb.block g (Array.getElem?_eq_some_iff.1 h.cell).1).trans h.cell
theorem RtAt.at (h:RtAt V g K q b x y)(hb:Below V.heap.size V W):W.heap[g]?=some (.cells [.bool b,.slice x.A x.n x.c,.slice y.A y.n y.c].toArray 27 (0,0)):=
 (hb.block g (Array.getElem?_eq_some_iff.1 h.cell).1).trans h.cell
theorem PtAt.keep (h:PtAt V g K q q' b x y b' x' y')(hb:Below V.heap.size V W):PtAt W g K q q' b x y b' x' y':=
 ⟨h.at hb,h.q,h.q',h.kx,h.ky,h.kx',h.ky',h.ox.later hb,h.oy.later hb,h.ox'.later hb,h.oy'.later hb⟩
theorem RtAt.keep (h:RtAt V g K q b x y)(hb:Below V.heap.size V W):RtAt W g K q b x y:=⟨h.at hb,h.q,h.kx,h.ky,h.ox.later hb,h.oy.later hb⟩
end
theorem zrr {K K':Nat}{q1 q1' q2 q2':Rat}{f0:FuncId}{s:Bool}{g1_:Nat}{b1_ b1b_:Bool}{x1_ y1_ x1b_ y1b_:Num}{g2_:Nat}{b2_ b2b_:Bool}{x2_ y2_ x2b_ y2b_:Num}{V:World}(T:TT V)(hs:Sel f0 s)(B1:PtAt V g1_ K q1 q1' b1_ x1_ y1_ b1b_ x1b_ y1b_)(B2:PtAt V g2_ K' q2 q2' b2_ x2_ y2_ b2b_ x2b_ y2b_)(hK0:K≤400)(hK1:K'≤400):
  Calls Tryz.prog 67 #[.func (.func f0) #[] #[],pT g1_ 0,pT g2_ 0] V (zam V (QT (max K 1+max K' 1+1) (sel s q1 q1' - sel s q2 q2'))):=by
 refine zaw (e:=[x1_,y1_,x1b_,y1b_,x2_,y2_,x2b_,y2b_]) Tryz.func67 rfl Tryz.ntmps67 (ztJ rfl) [(0,.func (.func f0) #[] #[]),(1,pT g1_ 0),(2,pT g2_ 0)] rfl (zaa B1.ox (zaa B1.oy (zaa B1.ox' (zaa B1.oy' (zaa B2.ox (zaa B2.oy (zaa B2.ox' (zaa B2.oy' zaN)))))))) (fun a S=>?_)
 refine wp_seq_k fun K1 hK1=>?_
 refine zac ?_
 refine ti S (cs:=[.bool false,.slice none 0 0,.slice none 0 0]) (zaz rfl (Tryz.zeroValue27 _) rfl) (fun g1=>[⟨g1,27,[.bool false,.slice none 0 0,.slice none 0 0]⟩]) fun g1 a V1 hgg1 S=>?_
 refine hK1 _ _ ?_
 refine wp_seq_k fun K2 hK2=>?_
 obtain⟨W1,hW1⟩:∃W,W=V1:=⟨_,rfl⟩
 rw[←hW1]at S ⊢
 have S0:=S
 refine fr 7 [5,6,7,8,9,10,11] [IsV (.func (.func f0) #[] #[]),IsV ((aP b1_ x1_ y1_ b1b_ x1b_ y1b_)),Q1 K (sel s q1 (q1')),IsV (.func (.func f0) #[] #[]),IsV ((aP b2_ x2_ y2_ b2b_ x2b_ y2b_)),Q1 K' (sel s q2 (q2')),QT ((max K 1)+(max K' 1)+1) ((sel s q1 (q1')) - (sel s q2 (q2')))] S ?_ ?_
 ·refine sc (fun _ _ S _ _=>sv rfl (zab rfl (S.at 1 rfl))) ?_
  refine sc (fun _ _ S _ _=>sv rfl (zaj rfl (S.at 2 rfl) (B1.at S.below) Tryz.underlying29 rfl (vs:=(lP b1_ x1_ y1_ b1b_ x1b_ y1b_)) zaY rfl)) ?_
  refine sc (fun _ _ S _ hd=>sl rfl (zh0 hs.en (hd.v 0 rfl rfl) (hd.v 1 rfl rfl)) (hs.tells (show P1 K (q1) (q1') ((aP b1_ x1_ y1_ b1b_ x1b_ y1b_)) _ from⟨b1_,x1_,y1_,b1b_,x1b_,y1b_,rfl,B1.q,B1.q',⟨B1.kx,B1.ky⟩,⟨B1.kx',B1.ky'⟩,⟨(S.num 0 rfl),(S.num 1 rfl)⟩,(S.num 2 rfl),(S.num 3 rfl)⟩))) ?_
  refine sc (fun _ _ S _ _=>sv rfl (zab rfl (S.at 1 rfl))) ?_
  refine sc (fun _ _ S _ _=>sv rfl (zaj rfl (S.at 3 rfl) (B2.at S.below) Tryz.underlying29 rfl (vs:=(lP b2_ x2_ y2_ b2b_ x2b_ y2b_)) zaY rfl)) ?_
  refine sc (fun _ _ S _ hd=>sl rfl (zh0 hs.en (hd.v 3 rfl rfl) (hd.v 4 rfl rfl)) (hs.tells (show P1 K' (q2) (q2') ((aP b2_ x2_ y2_ b2b_ x2b_ y2b_)) _ from⟨b2_,x2_,y2_,b2b_,x2b_,y2b_,rfl,B2.q,B2.q',⟨B2.kx,B2.ky⟩,⟨B2.kx',B2.ky'⟩,⟨(S.num 4 rfl),(S.num 5 rfl)⟩,(S.num 6 rfl),(S.num 7 rfl)⟩))) ?_
  refine sc (fun _ _ S _ hd=>sl rfl (rc2 Tryz.func64 rfl rfl) (zrd (T.keep S.below) (hd.r 2 rfl rfl) (hd.r 5 rfl rfl) (by omega) (by omega))) ?_
  exact sn
 ·intro a1 V2 S hB hf
  obtain⟨b1,x1,y1,hv1,hq1,hk1,hk2,ok1,ok2⟩:=hf.r 6 rfl rfl
  have S:=S.add hv1
  have S:=S.know ok1
  have S:=S.know ok2
  clear hf S0
  show wpList _ _ _ [_] _ _
  refine zaA S (i:=0) (vs:=(aL b1 x1 y1)) rfl (fun ht=>zav rfl (S.at 1 rfl) (S.at 0 rfl) zap rfl (ztJ rfl) ht) (ztJ rfl) rfl rfl rfl (lb':=[⟨g1,27,(aL b1 x1 y1)⟩]) rfl (fun V3 S=>?_)
  refine hK2 _ _ ?_
  refine wp_ret ?_
  exact zaQ rfl S (S.at 1 rfl) (i:=0) rfl Tryz.underlying27 rfl zap ⟨_,rfl,((show QT ((max K 1)+(max K' 1)+1) ((sel s q1 (q1')) - (sel s q2 (q2'))) ((aG b1 x1 y1)) _ from⟨b1,x1,y1,rfl,hq1,hk1,hk2,(S.num 1 rfl),(S.num 0 rfl)⟩)).to rfl (by omega),S.below⟩
theorem zts {K K':Nat}{q1 q1' q2 q2':Rat}{v1 v2:Value}{V:World}(T:TT V)(h1:P1 K (q1) (q1') v1 V)(h2:P1 K' (q2) (q2') v2 V)(hK0:K≤400)(hK1:K'≤400):
  Calls Tryz.prog 39 #[v1,v2] V (zam V (PT (max K 1+max K' 1+1) (q1 - q2) (q1' - q2'))):=by
 obtain⟨b1,x1,y1,b2,x2,y2,rfl,hq1,hq2,⟨hk1,hk2⟩,⟨hk3,hk4⟩,⟨ok1,ok2⟩,ok3,ok4⟩:=h1
 obtain⟨b3,x3,y3,b4,x4,y4,rfl,hq3,hq4,⟨hk5,hk6⟩,⟨hk7,hk8⟩,⟨ok5,ok6⟩,ok7,ok8⟩:=h2
 refine zaw (e:=[x3,y3,x4,y4,x1,y1,x2,y2]) Tryz.func39 rfl Tryz.ntmps39 (ztJ rfl) [(0,(aP b1 x1 y1 b2 x2 y2)),(1,(aP b3 x3 y3 b4 x4 y4))] rfl (zaa ok5 (zaa ok6 (zaa ok7 (zaa ok8 (zaa ok1 (zaa ok2 (zaa ok3 (zaa ok4 zaN)))))))) (fun a S=>?_)
 refine wp_seq_k fun K1 hK1=>?_
 refine zac ?_
 refine ti S (cs:=(lP b1 x1 y1 b2 x2 y2)) (zas rfl (S.at 0 rfl) rfl) (fun g1=>[⟨g1,29,(lP b1 x1 y1 b2 x2 y2)⟩]) fun g1 a V1 hgg1 S=>?_
 refine ti S (cs:=(lP b3 x3 y3 b4 x4 y4)) (zas rfl (S.at 2 rfl) rfl) (fun g2=>[⟨g1,29,(lP b1 x1 y1 b2 x2 y2)⟩,⟨g2,29,(lP b3 x3 y3 b4 x4 y4)⟩]) fun g2 a V2 hgg2 S=>?_
 refine ti S (cs:=[.bool false,.slice none 0 0,.slice none 0 0,.bool false,.slice none 0 0,.slice none 0 0]) (zaz rfl (Tryz.zeroValue29 _) rfl) (fun g3=>[⟨g1,29,(lP b1 x1 y1 b2 x2 y2)⟩,⟨g2,29,(lP b3 x3 y3 b4 x4 y4)⟩,⟨g3,29,[.bool false,.slice none 0 0,.slice none 0 0,.bool false,.slice none 0 0,.slice none 0 0]⟩]) fun g3 a V3 hgg3 S=>?_
 refine hK1 _ _ ?_
 refine wp_seq_k fun K2 hK2=>?_
 refine zac ?_
 refine tv S (znw rfl (S.at 2 rfl) (S.at 1 rfl)) fun a S=>?_
 have hB1:=(PtAt.mk (V:=V3) (S.bx 0 rfl) hq1 hq2 hk1 hk2 hk3 hk4 (S.num 4 rfl) (S.num 5 rfl) (S.num 6 rfl) (S.num 7 rfl))
 have hB2:=(PtAt.mk (V:=V3) (S.bx 1 rfl) hq3 hq4 hk5 hk6 hk7 hk8 (S.num 0 rfl) (S.num 1 rfl) (S.num 2 rfl) (S.num 3 rfl))
 refine tc S (F:=PT (max K 1+max K' 1+1) ((q1 - q2)) ((q1' - q2'))) (rc1 Tryz.func66 (S.at 0 rfl)) (zny (q:=(q1 - q2)) (q':=(q1' - q2')) (enters_of Tryz.func67 (by kernel_rfl) rfl) (fun W hW=>zrr ((T.keep S.below).keep hW) ztD (hB1.keep hW) (hB2.keep hW) (by omega) (by omega)) (fun W hW=>zrr ((T.keep S.below).keep hW) ztE (hB1.keep hW) (hB2.keep hW) (by omega) (by omega))) fun v a V4 hF hb S=>?_
 obtain⟨b5,x5,y5,b6,x6,y6,rfl,hq5,hq6,⟨hk9,hk10⟩,⟨hk11,hk12⟩,⟨ok9,ok10⟩,ok11,ok12⟩:=hF
 have S:=S.know ok9
 have S:=S.know ok10
 have S:=S.know ok11
 have S:=S.know ok12
 refine zaA S (i:=2) (vs:=(lP b5 x5 y5 b6 x6 y6)) rfl (fun ht=>zav rfl (S.at 2 rfl) (S.at 0 rfl) zaY rfl (ztJ rfl) ht) (ztJ rfl) rfl rfl rfl (lb':=[⟨g1,29,(lP b1 x1 y1 b2 x2 y2)⟩,⟨g2,29,(lP b3 x3 y3 b4 x4 y4)⟩,⟨g3,29,(lP b5 x5 y5 b6 x6 y6)⟩]) rfl (fun V5 S=>?_)
 refine hK2 _ _ ?_
 refine wp_ret ?_
 exact zaQ rfl S (S.at 2 rfl) (i:=2) rfl Tryz.underlying29 rfl zaY ⟨_,rfl,((show PT (max K 1+max K' 1+1) ((q1 - q2)) ((q1' - q2')) ((aP b5 x5 y5 b6 x6 y6)) _ from⟨b5,x5,y5,b6,x6,y6,rfl,hq5,hq6,⟨hk9,hk10⟩,⟨hk11,hk12⟩,⟨(S.num 3 rfl),(S.num 2 rfl)⟩,(S.num 1 rfl),(S.num 0 rfl)⟩)).to rfl rfl (by omega),S.below⟩
section
variable (T : TT V)
include T
end
def absR (q:Rat):Rat:=if q<0 then -q else q
theorem zpN (h:decide (zag q 0<0)=true): -q=absR q:=by
 unfold absR
 rw[if_pos]
 by_cases hc:q<0
 ·exact hc
 ·have:=of_decide_eq_true (ziG.2 hc);have:=of_decide_eq_true h;omega
theorem zpO (h:decide (zag q 0<0)=false):q=absR q:=by
 unfold absR
 rw[if_neg]
 intro hc
 rw[zcX hc]at h;cases h
def za5 (q1 q1' q2 q2':Rat):Int:=if zag q1 q2=0 then zag q1' q2' else zag q1 q2
theorem zpP (h:(!decide (zag q1 q2=0))=true):zag q1 q2=za5 q1 q1' q2 q2':=by
 unfold za5;rw[if_neg];simpa using h
theorem zpQ (h:(!decide (zag q1 q2=0))=false):zag q1' q2'=za5 q1 q1' q2 q2':=by
 unfold za5;rw[if_pos];simpa using h
theorem zsD {K K':Nat}{q1 q1' q2 q2':Rat}{v1 v2:Value}{V:World}(T:TT V)(h1:P1 K (q1) (q1') v1 V)(h2:P1 K' (q2) (q2') v2 V)(hK0:K≤300)(hK1:K'≤300):
  Calls Tryz.prog 38 #[v1,v2] V (zam V (QT (4*max (max K K') 1+1) (q1*q2' - q1'*q2))):=by
 obtain⟨b1,x1,y1,b2,x2,y2,rfl,hq1,hq2,⟨hk1,hk2⟩,⟨hk3,hk4⟩,⟨ok1,ok2⟩,ok3,ok4⟩:=h1
 obtain⟨b3,x3,y3,b4,x4,y4,rfl,hq3,hq4,⟨hk5,hk6⟩,⟨hk7,hk8⟩,⟨ok5,ok6⟩,ok7,ok8⟩:=h2
 refine zaw (e:=[x3,y3,x4,y4,x1,y1,x2,y2]) Tryz.func38 rfl Tryz.ntmps38 (ztJ rfl) [(0,(aP b1 x1 y1 b2 x2 y2)),(1,(aP b3 x3 y3 b4 x4 y4))] rfl (zaa ok5 (zaa ok6 (zaa ok7 (zaa ok8 (zaa ok1 (zaa ok2 (zaa ok3 (zaa ok4 zaN)))))))) (fun a S=>?_)
 refine wp_seq_k fun K1 hK1=>?_
 refine zac ?_
 refine ti S (cs:=(lP b1 x1 y1 b2 x2 y2)) (zas rfl (S.at 0 rfl) rfl) (fun g1=>[⟨g1,29,(lP b1 x1 y1 b2 x2 y2)⟩]) fun g1 a V1 hgg1 S=>?_
 refine ti S (cs:=(lP b3 x3 y3 b4 x4 y4)) (zas rfl (S.at 2 rfl) rfl) (fun g2=>[⟨g1,29,(lP b1 x1 y1 b2 x2 y2)⟩,⟨g2,29,(lP b3 x3 y3 b4 x4 y4)⟩]) fun g2 a V2 hgg2 S=>?_
 refine ti S (cs:=[.bool false,.slice none 0 0,.slice none 0 0]) (zaz rfl (Tryz.zeroValue27 _) rfl) (fun g3=>[⟨g1,29,(lP b1 x1 y1 b2 x2 y2)⟩,⟨g2,29,(lP b3 x3 y3 b4 x4 y4)⟩,⟨g3,27,[.bool false,.slice none 0 0,.slice none 0 0]⟩]) fun g3 a V3 hgg3 S=>?_
 refine hK1 _ _ ?_
 refine wp_seq_k fun K2 hK2=>?_
 obtain⟨W1,hW1⟩:∃W,W=V3:=⟨_,rfl⟩
 rw[←hW1]at S ⊢
 have S0:=S
 refine fr 13 [5,6,7,8,9,10,11,12,13,14,15,16,17] [IsV (pT g1 0),IsV ((aG b1 x1 y1)),IsV (pT g2 3),IsV ((aG b4 x4 y4)),QL (max K K') 6 ([q1,q2']),QT (2*(max (max K K') 1)) (q1*(q2')),IsV (pT g1 3),IsV ((aG b2 x2 y2)),IsV (pT g2 0),IsV ((aG b3 x3 y3)),QL (max K K') 6 ([q1',q2]),QT (2*(max (max K K') 1)) ((q1')*q2),QT ((max (2*(max (max K K') 1)) 1)+(max (2*(max (max K K') 1)) 1)+1) ((q1*(q2')) - ((q1')*q2))] S ?_ ?_
 ·refine sc (fun _ _ S _ _=>sv rfl (zae rfl (S.at 2 rfl) (zbj _))) ?_
  refine sc (fun _ _ S _ hd=>sv rfl (zaj rfl (hd.v 0 rfl rfl) (S.bx 0 rfl) Tryz.underlying27 rfl (vs:=(aL b1 x1 y1)) zap rfl)) ?_
  refine sc (fun _ _ S _ _=>sv rfl (zae rfl (S.at 1 rfl) (zbk _))) ?_
  refine sc (fun _ _ S _ hd=>sv rfl (zaj rfl (hd.v 2 rfl rfl) (S.bx 1 rfl) Tryz.underlying27 rfl (vs:=(aL b4 x4 y4)) zap rfl)) ?_
  refine sc (fun _ _ S _ hd=>sy rfl (zcy rfl (hd.v 1 rfl rfl) (hd.v 3 rfl rfl) (((show Q1 K (q1) ((aG b1 x1 y1)) _ from⟨b1,x1,y1,rfl,hq1,hk1,hk2,(S.num 4 rfl),(S.num 5 rfl)⟩)).to rfl (by omega)) (((show Q1 K' (q2') ((aG b4 x4 y4)) _ from⟨b4,x4,y4,rfl,hq4,hk7,hk8,(S.num 2 rfl),(S.num 3 rfl)⟩)).to rfl (by omega)))) ?_
  refine sc (fun _ _ S _ hd=>sl rfl (rc1 Tryz.func65 rfl) (zrq (T.keep S.below) ((hd.r 4 rfl rfl)).row (by omega))) ?_
  refine sc (fun _ _ S _ _=>sv rfl (zae rfl (S.at 2 rfl) (zbk _))) ?_
  refine sc (fun _ _ S _ hd=>sv rfl (zaj rfl (hd.v 6 rfl rfl) (S.bx 0 rfl) Tryz.underlying27 rfl (vs:=(aL b2 x2 y2)) zap rfl)) ?_
  refine sc (fun _ _ S _ _=>sv rfl (zae rfl (S.at 1 rfl) (zbj _))) ?_
  refine sc (fun _ _ S _ hd=>sv rfl (zaj rfl (hd.v 8 rfl rfl) (S.bx 1 rfl) Tryz.underlying27 rfl (vs:=(aL b3 x3 y3)) zap rfl)) ?_
  refine sc (fun _ _ S _ hd=>sy rfl (zcy rfl (hd.v 7 rfl rfl) (hd.v 9 rfl rfl) (((show Q1 K (q1') ((aG b2 x2 y2)) _ from⟨b2,x2,y2,rfl,hq2,hk3,hk4,(S.num 6 rfl),(S.num 7 rfl)⟩)).to rfl (by omega)) (((show Q1 K' (q2) ((aG b3 x3 y3)) _ from⟨b3,x3,y3,rfl,hq3,hk5,hk6,(S.num 0 rfl),(S.num 1 rfl)⟩)).to rfl (by omega)))) ?_
  refine sc (fun _ _ S _ hd=>sl rfl (rc1 Tryz.func65 rfl) (zrq (T.keep S.below) ((hd.r 10 rfl rfl)).row (by omega))) ?_
  refine sc (fun _ _ S _ hd=>sl rfl (rc2 Tryz.func64 rfl rfl) (zrd (T.keep S.below) ((hd.r 5 rfl rfl)).any ((hd.r 11 rfl rfl)).any (by omega) (by omega))) ?_
  exact sn
 ·intro a1 V4 S hB hf
  obtain⟨b5,x5,y5,hv1,hq5,hk9,hk10,ok9,ok10⟩:=hf.r 12 rfl rfl
  have S:=S.add hv1
  have S:=S.know ok9
  have S:=S.know ok10
  clear hf S0
  show wpList _ _ _ [_] _ _
  refine zaA S (i:=2) (vs:=(aL b5 x5 y5)) rfl (fun ht=>zav rfl (S.at 1 rfl) (S.at 0 rfl) zap rfl (ztJ rfl) ht) (ztJ rfl) rfl rfl rfl (lb':=[⟨g1,29,(lP b1 x1 y1 b2 x2 y2)⟩,⟨g2,29,(lP b3 x3 y3 b4 x4 y4)⟩,⟨g3,27,(aL b5 x5 y5)⟩]) rfl (fun V5 S=>?_)
  refine hK2 _ _ ?_
  refine wp_ret ?_
  exact zaQ rfl S (S.at 1 rfl) (i:=2) rfl Tryz.underlying27 rfl zap ⟨_,rfl,((show QT ((max (2*(max (max K K') 1)) 1)+(max (2*(max (max K K') 1)) 1)+1) ((q1*(q2')) - ((q1')*q2)) ((aG b5 x5 y5)) _ from⟨b5,x5,y5,rfl,hq5,hk9,hk10,(S.num 1 rfl),(S.num 0 rfl)⟩)).to rfl (by omega),S.below⟩
section
variable (T : TT V)
include T
theorem zq5 (h1:P1 K q1 q1' v1 V)(h2:P1 K' q2 q2' v2 V)(b:K≤300)(b':K'≤300):Calls Tryz.prog 38 #[v1,v2] V (zam V (QT (2*(max K 1+max K' 1)+1) (q1*q2' - q1'*q2))):=
 zbn (zsD T h1 h2 b b') (fun _ _ h=>h.smk (((h1.sm.1.mul h2.sm.2).sub (h1.sm.2.mul h2.sm.1)).mono (by omega)))
end
theorem ztt {K K':Nat}{q1 q1' q2 q2':Rat}{v1 v2:Value}{V:World}(T:TT V)(h1:P1 K (q1) (q1') v1 V)(h2:P1 K' (q2) (q2') v2 V)(hK0:K≤400)(hK1:K'≤400):
  Calls Tryz.prog 71 #[v1,v2] V (zam V (fun v _=>v= .int .i64 (za5 q1 q1' q2 q2'))):=by
 obtain⟨b1,x1,y1,b2,x2,y2,rfl,hq1,hq2,⟨hk1,hk2⟩,⟨hk3,hk4⟩,⟨ok1,ok2⟩,ok3,ok4⟩:=h1
 obtain⟨b3,x3,y3,b4,x4,y4,rfl,hq3,hq4,⟨hk5,hk6⟩,⟨hk7,hk8⟩,⟨ok5,ok6⟩,ok7,ok8⟩:=h2
 refine zaw (e:=[x3,y3,x4,y4,x1,y1,x2,y2]) Tryz.func71 rfl Tryz.ntmps71 (ztJ rfl) [(0,(aP b1 x1 y1 b2 x2 y2)),(1,(aP b3 x3 y3 b4 x4 y4))] rfl (zaa ok5 (zaa ok6 (zaa ok7 (zaa ok8 (zaa ok1 (zaa ok2 (zaa ok3 (zaa ok4 zaN)))))))) (fun a S=>?_)
 refine wp_seq_k fun K1 hK1=>?_
 refine zac ?_
 refine ti S (cs:=(lP b1 x1 y1 b2 x2 y2)) (zas rfl (S.at 0 rfl) rfl) (fun g1=>[⟨g1,29,(lP b1 x1 y1 b2 x2 y2)⟩]) fun g1 a V1 hgg1 S=>?_
 refine ti S (cs:=(lP b3 x3 y3 b4 x4 y4)) (zas rfl (S.at 2 rfl) rfl) (fun g2=>[⟨g1,29,(lP b1 x1 y1 b2 x2 y2)⟩,⟨g2,29,(lP b3 x3 y3 b4 x4 y4)⟩]) fun g2 a V2 hgg2 S=>?_
 refine tv S (zaB rfl) fun a S=>?_
 refine hK1 _ _ ?_
 refine wp_seq_k fun K2 hK2=>?_
 refine wp_seq_k fun K3 hK3=>?_
 refine zac ?_
 refine tv S (zae rfl (S.at 2 rfl) (zbj _)) fun a S=>?_
 refine tv S (zaj rfl (S.at 0 rfl) (S.bx 0 rfl) Tryz.underlying27 rfl (vs:=(aL b1 x1 y1)) zap rfl) fun a S=>?_
 refine tv S (zae rfl (S.at 3 rfl) (zbj _)) fun a S=>?_
 refine tv S (zaj rfl (S.at 0 rfl) (S.bx 1 rfl) Tryz.underlying27 rfl (vs:=(aL b3 x3 y3)) zap rfl) fun a S=>?_
 refine tc S (F:=(fun v _=>v= .int .i64 (zag q1 q2))) (rc2 Tryz.func49 (S.at 2 rfl) (S.at 0 rfl)) (zlB (T.keep S.below) (show Q1 K (q1) ((aG b1 x1 y1)) _ from⟨b1,x1,y1,rfl,hq1,hk1,hk2,(S.num 4 rfl),(S.num 5 rfl)⟩) (show Q1 K' (q2) ((aG b3 x3 y3)) _ from⟨b3,x3,y3,rfl,hq3,hk5,hk6,(S.num 0 rfl),(S.num 1 rfl)⟩) (by omega) (by omega)) fun v a V3 hF hb S=>?_
 subst hF
 refine tv S (zak rfl (S.at 0 rfl)) fun a S=>?_
 refine hK3 _ _ ?_
 refine wp_seq_k fun K4 hK4=>?_
 refine zac ?_
 refine tv S (zab rfl (S.at 0 rfl)) fun a S=>?_
 refine tv S (zfC _ (by decide) rfl (S.at 0 rfl) rfl) fun a S=>?_
 refine hK4 _ _ ?_
 rcases ztT (!decide (zag q1 q2=0))with hc12|hc12
 ·refine wp_cond_true ((S.at 0 rfl).trans (congrArg Value.bool hc12)) ?_
  refine wp_seq_k fun K5 hK5=>?_
  refine zac ?_
  refine tv S (zab rfl (S.at 2 rfl)) fun a S=>?_
  refine za1 S (v:= .int .i64 (zag q1 q2)) (zak rfl (S.at 0 rfl)) rfl rfl (by decide) (ls':=[(13,.int .i64 (zag q1 q2)),(12,.bool (!decide (zag q1 q2=0))),(11,.int .i64 (zag q1 q2)),(5,.int .i64 (zag q1 q2)),(10,.int .i64 (zag q1 q2)),(9,(aG b3 x3 y3)),(8,pT g2 0),(7,(aG b1 x1 y1)),(6,pT g1 0),(3,pT g2 0),(2,pT g1 0),(0,(aP b1 x1 y1 b2 x2 y2)),(1,(aP b3 x3 y3 b4 x4 y4))]) rfl (fun a S=>?_)
  refine hK5 _ _ ?_
  refine wp_ret ?_
  exact zaD rfl S (S.at 0 rfl) ⟨_,rfl,congrArg (Value.int .i64) (zpP hc12),S.below⟩
 ·refine wp_cond_false ((S.at 0 rfl).trans (congrArg Value.bool hc12)) ?_
  refine wp_skip ?_
  refine hK2 _ _ ?_
  refine wp_seq_k fun K6 hK6=>?_
  refine zac ?_
  refine tv S (zae rfl (S.at 10 rfl) (zbk _)) fun a S=>?_
  refine tv S (zaj rfl (S.at 0 rfl) (S.bx 0 rfl) Tryz.underlying27 rfl (vs:=(aL b2 x2 y2)) zap rfl) fun a S=>?_
  refine tv S (zae rfl (S.at 11 rfl) (zbk _)) fun a S=>?_
  refine tv S (zaj rfl (S.at 0 rfl) (S.bx 1 rfl) Tryz.underlying27 rfl (vs:=(aL b4 x4 y4)) zap rfl) fun a S=>?_
  refine tc S (F:=(fun v _=>v= .int .i64 (zag (q1') (q2')))) (rc2 Tryz.func49 (S.at 2 rfl) (S.at 0 rfl)) (zlB (T.keep S.below) (show Q1 K (q1') ((aG b2 x2 y2)) _ from⟨b2,x2,y2,rfl,hq2,hk3,hk4,(S.num 6 rfl),(S.num 7 rfl)⟩) (show Q1 K' (q2') ((aG b4 x4 y4)) _ from⟨b4,x4,y4,rfl,hq4,hk7,hk8,(S.num 2 rfl),(S.num 3 rfl)⟩) (by omega) (by omega)) fun v a V4 hF hb S=>?_
  subst hF
  refine za1 S (v:= .int .i64 (zag (q1') (q2'))) (zak rfl (S.at 0 rfl)) rfl rfl (by decide) (ls':=[(18,.int .i64 (zag (q1') (q2'))),(17,(aG b4 x4 y4)),(16,pT g2 3),(15,(aG b2 x2 y2)),(14,pT g1 3),(12,.bool (!decide (zag q1 q2=0))),(11,.int .i64 (zag q1 q2)),(5,.int .i64 (zag q1 q2)),(10,.int .i64 (zag q1 q2)),(9,(aG b3 x3 y3)),(8,pT g2 0),(7,(aG b1 x1 y1)),(6,pT g1 0),(3,pT g2 0),(2,pT g1 0),(0,(aP b1 x1 y1 b2 x2 y2)),(1,(aP b3 x3 y3 b4 x4 y4))]) rfl (fun a S=>?_)
  refine hK6 _ _ ?_
  refine wp_ret ?_
  exact zaD rfl S (S.at 0 rfl) ⟨_,rfl,congrArg (Value.int .i64) (zpQ hc12),S.below⟩
end
theorem zli {n m:Int}{V:World}(hn:(-9223372036854775808≤n∧n≤9223372036854775807)∧ -9223372036854775808≤m∧m≤9223372036854775807):
  Calls Tryz.prog 34 #[.int .i64 n,.int .i64 m] V (zam V (PT 2 ((n:Int):Rat) ((m:Int):Rat))):=by
 refine zaw (e:=[]) Tryz.func34 rfl Tryz.ntmps34 (ztJ rfl) [(0,.int .i64 n),(1,.int .i64 m)] rfl zaN (fun a S=>?_)
 refine wp_seq_k fun K1 hK1=>?_
 refine zac ?_
 refine ti S (cs:=[.bool false,.slice none 0 0,.slice none 0 0,.bool false,.slice none 0 0,.slice none 0 0]) (zaz rfl (Tryz.zeroValue29 _) rfl) (fun g1=>[⟨g1,29,[.bool false,.slice none 0 0,.slice none 0 0,.bool false,.slice none 0 0,.slice none 0 0]⟩]) fun g1 a V1 hgg1 S=>?_
 refine hK1 _ _ ?_
 refine wp_seq_k fun K2 hK2=>?_
 refine zac ?_
 refine tv S (zab rfl (S.at 1 rfl)) fun a S=>?_
 refine tc S (F:=QT 2 ((n:Int))) (rc1 Tryz.func32 (S.at 0 rfl)) (zhl (n:=n) (by omega)) fun v a V2 hF hb S=>?_
 obtain⟨b1,x1,y1,rfl,hq1,hk1,hk2,ok1,ok2⟩:=hF
 have S:=S.know ok1
 have S:=S.know ok2
 refine tv S (zab rfl (S.at 4 rfl)) fun a S=>?_
 refine tc S (F:=QT 2 ((m:Int))) (rc1 Tryz.func32 (S.at 0 rfl)) (zhl (n:=m) (by omega)) fun v a V3 hF hb S=>?_
 obtain⟨b2,x2,y2,rfl,hq2,hk3,hk4,ok3,ok4⟩:=hF
 have S:=S.know ok3
 have S:=S.know ok4
 refine tv S (za7 rfl (S.at 2 rfl) (S.at 0 rfl) (zpK _ _ _ _ _ _ _ _ _ _ _ _ _ _)) fun a S=>?_
 refine zaA S (i:=0) (vs:=(lP b1 x1 y1 b2 x2 y2)) rfl (fun ht=>zav rfl (S.at 5 rfl) (S.at 0 rfl) zaY rfl (ztJ rfl) ht) (ztJ rfl) rfl rfl rfl (lb':=[⟨g1,29,(lP b1 x1 y1 b2 x2 y2)⟩]) rfl (fun V4 S=>?_)
 refine hK2 _ _ ?_
 refine wp_ret ?_
 exact zaQ rfl S (S.at 5 rfl) (i:=0) rfl Tryz.underlying29 rfl zaY ⟨_,rfl,((show PT 2 ((n:Int)) ((m:Int)) ((aP b1 x1 y1 b2 x2 y2)) _ from⟨b1,x1,y1,b2,x2,y2,rfl,hq1,hq2,⟨hk1,hk2⟩,⟨hk3,hk4⟩,⟨(S.num 3 rfl),(S.num 2 rfl)⟩,(S.num 1 rfl),(S.num 0 rfl)⟩)).to rfl rfl (by omega),S.below⟩
section
variable {q q' q1 q1' q2 q2' q3 q3' r:Rat}
theorem zde (q:Rat):(0≤q∧absR q=q)∨(q≤0∧absR q= -q):=by
 unfold absR
 by_cases h:q<0
 ·rw[if_pos h];exact .inr ⟨by grind,rfl⟩
 ·rw[if_neg h];exact .inl ⟨by grind,rfl⟩
theorem zc3 (a b:Rat):absR (a - b)=absR (b - a):=by
 rcases zde (a - b)with⟨h1,h2⟩|⟨h1,h2⟩ <;> rcases zde (b - a)with⟨h3,h4⟩|⟨h3,h4⟩ <;> grind
theorem zj9 (h:0≤r)(q:Rat):absR (q*r)=absR q*r:=by
 rcases zde q with⟨h1,h2⟩|⟨h1,h2⟩
 ·have h3:=Rat.mul_nonneg h1 h
  rcases zde (q*r)with⟨h5,h6⟩|⟨h5,h6⟩ <;> grind
 ·have h3:=Rat.mul_nonneg (show 0≤ -q by grind) h
  have h7: -q*r= -(q*r):=by grind
  rw[h7]at h3
  rw[h2,h7]
  rcases zde (q*r)with⟨h5,h6⟩|⟨h5,h6⟩
  ·rw[h6];grind
  ·exact h6
theorem zcg {a b:Rat}:zag a b=0↔a=b:=⟨fun h=>by have:=zew.1 h;grind,fun h=>zew.2 (by grind)⟩
theorem zej:za5 q1 q1' q2 q2'=0↔q1=q2∧q1'=q2':=by
 unfold za5
 by_cases h:zag q1 q2=0
 ·rw[if_pos h,zcg];exact⟨fun h2=>⟨zcg.1 h,h2⟩,fun h2=>h2.2⟩
 ·rw[if_neg h];exact⟨fun h2=>absurd h2 h,fun h2=>absurd (zcg.2 h2.1) h⟩
theorem zka (h:0≤r)(h':r≤1)(a b:Rat):absR (a+(b - a)*r - a)+absR (b - (a+(b - a)*r))=absR (b - a):=by
 rw[show a+(b - a)*r - a=(b - a)*r by grind,show b - (a+(b - a)*r)=(b - a)*(1 - r) by grind,zj9 h,zj9 (show 0≤1 - r by grind)]
 grind
end
def pv (p:PEl):Rat×Rat:=(qOf p.1 p.2.1.N p.2.2.1.N,qOf p.2.2.2.1 p.2.2.2.2.1.N p.2.2.2.2.2.N)
def zek (K:Nat)(p:PEl):Prop:=(p.2.1.n≤K∧p.2.2.1.n≤K)∧p.2.2.2.2.1.n≤K∧p.2.2.2.2.2.n≤K
def PRow (K:Nat)(qs:List (Rat×Rat))(v:Value)(V:World):Prop:=∃(A:Option Addr) (c:Nat) (l:List PEl),v= .slice A l.length c∧PRds V V.heap.size A l∧l.map pv=qs∧(∀p∈l,zek K p)∧l.length≤1000∧l.length≤c∧c≤maxLen
def zrs (K:Nat)(q:Rat×Rat)(p:PEl):Prop:=IsQ q.1 p.1 p.2.1 p.2.2.1∧IsQ q.2 p.2.2.2.1 p.2.2.2.2.1 p.2.2.2.2.2∧zek K p
def TolD (K:Nat)(qs:List (Rat×Rat))(l:List PEl):Prop:=l.length=qs.length∧∀k (h:k<l.length) (h':k<qs.length),zrs K qs[k] l[k]
def TRow (K:Nat)(qs:List (Rat×Rat))(v:Value)(V:World):Prop:=∃(A:Option Addr) (c:Nat) (l:List PEl),v= .slice A l.length c∧PRds V V.heap.size A l∧TolD K qs l∧l.length≤1000∧l.length≤c∧c≤maxLen
section
variable {K K' n:Nat}{qs:List (Rat × Rat)}{v:Value}{V V':World}{l:List PEl}{q:Rat × Rat}{p:PEl}
theorem TolD.nil:TolD K [] []:=⟨rfl,fun _ h=>by cases h⟩
theorem TolD.pv (h:TolD K qs l):l.map pv=qs:=by
 refine List.ext_getElem (by simp[h.1]) fun k h1 h2=>?_
 rw[List.getElem_map]
 obtain⟨a,b,-⟩:=h.2 k (by simpa using h1) h2
 exact Prod.ext a.q b.q
theorem TRow.any (h:TRow K qs v V):PRow K qs v V:=by
 obtain⟨A,c,l,h1,h2,h3,h4⟩:=h
 refine⟨A,c,l,h1,h2,h3.pv,fun p hp=>?_,h4⟩
 obtain⟨k,hk,rfl⟩:=List.getElem_of_mem hp
 exact(h3.2 k hk (by rw[←h3.1];exact hk)).2.2
theorem TRow.keep (h:TRow K qs v V)(hb:Below V.heap.size V V'):TRow K qs v V':=by
 obtain⟨A,c,l,h1,h2,h3⟩:=h;exact⟨A,c,l,h1,(h2.below hb).more hb.size,h3⟩
theorem PRow.keep (h:PRow K qs v V)(hb:Below V.heap.size V V'):PRow K qs v V':=by
 obtain⟨A,c,l,h1,h2,h3⟩:=h;exact⟨A,c,l,h1,(h2.below hb).more hb.size,h3⟩
instance:Keeps (TRow K qs):=⟨fun h hb=>TRow.keep h hb⟩
instance:Keeps (PRow K qs):=⟨fun h hb=>PRow.keep h hb⟩
theorem GP.row (h:GP l v V)(hk:∀p∈l,zek K p)(hl:l.length≤1000)(hq:l.map Go.Proofs.YtdeelcoipmdoiaaGreatDoor.pv=qs):PRow K qs v V:=by
 obtain⟨A,c,h1,h2,h3,h4,h5⟩:=h;exact⟨A,c,l,h1,h2,hq,hk,hl,h4,h5⟩
def z6:PEl:=(false,⟨none,0,0,0⟩,⟨none,0,0,0⟩,false,⟨none,0,0,0⟩,⟨none,0,0,0⟩)
end
section
variable {n:Nat}{ls:List (Tmp × Value)}{lb:List Bx}{w V:World}{e:List Num}{a:Act}{o:Oper}{t:Tmp}{v:Value}{ops:Array Oper}{Q:Exit → Act → World → Prop}{rest:List Oper}{P:Program}
end
section
variable {q q' q1 q1' q2 q2' q3 q3':Rat}
theorem zdS (q1 q1' q2 q2':Rat): -1≤za5 q1 q1' q2 q2'∧za5 q1 q1' q2 q2'≤1:=by
 unfold za5;split
 ·exact zc8 _ _
 ·exact zc8 _ _
theorem zg8 (q1 q1' q2 q2':Rat):za5 q2 q2' q1 q1'= -za5 q1 q1' q2 q2':=by
 unfold za5
 rw[zc7 q1 q2,zc7 q1' q2']
 by_cases h:zag q1 q2=0
 ·rw[if_pos h,if_pos (by omega)]
 ·rw[if_neg h,if_neg (by omega)]
def ElP (K:Nat)(q q':Rat)(v:Value)(V:World):Prop:=∃(A:Option Addr) (m:Nat) (b:Bool) (x y:Num) (b':Bool) (x' y':Num),v= .pointer (some (zbh A m))∧(∃ad,A=some ad∧ad.block<V.heap.size)∧ElAt V A m b x y b' x' y'∧PT K q q' (.agg #[.bool b,.slice x.A x.n x.c,.slice y.A y.n y.c,.bool b',.slice x'.A x'.n x'.c,.slice y'.A y'.n y'.c]) V
section
variable {K n:Nat}{qs:List (Rat × Rat)}{v v1:Value}{V V':World}{a:Act}{o:Oper}{t1 t2:Tmp}
theorem ElP.keep (h:ElP K q q' v V)(hb:Below V.heap.size V V'):ElP K q q' v V':=by
 obtain⟨A,m,b,x,y,b',x',y',h1,⟨ad,rfl,h2⟩,h3,h4⟩:=h
 have hc:∀ {i:Nat} {u:Value},V.cell? (zbh (some ad) i)=some u→V'.cell? (zbh (some ad) i)=some u:=fun h=>(hb.cell (by show(ad.add _).block<_;rw[zaO];exact h2)).trans h
 exact⟨_,m,b,x,y,b',x',y',h1,⟨ad,rfl,ztN h2 hb.size⟩,⟨h3.s,hc h3.c0,hc h3.c1,hc h3.c2,hc h3.c3,hc h3.c4,hc h3.c5⟩,h4.keep hb⟩
instance:Keeps (ElP K q q'):=⟨fun h hb=>ElP.keep h hb⟩
end
end
section
variable {n:Nat}{ls:List (Tmp × Value)}{lb:List Bx}{w V:World}{e:List Num}{a:Act}{o:Oper}{t t1 t2:Tmp}{v:Value}{ops:Array Oper}{Q:Exit → Act → World → Prop}{rest:List Oper}
end
def PL1 (K:Nat)(q q':Rat)(v:Value)(V:World):Prop:=∃(g:Nat) (p:PEl),v= .slice (some ⟨g,0,none⟩) 1 1∧V.heap[g]?=some (.cells (zbx p).toArray 29 (0,0))∧zrs K (q,q') p∧(p.2.1.ok V V.heap.size∧p.2.2.1.ok V V.heap.size)∧p.2.2.2.2.1.ok V V.heap.size∧p.2.2.2.2.2.ok V V.heap.size
theorem PL1.keep {K:Nat}{q q':Rat}{v:Value}{V V':World}(h:PL1 K q q' v V)(hb:Below V.heap.size V V'):PL1 K q q' v V':=by
 obtain⟨g,p,h1,h2,h3,⟨h4,h5⟩,h6,h7⟩:=h
 exact⟨g,p,h1,(hb.block g (Array.getElem?_eq_some_iff.1 h2).1).trans h2,h3,⟨h4.later hb,h5.later hb⟩,h6.later hb,h7.later hb⟩
instance {K:Nat} {q q':Rat}:Keeps (PL1 K q q'):=⟨fun h hb=>PL1.keep h hb⟩
end Go.Proofs.YtdeelcoipmdoiaaGreatDoor
