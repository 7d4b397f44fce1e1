/- Contracts of package vec: points, part by part. -/
import Derived.Test.YtafokgknenienaaGreatDoorGVPt
set_option maxHeartbeats 4000000
set_option maxRecDepth 100000
namespace Go.Proofs.YtafokgknenienaaGreatDoor
open Go Go.RowKit
variable {v v1 v2:Value}{V V' W:World}{K K':Nat}{q q' q1 q1' q2 q2':Rat}
theorem zs3 {K:Nat}{q q':Rat}{v1:Value}{V:World}(h1:P1 K (q) (q') v1 V):
  Calls Tryz.prog 146 #[v1] V (zai V (Q1 K q)):=by
 obtain⟨b1,x1,y1,b2,x2,y2,rfl,hq1,hq2,⟨hk1,hk2⟩,⟨hk3,hk4⟩,⟨ok1,ok2⟩,ok3,ok4⟩:=h1
 refine zao (e:=[x1,y1,x2,y2]) Tryz.func146 rfl Tryz.ntmps146 (zta rfl) [(0,(aP b1 x1 y1 b2 x2 y2))] rfl (zaa ok1 (zaa ok2 (zaa ok3 (zaa ok4 zaz)))) (fun a S=>?_)
 refine wp_seq_k fun K1 hK1=>?_
 refine zab ?_
 refine ti S (cs:=(lP b1 x1 y1 b2 x2 y2)) (zar rfl (S.at 0 rfl) rfl) (fun g1=>[⟨g1,53,(lP b1 x1 y1 b2 x2 y2)⟩]) fun g1 a V1 hgg1 S=>?_
 refine ti S (cs:=[.bool false,.slice none 0 0,.slice none 0 0]) (zas rfl (Tryz.zeroValue27 _) rfl) (fun g2=>[⟨g1,53,(lP b1 x1 y1 b2 x2 y2)⟩,⟨g2,27,[.bool false,.slice none 0 0,.slice none 0 0]⟩]) fun g2 a V2 hgg2 S=>?_
 refine hK1 _ _ ?_
 refine wp_seq_k fun K2 hK2=>?_
 refine zab ?_
 refine tv S (zae rfl (S.at 1 rfl) (zaQ _)) fun a S=>?_
 refine tv S (zac rfl (S.at 0 rfl) (S.bx 0 rfl) Tryz.underlying27 rfl (vs:=(aL b1 x1 y1)) zag rfl) fun a S=>?_
 refine zap S (i:=1) (vs:=(aL b1 x1 y1)) rfl (fun ht=>zal rfl (S.at 2 rfl) (S.at 0 rfl) zag rfl (zta rfl) ht) (zta rfl) rfl rfl rfl (lb':=[⟨g1,53,(lP b1 x1 y1 b2 x2 y2)⟩,⟨g2,27,(aL b1 x1 y1)⟩]) rfl (fun V3 S=>?_)
 refine hK2 _ _ ?_
 refine wp_ret ?_
 exact zaw rfl S (S.at 2 rfl) (i:=1) rfl Tryz.underlying27 rfl zag ⟨_,rfl,(show Q1 K (q) ((aG b1 x1 y1)) _ from⟨b1,x1,y1,rfl,hq1,hk1,hk2,(S.num 0 rfl),(S.num 1 rfl)⟩),S.below⟩
theorem zs4 {K:Nat}{q q':Rat}{v1:Value}{V:World}(h1:P1 K (q) (q') v1 V):
  Calls Tryz.prog 147 #[v1] V (zai V (Q1 K q')):=by
 obtain⟨b1,x1,y1,b2,x2,y2,rfl,hq1,hq2,⟨hk1,hk2⟩,⟨hk3,hk4⟩,⟨ok1,ok2⟩,ok3,ok4⟩:=h1
 refine zao (e:=[x1,y1,x2,y2]) Tryz.func147 rfl Tryz.ntmps147 (zta rfl) [(0,(aP b1 x1 y1 b2 x2 y2))] rfl (zaa ok1 (zaa ok2 (zaa ok3 (zaa ok4 zaz)))) (fun a S=>?_)
 refine wp_seq_k fun K1 hK1=>?_
 refine zab ?_
 refine ti S (cs:=(lP b1 x1 y1 b2 x2 y2)) (zar rfl (S.at 0 rfl) rfl) (fun g1=>[⟨g1,53,(lP b1 x1 y1 b2 x2 y2)⟩]) fun g1 a V1 hgg1 S=>?_
 refine ti S (cs:=[.bool false,.slice none 0 0,.slice none 0 0]) (zas rfl (Tryz.zeroValue27 _) rfl) (fun g2=>[⟨g1,53,(lP b1 x1 y1 b2 x2 y2)⟩,⟨g2,27,[.bool false,.slice none 0 0,.slice none 0 0]⟩]) fun g2 a V2 hgg2 S=>?_
 refine hK1 _ _ ?_
 refine wp_seq_k fun K2 hK2=>?_
 refine zab ?_
 refine tv S (zae rfl (S.at 1 rfl) (zaT _)) fun a S=>?_
 refine tv S (zac rfl (S.at 0 rfl) (S.bx 0 rfl) Tryz.underlying27 rfl (vs:=(aL b2 x2 y2)) zag rfl) fun a S=>?_
 refine zap S (i:=1) (vs:=(aL b2 x2 y2)) rfl (fun ht=>zal rfl (S.at 2 rfl) (S.at 0 rfl) zag rfl (zta rfl) ht) (zta rfl) rfl rfl rfl (lb':=[⟨g1,53,(lP b1 x1 y1 b2 x2 y2)⟩,⟨g2,27,(aL b2 x2 y2)⟩]) rfl (fun V3 S=>?_)
 refine hK2 _ _ ?_
 refine wp_ret ?_
 exact zaw rfl S (S.at 2 rfl) (i:=1) rfl Tryz.underlying27 rfl zag ⟨_,rfl,(show Q1 K (q') ((aG b2 x2 y2)) _ from⟨b2,x2,y2,rfl,hq2,hk3,hk4,(S.num 2 rfl),(S.num 3 rfl)⟩),S.below⟩
theorem zph:Sel 146 false:=⟨enters_of Tryz.func146 (by kernel_rfl) rfl,fun h=>zs3 h⟩
theorem zpi:Sel 147 true:=⟨enters_of Tryz.func147 (by kernel_rfl) rfl,fun h=>zs4 h⟩
theorem zdv {f:FuncId}{caps:Array Value}{K:Nat}{q q':Rat}{V:World}(en:∀args w,(callFunc f args).run Tryz.prog w= .ok (.enter f args) w)(hx:∀W,Below V.heap.size V W→Calls Tryz.prog f (#[.func (.func 146) #[] #[]]++caps) W (zai W (QT K q))) (hy:∀W,Below V.heap.size V W→Calls Tryz.prog f (#[.func (.func 147) #[] #[]]++caps) W (zai W (QT K q'))):
  Calls Tryz.prog 110 #[.func (.func f) #[] caps] V (zai V (PT K q q')):=by
 refine zao (e:=[]) Tryz.func110 rfl Tryz.ntmps110 (zta rfl) [(0,.func (.func f) #[] caps)] rfl zaz (fun a S=>?_)
 refine wp_seq_k fun K1 hK1=>?_
 refine zab ?_
 refine ti S (cs:=[.bool false,.slice none 0 0,.slice none 0 0,.bool false,.slice none 0 0,.slice none 0 0]) (zas rfl (Tryz.zeroValue53 _) rfl) (fun g1=>[⟨g1,53,[.bool false,.slice none 0 0,.slice none 0 0,.bool false,.slice none 0 0,.slice none 0 0]⟩]) fun g1 a V1 hgg1 S=>?_
 refine hK1 _ _ ?_
 refine wp_seq_k fun K2 hK2=>?_
 refine zab ?_
 refine tv S (zad rfl (S.at 1 rfl)) fun a S=>?_
 refine tc S (F:=QT K (q)) (zhL en (S.at 0 rfl)) (hx _ S.below) fun v a V2 hF hb S=>?_
 obtain⟨b1,x1,y1,rfl,hq1,hk1,hk2,ok1,ok2⟩:=hF
 have S:=S.know ok1
 have S:=S.know ok2
 refine tv S (zad rfl (S.at 3 rfl)) fun a S=>?_
 refine tc S (F:=QT K (q')) (zhL en (S.at 0 rfl)) (hy _ S.below) fun v a V3 hF hb S=>?_
 obtain⟨b2,x2,y2,rfl,hq2,hk3,hk4,ok3,ok4⟩:=hF
 have S:=S.know ok3
 have S:=S.know ok4
 refine tv S (za2 rfl (S.at 2 rfl) (S.at 0 rfl) (zlw _ _ _ _ _ _ _ _ _ _ _ _ _ _)) fun a S=>?_
 refine zap S (i:=0) (vs:=(lP b1 x1 y1 b2 x2 y2)) rfl (fun ht=>zal rfl (S.at 5 rfl) (S.at 0 rfl) zaq rfl (zta rfl) ht) (zta rfl) rfl rfl rfl (lb':=[⟨g1,53,(lP b1 x1 y1 b2 x2 y2)⟩]) rfl (fun V4 S=>?_)
 refine hK2 _ _ ?_
 refine wp_ret ?_
 exact zaw rfl S (S.at 5 rfl) (i:=0) rfl Tryz.underlying53 rfl zaq ⟨_,rfl,⟨b1,x1,y1,b2,x2,y2,rfl,hq1,hq2,⟨hk1,hk2⟩,⟨hk3,hk4⟩,⟨(S.num 3 rfl),(S.num 2 rfl)⟩,(S.num 1 rfl),(S.num 0 rfl)⟩,S.below⟩
structure PtAt (V:World) (g K:Nat) (q q':Rat) (b:Bool) (x y:Num) (b':Bool) (x' y':Num):Prop where
 cell:V.heap[g]?=some (.cells [.bool b,.slice x.A x.n x.c,.slice y.A y.n y.c,.bool b',.slice x'.A x'.n x'.c,.slice y'.A y'.n y'.c].toArray 53 (0,0))
 q:qOf b x.N y.N=q
 q':qOf b' x'.N y'.N=q'
 kx:x.n≤K
 ky:y.n≤K
 kx':x'.n≤K
 ky':y'.n≤K
 ox:x.ok V V.heap.size
 oy:y.ok V V.heap.size
 ox':x'.ok V V.heap.size
 oy':y'.ok V V.heap.size
structure RtAt (V:World) (g K:Nat) (q:Rat) (b:Bool) (x y:Num):Prop where
 cell:V.heap[g]?=some (.cells [.bool b,.slice x.A x.n x.c,.slice y.A y.n y.c].toArray 27 (0,0))
 q:qOf b x.N y.N=q
 kx:x.n≤K
 ky:y.n≤K
 ox:x.ok V V.heap.size
 oy:y.ok V V.heap.size
section
variable {g:Nat}{b b':Bool}{x y x' y':Num}
theorem PtAt.at (h:PtAt V g K q q' b x y b' x' y')(hb:Below V.heap.size V W):W.heap[g]?=some (.cells [.bool b,.slice x.A x.n x.c,.slice y.A y.n y.c,.bool b',.slice x'.A x'.n x'.c,.slice y'.A y'.n y'.c].toArray 53 (0,0)):=
 (hb.block g (Array.getElem?_eq_some_iff.1 h.cell).1).trans h.cell
theorem RtAt.at (h:RtAt V g K q b x y)(hb:Below V.heap.size V W):W.heap[g]?=some (.cells [.bool b,.slice x.A x.n x.c,.slice y.A y.n y.c].toArray 27 (0,0)):=
 (hb.block g (Array.getElem?_eq_some_iff.1 h.cell).1).trans h.cell
theorem PtAt.keep (h:PtAt V g K q q' b x y b' x' y')(hb:Below V.heap.size V W):PtAt W g K q q' b x y b' x' y':=
 ⟨h.at hb,h.q,h.q',h.kx,h.ky,h.kx',h.ky',h.ox.later hb,h.oy.later hb,h.ox'.later hb,h.oy'.later hb⟩
theorem RtAt.keep (h:RtAt V g K q b x y)(hb:Below V.heap.size V W):RtAt W g K q b x y:=⟨h.at hb,h.q,h.kx,h.ky,h.ox.later hb,h.oy.later hb⟩
end
theorem zpj {K:Nat}{q1 q1':Rat}{f0:FuncId}{s:Bool}{g1_:Nat}{b1_ b1b_:Bool}{x1_ y1_ x1b_ y1b_:Num}{V:World}(T:TT V)(hs:Sel f0 s)(B1:PtAt V g1_ K q1 q1' b1_ x1_ y1_ b1b_ x1b_ y1b_)(hK0:K≤400):
  Calls Tryz.prog 117 #[.func (.func f0) #[] #[],pT g1_ 0] V (zai V (QT (max K 1) (sel s q1 q1'))):=by
 refine zao (e:=[x1_,y1_,x1b_,y1b_]) Tryz.func117 rfl Tryz.ntmps117 (zta rfl) [(0,.func (.func f0) #[] #[]),(1,pT g1_ 0)] rfl (zaa B1.ox (zaa B1.oy (zaa B1.ox' (zaa B1.oy' zaz)))) (fun a S=>?_)
 refine wp_seq_k fun K1 hK1=>?_
 refine zab ?_
 refine ti S (cs:=[.bool false,.slice none 0 0,.slice none 0 0]) (zas rfl (Tryz.zeroValue27 _) rfl) (fun g1=>[⟨g1,27,[.bool false,.slice none 0 0,.slice none 0 0]⟩]) fun g1 a V1 hgg1 S=>?_
 refine hK1 _ _ ?_
 refine wp_seq_k fun K2 hK2=>?_
 refine zab ?_
 refine tv S (zad rfl (S.at 1 rfl)) fun a S=>?_
 refine tv S (zac rfl (S.at 3 rfl) (B1.at S.below) Tryz.underlying53 rfl (vs:=(lP b1_ x1_ y1_ b1b_ x1b_ y1b_)) zaq rfl) fun a S=>?_
 refine tc S (F:=Q1 K (sel s q1 (q1'))) (zcB hs.en (S.at 1 rfl) (S.at 0 rfl)) (hs.tells (show P1 K (q1) (q1') ((aP b1_ x1_ y1_ b1b_ x1b_ y1b_)) _ from⟨b1_,x1_,y1_,b1b_,x1b_,y1b_,rfl,B1.q,B1.q',⟨B1.kx,B1.ky⟩,⟨B1.kx',B1.ky'⟩,⟨(S.num 0 rfl),(S.num 1 rfl)⟩,(S.num 2 rfl),(S.num 3 rfl)⟩)) fun v a V2 hF hb S=>?_
 obtain⟨b1,x1,y1,rfl,hq1,hk1,hk2,ok1,ok2⟩:=hF
 have S:=S.know ok1
 have S:=S.know ok2
 refine tc S (F:=QT (max K 1) (sel s q1 (q1'))) (rc1 Tryz.func24 (S.at 0 rfl)) (zrc (T.keep S.below) (show Q1 K (sel s q1 (q1')) ((aG b1 x1 y1)) _ from⟨b1,x1,y1,rfl,hq1,hk1,hk2,(S.num 1 rfl),(S.num 0 rfl)⟩) (by omega)) fun v a V3 hF hb S=>?_
 obtain⟨b2,x2,y2,rfl,hq2,hk3,hk4,ok3,ok4⟩:=hF
 have S:=S.know ok3
 have S:=S.know ok4
 refine zap S (i:=0) (vs:=(aL b2 x2 y2)) rfl (fun ht=>zal rfl (S.at 4 rfl) (S.at 0 rfl) zag rfl (zta rfl) ht) (zta rfl) rfl rfl rfl (lb':=[⟨g1,27,(aL b2 x2 y2)⟩]) rfl (fun V4 S=>?_)
 refine hK2 _ _ ?_
 refine wp_ret ?_
 exact zaw rfl S (S.at 4 rfl) (i:=0) rfl Tryz.underlying27 rfl zag ⟨_,rfl,((show QT (max K 1) (sel s q1 (q1')) ((aG b2 x2 y2)) _ from⟨b2,x2,y2,rfl,hq2,hk3,hk4,(S.num 1 rfl),(S.num 0 rfl)⟩)).to rfl (by omega),S.below⟩
theorem zqP {K:Nat}{q1 q1':Rat}{f0:FuncId}{s:Bool}{g1_:Nat}{b1_ b1b_:Bool}{x1_ y1_ x1b_ y1b_:Num}{V:World}(T:TT V)(hs:Sel f0 s)(B1:PtAt V g1_ K q1 q1' b1_ x1_ y1_ b1b_ x1b_ y1b_)(hK0:K≤400):
  Calls Tryz.prog 113 #[.func (.func f0) #[] #[],pT g1_ 0] V (zai V (QT (max K 1) (-(sel s q1 q1')))):=by
 refine zao (e:=[x1_,y1_,x1b_,y1b_]) Tryz.func113 rfl Tryz.ntmps113 (zta rfl) [(0,.func (.func f0) #[] #[]),(1,pT g1_ 0)] rfl (zaa B1.ox (zaa B1.oy (zaa B1.ox' (zaa B1.oy' zaz)))) (fun a S=>?_)
 refine wp_seq_k fun K1 hK1=>?_
 refine zab ?_
 refine ti S (cs:=[.bool false,.slice none 0 0,.slice none 0 0]) (zas rfl (Tryz.zeroValue27 _) rfl) (fun g1=>[⟨g1,27,[.bool false,.slice none 0 0,.slice none 0 0]⟩]) fun g1 a V1 hgg1 S=>?_
 refine hK1 _ _ ?_
 refine wp_seq_k fun K2 hK2=>?_
 refine zab ?_
 refine tv S (zad rfl (S.at 1 rfl)) fun a S=>?_
 refine tv S (zac rfl (S.at 3 rfl) (B1.at S.below) Tryz.underlying53 rfl (vs:=(lP b1_ x1_ y1_ b1b_ x1b_ y1b_)) zaq rfl) fun a S=>?_
 refine tc S (F:=Q1 K (sel s q1 (q1'))) (zcB hs.en (S.at 1 rfl) (S.at 0 rfl)) (hs.tells (show P1 K (q1) (q1') ((aP b1_ x1_ y1_ b1b_ x1b_ y1b_)) _ from⟨b1_,x1_,y1_,b1b_,x1b_,y1b_,rfl,B1.q,B1.q',⟨B1.kx,B1.ky⟩,⟨B1.kx',B1.ky'⟩,⟨(S.num 0 rfl),(S.num 1 rfl)⟩,(S.num 2 rfl),(S.num 3 rfl)⟩)) fun v a V2 hF hb S=>?_
 obtain⟨b1,x1,y1,rfl,hq1,hk1,hk2,ok1,ok2⟩:=hF
 have S:=S.know ok1
 have S:=S.know ok2
 refine tc S (F:=QT (max K 1) (-(sel s q1 (q1')))) (rc1 Tryz.func26 (S.at 0 rfl)) (zqz (T.keep S.below) (show Q1 K (sel s q1 (q1')) ((aG b1 x1 y1)) _ from⟨b1,x1,y1,rfl,hq1,hk1,hk2,(S.num 1 rfl),(S.num 0 rfl)⟩) (by omega)) fun v a V3 hF hb S=>?_
 obtain⟨b2,x2,y2,rfl,hq2,hk3,hk4,ok3,ok4⟩:=hF
 have S:=S.know ok3
 have S:=S.know ok4
 refine zap S (i:=0) (vs:=(aL b2 x2 y2)) rfl (fun ht=>zal rfl (S.at 4 rfl) (S.at 0 rfl) zag rfl (zta rfl) ht) (zta rfl) rfl rfl rfl (lb':=[⟨g1,27,(aL b2 x2 y2)⟩]) rfl (fun V4 S=>?_)
 refine hK2 _ _ ?_
 refine wp_ret ?_
 exact zaw rfl S (S.at 4 rfl) (i:=0) rfl Tryz.underlying27 rfl zag ⟨_,rfl,((show QT (max K 1) (-(sel s q1 (q1'))) ((aG b2 x2 y2)) _ from⟨b2,x2,y2,rfl,hq2,hk3,hk4,(S.num 1 rfl),(S.num 0 rfl)⟩)).to rfl (by omega),S.below⟩
theorem zqQ {K K':Nat}{q1 q1' q2 q2':Rat}{f0:FuncId}{s:Bool}{g1_:Nat}{b1_ b1b_:Bool}{x1_ y1_ x1b_ y1b_:Num}{g2_:Nat}{b2_ b2b_:Bool}{x2_ y2_ x2b_ y2b_:Num}{V:World}(T:TT V)(hs:Sel f0 s)(B1:PtAt V g1_ K q1 q1' b1_ x1_ y1_ b1b_ x1b_ y1b_)(B2:PtAt V g2_ K' q2 q2' b2_ x2_ y2_ b2b_ x2b_ y2b_)(hK0:K≤400)(hK1:K'≤400):
  Calls Tryz.prog 111 #[.func (.func f0) #[] #[],pT g1_ 0,pT g2_ 0] V (zai V (QT (2*max (max K K') 1+1) (sel s q1 q1'+sel s q2 q2'))):=by
 refine zao (e:=[x1_,y1_,x1b_,y1b_,x2_,y2_,x2b_,y2b_]) Tryz.func111 rfl Tryz.ntmps111 (zta rfl) [(0,.func (.func f0) #[] #[]),(1,pT g1_ 0),(2,pT g2_ 0)] rfl (zaa B1.ox (zaa B1.oy (zaa B1.ox' (zaa B1.oy' (zaa B2.ox (zaa B2.oy (zaa B2.ox' (zaa B2.oy' zaz)))))))) (fun a S=>?_)
 refine wp_seq_k fun K1 hK1=>?_
 refine zab ?_
 refine ti S (cs:=[.bool false,.slice none 0 0,.slice none 0 0]) (zas rfl (Tryz.zeroValue27 _) rfl) (fun g1=>[⟨g1,27,[.bool false,.slice none 0 0,.slice none 0 0]⟩]) fun g1 a V1 hgg1 S=>?_
 refine hK1 _ _ ?_
 refine wp_seq_k fun K2 hK2=>?_
 obtain⟨W1,hW1⟩:∃W,W=V1:=⟨_,rfl⟩
 rw[←hW1]at S ⊢
 have S0:=S
 refine fr 8 [5,6,7,8,9,10,11,12] [IsV (.func (.func f0) #[] #[]),IsV ((aP b1_ x1_ y1_ b1b_ x1b_ y1b_)),Q1 K (sel s q1 (q1')),IsV (.func (.func f0) #[] #[]),IsV ((aP b2_ x2_ y2_ b2b_ x2b_ y2b_)),Q1 K' (sel s q2 (q2')),QL (max K K') 6 ([sel s q1 (q1'),sel s q2 (q2')]),QT (2*(max (max K K') 1)+1) ((sel s q1 (q1'))+(sel s q2 (q2')))] S ?_ ?_
 ·refine sc (fun _ _ S _ _=>sv rfl (zad rfl (S.at 1 rfl))) ?_
  refine sc (fun _ _ S _ _=>sv rfl (zac rfl (S.at 2 rfl) (B1.at S.below) Tryz.underlying53 rfl (vs:=(lP b1_ x1_ y1_ b1b_ x1b_ y1b_)) zaq rfl)) ?_
  refine sc (fun _ _ S _ hd=>sl rfl (zcB hs.en (hd.v 0 rfl rfl) (hd.v 1 rfl rfl)) (hs.tells (show P1 K (q1) (q1') ((aP b1_ x1_ y1_ b1b_ x1b_ y1b_)) _ from⟨b1_,x1_,y1_,b1b_,x1b_,y1b_,rfl,B1.q,B1.q',⟨B1.kx,B1.ky⟩,⟨B1.kx',B1.ky'⟩,⟨(S.num 0 rfl),(S.num 1 rfl)⟩,(S.num 2 rfl),(S.num 3 rfl)⟩))) ?_
  refine sc (fun _ _ S _ _=>sv rfl (zad rfl (S.at 1 rfl))) ?_
  refine sc (fun _ _ S _ _=>sv rfl (zac rfl (S.at 3 rfl) (B2.at S.below) Tryz.underlying53 rfl (vs:=(lP b2_ x2_ y2_ b2b_ x2b_ y2b_)) zaq rfl)) ?_
  refine sc (fun _ _ S _ hd=>sl rfl (zcB hs.en (hd.v 3 rfl rfl) (hd.v 4 rfl rfl)) (hs.tells (show P1 K' (q2) (q2') ((aP b2_ x2_ y2_ b2b_ x2b_ y2b_)) _ from⟨b2_,x2_,y2_,b2b_,x2b_,y2b_,rfl,B2.q,B2.q',⟨B2.kx,B2.ky⟩,⟨B2.kx',B2.ky'⟩,⟨(S.num 4 rfl),(S.num 5 rfl)⟩,(S.num 6 rfl),(S.num 7 rfl)⟩))) ?_
  refine sc (fun _ _ _ _ hd=>sy rfl (zbc rfl rfl rfl (((hd.r 2 rfl rfl)).to rfl (by omega)) (((hd.r 5 rfl rfl)).to rfl (by omega)))) ?_
  refine sc (fun _ _ S _ hd=>sl rfl (rc1 Tryz.func28 rfl) (zo7 (T.keep S.below) ((hd.r 6 rfl rfl)).row (by omega))) ?_
  exact sn
 ·intro a1 V2 S hB hf
  obtain⟨b1,x1,y1,hv1,hq1,hk1,hk2,ok1,ok2⟩:=hf.r 7 rfl rfl
  have S:=S.add hv1
  have S:=S.know ok1
  have S:=S.know ok2
  clear hf S0
  show wpList _ _ _ [_] _ _
  refine zap S (i:=0) (vs:=(aL b1 x1 y1)) rfl (fun ht=>zal rfl (S.at 1 rfl) (S.at 0 rfl) zag rfl (zta rfl) ht) (zta rfl) rfl rfl rfl (lb':=[⟨g1,27,(aL b1 x1 y1)⟩]) rfl (fun V3 S=>?_)
  refine hK2 _ _ ?_
  refine wp_ret ?_
  exact zaw rfl S (S.at 1 rfl) (i:=0) rfl Tryz.underlying27 rfl zag ⟨_,rfl,((show QT (2*(max (max K K') 1)+1) ((sel s q1 (q1'))+(sel s q2 (q2'))) ((aG b1 x1 y1)) _ from⟨b1,x1,y1,rfl,hq1,hk1,hk2,(S.num 1 rfl),(S.num 0 rfl)⟩)).to rfl (by omega),S.below⟩
theorem zqR {K K':Nat}{q1 q1' q2 q2':Rat}{f0:FuncId}{s:Bool}{g1_:Nat}{b1_ b1b_:Bool}{x1_ y1_ x1b_ y1b_:Num}{g2_:Nat}{b2_ b2b_:Bool}{x2_ y2_ x2b_ y2b_:Num}{V:World}(T:TT V)(hs:Sel f0 s)(B1:PtAt V g1_ K q1 q1' b1_ x1_ y1_ b1b_ x1b_ y1b_)(B2:PtAt V g2_ K' q2 q2' b2_ x2_ y2_ b2b_ x2b_ y2b_)(hK0:K≤400)(hK1:K'≤400):
  Calls Tryz.prog 112 #[.func (.func f0) #[] #[],pT g1_ 0,pT g2_ 0] V (zai V (QT (max K 1+max K' 1+1) (sel s q1 q1' - sel s q2 q2'))):=by
 refine zao (e:=[x1_,y1_,x1b_,y1b_,x2_,y2_,x2b_,y2b_]) Tryz.func112 rfl Tryz.ntmps112 (zta rfl) [(0,.func (.func f0) #[] #[]),(1,pT g1_ 0),(2,pT g2_ 0)] rfl (zaa B1.ox (zaa B1.oy (zaa B1.ox' (zaa B1.oy' (zaa B2.ox (zaa B2.oy (zaa B2.ox' (zaa B2.oy' zaz)))))))) (fun a S=>?_)
 refine wp_seq_k fun K1 hK1=>?_
 refine zab ?_
 refine ti S (cs:=[.bool false,.slice none 0 0,.slice none 0 0]) (zas rfl (Tryz.zeroValue27 _) rfl) (fun g1=>[⟨g1,27,[.bool false,.slice none 0 0,.slice none 0 0]⟩]) fun g1 a V1 hgg1 S=>?_
 refine hK1 _ _ ?_
 refine wp_seq_k fun K2 hK2=>?_
 obtain⟨W1,hW1⟩:∃W,W=V1:=⟨_,rfl⟩
 rw[←hW1]at S ⊢
 have S0:=S
 refine fr 7 [5,6,7,8,9,10,11] [IsV (.func (.func f0) #[] #[]),IsV ((aP b1_ x1_ y1_ b1b_ x1b_ y1b_)),Q1 K (sel s q1 (q1')),IsV (.func (.func f0) #[] #[]),IsV ((aP b2_ x2_ y2_ b2b_ x2b_ y2b_)),Q1 K' (sel s q2 (q2')),QT ((max K 1)+(max K' 1)+1) ((sel s q1 (q1')) - (sel s q2 (q2')))] S ?_ ?_
 ·refine sc (fun _ _ S _ _=>sv rfl (zad rfl (S.at 1 rfl))) ?_
  refine sc (fun _ _ S _ _=>sv rfl (zac rfl (S.at 2 rfl) (B1.at S.below) Tryz.underlying53 rfl (vs:=(lP b1_ x1_ y1_ b1b_ x1b_ y1b_)) zaq rfl)) ?_
  refine sc (fun _ _ S _ hd=>sl rfl (zcB hs.en (hd.v 0 rfl rfl) (hd.v 1 rfl rfl)) (hs.tells (show P1 K (q1) (q1') ((aP b1_ x1_ y1_ b1b_ x1b_ y1b_)) _ from⟨b1_,x1_,y1_,b1b_,x1b_,y1b_,rfl,B1.q,B1.q',⟨B1.kx,B1.ky⟩,⟨B1.kx',B1.ky'⟩,⟨(S.num 0 rfl),(S.num 1 rfl)⟩,(S.num 2 rfl),(S.num 3 rfl)⟩))) ?_
  refine sc (fun _ _ S _ _=>sv rfl (zad rfl (S.at 1 rfl))) ?_
  refine sc (fun _ _ S _ _=>sv rfl (zac rfl (S.at 3 rfl) (B2.at S.below) Tryz.underlying53 rfl (vs:=(lP b2_ x2_ y2_ b2b_ x2b_ y2b_)) zaq rfl)) ?_
  refine sc (fun _ _ S _ hd=>sl rfl (zcB hs.en (hd.v 3 rfl rfl) (hd.v 4 rfl rfl)) (hs.tells (show P1 K' (q2) (q2') ((aP b2_ x2_ y2_ b2b_ x2b_ y2b_)) _ from⟨b2_,x2_,y2_,b2b_,x2b_,y2b_,rfl,B2.q,B2.q',⟨B2.kx,B2.ky⟩,⟨B2.kx',B2.ky'⟩,⟨(S.num 4 rfl),(S.num 5 rfl)⟩,(S.num 6 rfl),(S.num 7 rfl)⟩))) ?_
  refine sc (fun _ _ S _ hd=>sl rfl (rc2 Tryz.func34 rfl rfl) (zqA (T.keep S.below) (hd.r 2 rfl rfl) (hd.r 5 rfl rfl) (by omega) (by omega))) ?_
  exact sn
 ·intro a1 V2 S hB hf
  obtain⟨b1,x1,y1,hv1,hq1,hk1,hk2,ok1,ok2⟩:=hf.r 6 rfl rfl
  have S:=S.add hv1
  have S:=S.know ok1
  have S:=S.know ok2
  clear hf S0
  show wpList _ _ _ [_] _ _
  refine zap S (i:=0) (vs:=(aL b1 x1 y1)) rfl (fun ht=>zal rfl (S.at 1 rfl) (S.at 0 rfl) zag rfl (zta rfl) ht) (zta rfl) rfl rfl rfl (lb':=[⟨g1,27,(aL b1 x1 y1)⟩]) rfl (fun V3 S=>?_)
  refine hK2 _ _ ?_
  refine wp_ret ?_
  exact zaw rfl S (S.at 1 rfl) (i:=0) rfl Tryz.underlying27 rfl zag ⟨_,rfl,((show QT ((max K 1)+(max K' 1)+1) ((sel s q1 (q1')) - (sel s q2 (q2'))) ((aG b1 x1 y1)) _ from⟨b1,x1,y1,rfl,hq1,hk1,hk2,(S.num 1 rfl),(S.num 0 rfl)⟩)).to rfl (by omega),S.below⟩
theorem zlE {K K':Nat}{q1 q1' q2:Rat}{f0:FuncId}{s:Bool}{g1_:Nat}{b1_ b1b_:Bool}{x1_ y1_ x1b_ y1b_:Num}{g2_:Nat}{b2_:Bool}{x2_ y2_:Num}{V:World}(T:TT V)(hs:Sel f0 s)(B1:PtAt V g1_ K q1 q1' b1_ x1_ y1_ b1b_ x1b_ y1b_)(B2:RtAt V g2_ K' q2 b2_ x2_ y2_)(hK0:K≤400)(hK1:K'≤400):
  Calls Tryz.prog 114 #[.func (.func f0) #[] #[],pT g1_ 0,pT g2_ 0] V (zai V (QT (2*max (max K K') 1) (sel s q1 q1'*q2))):=by
 refine zao (e:=[x1_,y1_,x1b_,y1b_,x2_,y2_]) Tryz.func114 rfl Tryz.ntmps114 (zta rfl) [(0,.func (.func f0) #[] #[]),(1,pT g1_ 0),(2,pT g2_ 0)] rfl (zaa B1.ox (zaa B1.oy (zaa B1.ox' (zaa B1.oy' (zaa B2.ox (zaa B2.oy zaz)))))) (fun a S=>?_)
 refine wp_seq_k fun K1 hK1=>?_
 refine zab ?_
 refine ti S (cs:=[.bool false,.slice none 0 0,.slice none 0 0]) (zas rfl (Tryz.zeroValue27 _) rfl) (fun g1=>[⟨g1,27,[.bool false,.slice none 0 0,.slice none 0 0]⟩]) fun g1 a V1 hgg1 S=>?_
 refine hK1 _ _ ?_
 refine wp_seq_k fun K2 hK2=>?_
 obtain⟨W1,hW1⟩:∃W,W=V1:=⟨_,rfl⟩
 rw[←hW1]at S ⊢
 have S0:=S
 refine fr 6 [5,6,7,8,9,10] [IsV (.func (.func f0) #[] #[]),IsV ((aP b1_ x1_ y1_ b1b_ x1b_ y1b_)),Q1 K (sel s q1 (q1')),IsV ((aG b2_ x2_ y2_)),QL (max K K') 6 ([sel s q1 (q1'),q2]),QT (2*(max (max K K') 1)) ((sel s q1 (q1'))*q2)] S ?_ ?_
 ·refine sc (fun _ _ S _ _=>sv rfl (zad rfl (S.at 1 rfl))) ?_
  refine sc (fun _ _ S _ _=>sv rfl (zac rfl (S.at 2 rfl) (B1.at S.below) Tryz.underlying53 rfl (vs:=(lP b1_ x1_ y1_ b1b_ x1b_ y1b_)) zaq rfl)) ?_
  refine sc (fun _ _ S _ hd=>sl rfl (zcB hs.en (hd.v 0 rfl rfl) (hd.v 1 rfl rfl)) (hs.tells (show P1 K (q1) (q1') ((aP b1_ x1_ y1_ b1b_ x1b_ y1b_)) _ from⟨b1_,x1_,y1_,b1b_,x1b_,y1b_,rfl,B1.q,B1.q',⟨B1.kx,B1.ky⟩,⟨B1.kx',B1.ky'⟩,⟨(S.num 0 rfl),(S.num 1 rfl)⟩,(S.num 2 rfl),(S.num 3 rfl)⟩))) ?_
  refine sc (fun _ _ S _ _=>sv rfl (zac rfl (S.at 3 rfl) (B2.at S.below) Tryz.underlying27 rfl (vs:=(aL b2_ x2_ y2_)) zag rfl)) ?_
  refine sc (fun _ _ S _ hd=>sy rfl (zbc rfl rfl (hd.v 3 rfl rfl) (((hd.r 2 rfl rfl)).to rfl (by omega)) (((show Q1 K' (q2) ((aG b2_ x2_ y2_)) _ from⟨b2_,x2_,y2_,rfl,B2.q,B2.kx,B2.ky,(S.num 4 rfl),(S.num 5 rfl)⟩)).to rfl (by omega)))) ?_
  refine sc (fun _ _ S _ hd=>sl rfl (rc1 Tryz.func30 rfl) (zjN (T.keep S.below) ((hd.r 4 rfl rfl)).row (by omega))) ?_
  exact sn
 ·intro a1 V2 S hB hf
  obtain⟨b1,x1,y1,hv1,hq1,hk1,hk2,ok1,ok2⟩:=hf.r 5 rfl rfl
  have S:=S.add hv1
  have S:=S.know ok1
  have S:=S.know ok2
  clear hf S0
  show wpList _ _ _ [_] _ _
  refine zap S (i:=0) (vs:=(aL b1 x1 y1)) rfl (fun ht=>zal rfl (S.at 1 rfl) (S.at 0 rfl) zag rfl (zta rfl) ht) (zta rfl) rfl rfl rfl (lb':=[⟨g1,27,(aL b1 x1 y1)⟩]) rfl (fun V3 S=>?_)
  refine hK2 _ _ ?_
  refine wp_ret ?_
  exact zaw rfl S (S.at 1 rfl) (i:=0) rfl Tryz.underlying27 rfl zag ⟨_,rfl,((show QT (2*(max (max K K') 1)) ((sel s q1 (q1'))*q2) ((aG b1 x1 y1)) _ from⟨b1,x1,y1,rfl,hq1,hk1,hk2,(S.num 1 rfl),(S.num 0 rfl)⟩)).to rfl (by omega),S.below⟩
theorem zs5 {K K':Nat}{q1 q1' q2 q2':Rat}{v1 v2:Value}{V:World}(T:TT V)(h1:P1 K (q1) (q1') v1 V)(h2:P1 K' (q2) (q2') v2 V)(hK0:K≤400)(hK1:K'≤400):
  Calls Tryz.prog 49 #[v1,v2] V (zai V (PT (2*max (max K K') 1+1) (q1+q2) (q1'+q2'))):=by
 obtain⟨b1,x1,y1,b2,x2,y2,rfl,hq1,hq2,⟨hk1,hk2⟩,⟨hk3,hk4⟩,⟨ok1,ok2⟩,ok3,ok4⟩:=h1
 obtain⟨b3,x3,y3,b4,x4,y4,rfl,hq3,hq4,⟨hk5,hk6⟩,⟨hk7,hk8⟩,⟨ok5,ok6⟩,ok7,ok8⟩:=h2
 refine zao (e:=[x3,y3,x4,y4,x1,y1,x2,y2]) Tryz.func49 rfl Tryz.ntmps49 (zta rfl) [(0,(aP b1 x1 y1 b2 x2 y2)),(1,(aP b3 x3 y3 b4 x4 y4))] rfl (zaa ok5 (zaa ok6 (zaa ok7 (zaa ok8 (zaa ok1 (zaa ok2 (zaa ok3 (zaa ok4 zaz)))))))) (fun a S=>?_)
 refine wp_seq_k fun K1 hK1=>?_
 refine zab ?_
 refine ti S (cs:=(lP b1 x1 y1 b2 x2 y2)) (zar rfl (S.at 0 rfl) rfl) (fun g1=>[⟨g1,53,(lP b1 x1 y1 b2 x2 y2)⟩]) fun g1 a V1 hgg1 S=>?_
 refine ti S (cs:=(lP b3 x3 y3 b4 x4 y4)) (zar rfl (S.at 2 rfl) rfl) (fun g2=>[⟨g1,53,(lP b1 x1 y1 b2 x2 y2)⟩,⟨g2,53,(lP b3 x3 y3 b4 x4 y4)⟩]) fun g2 a V2 hgg2 S=>?_
 refine ti S (cs:=[.bool false,.slice none 0 0,.slice none 0 0,.bool false,.slice none 0 0,.slice none 0 0]) (zas rfl (Tryz.zeroValue53 _) rfl) (fun g3=>[⟨g1,53,(lP b1 x1 y1 b2 x2 y2)⟩,⟨g2,53,(lP b3 x3 y3 b4 x4 y4)⟩,⟨g3,53,[.bool false,.slice none 0 0,.slice none 0 0,.bool false,.slice none 0 0,.slice none 0 0]⟩]) fun g3 a V3 hgg3 S=>?_
 refine hK1 _ _ ?_
 refine wp_seq_k fun K2 hK2=>?_
 refine zab ?_
 refine tv S (zfB rfl (S.at 2 rfl) (S.at 1 rfl)) fun a S=>?_
 have hB1:=(PtAt.mk (V:=V3) (S.bx 0 rfl) hq1 hq2 hk1 hk2 hk3 hk4 (S.num 4 rfl) (S.num 5 rfl) (S.num 6 rfl) (S.num 7 rfl))
 have hB2:=(PtAt.mk (V:=V3) (S.bx 1 rfl) hq3 hq4 hk5 hk6 hk7 hk8 (S.num 0 rfl) (S.num 1 rfl) (S.num 2 rfl) (S.num 3 rfl))
 refine tc S (F:=PT (2*max (max K K') 1+1) ((q1+q2)) ((q1'+q2'))) (rc1 Tryz.func110 (S.at 0 rfl)) (zdv (q:=(q1+q2)) (q':=(q1'+q2')) (enters_of Tryz.func111 (by kernel_rfl) rfl) (fun W hW=>zqQ ((T.keep S.below).keep hW) zph (hB1.keep hW) (hB2.keep hW) (by omega) (by omega)) (fun W hW=>zqQ ((T.keep S.below).keep hW) zpi (hB1.keep hW) (hB2.keep hW) (by omega) (by omega))) fun v a V4 hF hb S=>?_
 obtain⟨b5,x5,y5,b6,x6,y6,rfl,hq5,hq6,⟨hk9,hk10⟩,⟨hk11,hk12⟩,⟨ok9,ok10⟩,ok11,ok12⟩:=hF
 have S:=S.know ok9
 have S:=S.know ok10
 have S:=S.know ok11
 have S:=S.know ok12
 refine zap S (i:=2) (vs:=(lP b5 x5 y5 b6 x6 y6)) rfl (fun ht=>zal rfl (S.at 2 rfl) (S.at 0 rfl) zaq rfl (zta rfl) ht) (zta rfl) rfl rfl rfl (lb':=[⟨g1,53,(lP b1 x1 y1 b2 x2 y2)⟩,⟨g2,53,(lP b3 x3 y3 b4 x4 y4)⟩,⟨g3,53,(lP b5 x5 y5 b6 x6 y6)⟩]) rfl (fun V5 S=>?_)
 refine hK2 _ _ ?_
 refine wp_ret ?_
 exact zaw rfl S (S.at 2 rfl) (i:=2) rfl Tryz.underlying53 rfl zaq ⟨_,rfl,((show PT (2*max (max K K') 1+1) ((q1+q2)) ((q1'+q2')) ((aP b5 x5 y5 b6 x6 y6)) _ from⟨b5,x5,y5,b6,x6,y6,rfl,hq5,hq6,⟨hk9,hk10⟩,⟨hk11,hk12⟩,⟨(S.num 3 rfl),(S.num 2 rfl)⟩,(S.num 1 rfl),(S.num 0 rfl)⟩)).to rfl rfl (by omega),S.below⟩
theorem zrV {K K':Nat}{q1 q1' q2 q2':Rat}{v1 v2:Value}{V:World}(T:TT V)(h1:P1 K (q1) (q1') v1 V)(h2:P1 K' (q2) (q2') v2 V)(hK0:K≤400)(hK1:K'≤400):
  Calls Tryz.prog 51 #[v1,v2] V (zai V (PT (max K 1+max K' 1+1) (q1 - q2) (q1' - q2'))):=by
 obtain⟨b1,x1,y1,b2,x2,y2,rfl,hq1,hq2,⟨hk1,hk2⟩,⟨hk3,hk4⟩,⟨ok1,ok2⟩,ok3,ok4⟩:=h1
 obtain⟨b3,x3,y3,b4,x4,y4,rfl,hq3,hq4,⟨hk5,hk6⟩,⟨hk7,hk8⟩,⟨ok5,ok6⟩,ok7,ok8⟩:=h2
 refine zao (e:=[x3,y3,x4,y4,x1,y1,x2,y2]) Tryz.func51 rfl Tryz.ntmps51 (zta rfl) [(0,(aP b1 x1 y1 b2 x2 y2)),(1,(aP b3 x3 y3 b4 x4 y4))] rfl (zaa ok5 (zaa ok6 (zaa ok7 (zaa ok8 (zaa ok1 (zaa ok2 (zaa ok3 (zaa ok4 zaz)))))))) (fun a S=>?_)
 refine wp_seq_k fun K1 hK1=>?_
 refine zab ?_
 refine ti S (cs:=(lP b1 x1 y1 b2 x2 y2)) (zar rfl (S.at 0 rfl) rfl) (fun g1=>[⟨g1,53,(lP b1 x1 y1 b2 x2 y2)⟩]) fun g1 a V1 hgg1 S=>?_
 refine ti S (cs:=(lP b3 x3 y3 b4 x4 y4)) (zar rfl (S.at 2 rfl) rfl) (fun g2=>[⟨g1,53,(lP b1 x1 y1 b2 x2 y2)⟩,⟨g2,53,(lP b3 x3 y3 b4 x4 y4)⟩]) fun g2 a V2 hgg2 S=>?_
 refine ti S (cs:=[.bool false,.slice none 0 0,.slice none 0 0,.bool false,.slice none 0 0,.slice none 0 0]) (zas rfl (Tryz.zeroValue53 _) rfl) (fun g3=>[⟨g1,53,(lP b1 x1 y1 b2 x2 y2)⟩,⟨g2,53,(lP b3 x3 y3 b4 x4 y4)⟩,⟨g3,53,[.bool false,.slice none 0 0,.slice none 0 0,.bool false,.slice none 0 0,.slice none 0 0]⟩]) fun g3 a V3 hgg3 S=>?_
 refine hK1 _ _ ?_
 refine wp_seq_k fun K2 hK2=>?_
 refine zab ?_
 refine tv S (zfB rfl (S.at 2 rfl) (S.at 1 rfl)) fun a S=>?_
 have hB1:=(PtAt.mk (V:=V3) (S.bx 0 rfl) hq1 hq2 hk1 hk2 hk3 hk4 (S.num 4 rfl) (S.num 5 rfl) (S.num 6 rfl) (S.num 7 rfl))
 have hB2:=(PtAt.mk (V:=V3) (S.bx 1 rfl) hq3 hq4 hk5 hk6 hk7 hk8 (S.num 0 rfl) (S.num 1 rfl) (S.num 2 rfl) (S.num 3 rfl))
 refine tc S (F:=PT (max K 1+max K' 1+1) ((q1 - q2)) ((q1' - q2'))) (rc1 Tryz.func110 (S.at 0 rfl)) (zdv (q:=(q1 - q2)) (q':=(q1' - q2')) (enters_of Tryz.func112 (by kernel_rfl) rfl) (fun W hW=>zqR ((T.keep S.below).keep hW) zph (hB1.keep hW) (hB2.keep hW) (by omega) (by omega)) (fun W hW=>zqR ((T.keep S.below).keep hW) zpi (hB1.keep hW) (hB2.keep hW) (by omega) (by omega))) fun v a V4 hF hb S=>?_
 obtain⟨b5,x5,y5,b6,x6,y6,rfl,hq5,hq6,⟨hk9,hk10⟩,⟨hk11,hk12⟩,⟨ok9,ok10⟩,ok11,ok12⟩:=hF
 have S:=S.know ok9
 have S:=S.know ok10
 have S:=S.know ok11
 have S:=S.know ok12
 refine zap S (i:=2) (vs:=(lP b5 x5 y5 b6 x6 y6)) rfl (fun ht=>zal rfl (S.at 2 rfl) (S.at 0 rfl) zaq rfl (zta rfl) ht) (zta rfl) rfl rfl rfl (lb':=[⟨g1,53,(lP b1 x1 y1 b2 x2 y2)⟩,⟨g2,53,(lP b3 x3 y3 b4 x4 y4)⟩,⟨g3,53,(lP b5 x5 y5 b6 x6 y6)⟩]) rfl (fun V5 S=>?_)
 refine hK2 _ _ ?_
 refine wp_ret ?_
 exact zaw rfl S (S.at 2 rfl) (i:=2) rfl Tryz.underlying53 rfl zaq ⟨_,rfl,((show PT (max K 1+max K' 1+1) ((q1 - q2)) ((q1' - q2')) ((aP b5 x5 y5 b6 x6 y6)) _ from⟨b5,x5,y5,b6,x6,y6,rfl,hq5,hq6,⟨hk9,hk10⟩,⟨hk11,hk12⟩,⟨(S.num 3 rfl),(S.num 2 rfl)⟩,(S.num 1 rfl),(S.num 0 rfl)⟩)).to rfl rfl (by omega),S.below⟩
theorem zrW {K:Nat}{q1 q1':Rat}{v1:Value}{V:World}(T:TT V)(h1:P1 K (q1) (q1') v1 V)(hK0:K≤400):
  Calls Tryz.prog 53 #[v1] V (zai V (PT (max K 1) (-q1) (-q1'))):=by
 obtain⟨b1,x1,y1,b2,x2,y2,rfl,hq1,hq2,⟨hk1,hk2⟩,⟨hk3,hk4⟩,⟨ok1,ok2⟩,ok3,ok4⟩:=h1
 refine zao (e:=[x1,y1,x2,y2]) Tryz.func53 rfl Tryz.ntmps53 (zta rfl) [(0,(aP b1 x1 y1 b2 x2 y2))] rfl (zaa ok1 (zaa ok2 (zaa ok3 (zaa ok4 zaz)))) (fun a S=>?_)
 refine wp_seq_k fun K1 hK1=>?_
 refine zab ?_
 refine ti S (cs:=(lP b1 x1 y1 b2 x2 y2)) (zar rfl (S.at 0 rfl) rfl) (fun g1=>[⟨g1,53,(lP b1 x1 y1 b2 x2 y2)⟩]) fun g1 a V1 hgg1 S=>?_
 refine ti S (cs:=[.bool false,.slice none 0 0,.slice none 0 0,.bool false,.slice none 0 0,.slice none 0 0]) (zas rfl (Tryz.zeroValue53 _) rfl) (fun g2=>[⟨g1,53,(lP b1 x1 y1 b2 x2 y2)⟩,⟨g2,53,[.bool false,.slice none 0 0,.slice none 0 0,.bool false,.slice none 0 0,.slice none 0 0]⟩]) fun g2 a V2 hgg2 S=>?_
 refine hK1 _ _ ?_
 refine wp_seq_k fun K2 hK2=>?_
 refine zab ?_
 refine tv S (zhM rfl (S.at 1 rfl)) fun a S=>?_
 have hB1:=(PtAt.mk (V:=V2) (S.bx 0 rfl) hq1 hq2 hk1 hk2 hk3 hk4 (S.num 0 rfl) (S.num 1 rfl) (S.num 2 rfl) (S.num 3 rfl))
 refine tc S (F:=PT (max K 1) ((-q1)) ((-q1'))) (rc1 Tryz.func110 (S.at 0 rfl)) (zdv (q:=(-q1)) (q':=(-q1')) (enters_of Tryz.func113 (by kernel_rfl) rfl) (fun W hW=>zqP ((T.keep S.below).keep hW) zph (hB1.keep hW) (by omega)) (fun W hW=>zqP ((T.keep S.below).keep hW) zpi (hB1.keep hW) (by omega))) fun v a V3 hF hb S=>?_
 obtain⟨b3,x3,y3,b4,x4,y4,rfl,hq3,hq4,⟨hk5,hk6⟩,⟨hk7,hk8⟩,⟨ok5,ok6⟩,ok7,ok8⟩:=hF
 have S:=S.know ok5
 have S:=S.know ok6
 have S:=S.know ok7
 have S:=S.know ok8
 refine zap S (i:=1) (vs:=(lP b3 x3 y3 b4 x4 y4)) rfl (fun ht=>zal rfl (S.at 2 rfl) (S.at 0 rfl) zaq rfl (zta rfl) ht) (zta rfl) rfl rfl rfl (lb':=[⟨g1,53,(lP b1 x1 y1 b2 x2 y2)⟩,⟨g2,53,(lP b3 x3 y3 b4 x4 y4)⟩]) rfl (fun V4 S=>?_)
 refine hK2 _ _ ?_
 refine wp_ret ?_
 exact zaw rfl S (S.at 2 rfl) (i:=1) rfl Tryz.underlying53 rfl zaq ⟨_,rfl,((show PT (max K 1) ((-q1)) ((-q1')) ((aP b3 x3 y3 b4 x4 y4)) _ from⟨b3,x3,y3,b4,x4,y4,rfl,hq3,hq4,⟨hk5,hk6⟩,⟨hk7,hk8⟩,⟨(S.num 3 rfl),(S.num 2 rfl)⟩,(S.num 1 rfl),(S.num 0 rfl)⟩)).to rfl rfl (by omega),S.below⟩
theorem zrX {K K':Nat}{q1 q1' q2:Rat}{v1 v2:Value}{V:World}(T:TT V)(h1:P1 K (q1) (q1') v1 V)(h2:Q1 K' (q2) v2 V)(hK0:K≤400)(hK1:K'≤400):
  Calls Tryz.prog 55 #[v1,v2] V (zai V (PT (2*max (max K K') 1) (q1*q2) (q1'*q2))):=by
 obtain⟨b1,x1,y1,b2,x2,y2,rfl,hq1,hq2,⟨hk1,hk2⟩,⟨hk3,hk4⟩,⟨ok1,ok2⟩,ok3,ok4⟩:=h1
 obtain⟨b3,x3,y3,rfl,hq3,hk5,hk6,ok5,ok6⟩:=h2
 refine zao (e:=[x3,y3,x1,y1,x2,y2]) Tryz.func55 rfl Tryz.ntmps55 (zta rfl) [(0,(aP b1 x1 y1 b2 x2 y2)),(1,(aG b3 x3 y3))] rfl (zaa ok5 (zaa ok6 (zaa ok1 (zaa ok2 (zaa ok3 (zaa ok4 zaz)))))) (fun a S=>?_)
 refine wp_seq_k fun K1 hK1=>?_
 refine zab ?_
 refine ti S (cs:=(lP b1 x1 y1 b2 x2 y2)) (zar rfl (S.at 0 rfl) rfl) (fun g1=>[⟨g1,53,(lP b1 x1 y1 b2 x2 y2)⟩]) fun g1 a V1 hgg1 S=>?_
 refine ti S (cs:=(aL b3 x3 y3)) (zar rfl (S.at 2 rfl) rfl) (fun g2=>[⟨g1,53,(lP b1 x1 y1 b2 x2 y2)⟩,⟨g2,27,(aL b3 x3 y3)⟩]) fun g2 a V2 hgg2 S=>?_
 refine ti S (cs:=[.bool false,.slice none 0 0,.slice none 0 0,.bool false,.slice none 0 0,.slice none 0 0]) (zas rfl (Tryz.zeroValue53 _) rfl) (fun g3=>[⟨g1,53,(lP b1 x1 y1 b2 x2 y2)⟩,⟨g2,27,(aL b3 x3 y3)⟩,⟨g3,53,[.bool false,.slice none 0 0,.slice none 0 0,.bool false,.slice none 0 0,.slice none 0 0]⟩]) fun g3 a V3 hgg3 S=>?_
 refine hK1 _ _ ?_
 refine wp_seq_k fun K2 hK2=>?_
 refine zab ?_
 refine tv S (zfB rfl (S.at 2 rfl) (S.at 1 rfl)) fun a S=>?_
 have hB1:=(PtAt.mk (V:=V3) (S.bx 0 rfl) hq1 hq2 hk1 hk2 hk3 hk4 (S.num 2 rfl) (S.num 3 rfl) (S.num 4 rfl) (S.num 5 rfl))
 have hB2:=(RtAt.mk (V:=V3) (S.bx 1 rfl) hq3 hk5 hk6 (S.num 0 rfl) (S.num 1 rfl))
 refine tc S (F:=PT (2*max (max K K') 1) ((q1*q2)) ((q1'*q2))) (rc1 Tryz.func110 (S.at 0 rfl)) (zdv (q:=(q1*q2)) (q':=(q1'*q2)) (enters_of Tryz.func114 (by kernel_rfl) rfl) (fun W hW=>zlE ((T.keep S.below).keep hW) zph (hB1.keep hW) (hB2.keep hW) (by omega) (by omega)) (fun W hW=>zlE ((T.keep S.below).keep hW) zpi (hB1.keep hW) (hB2.keep hW) (by omega) (by omega))) fun v a V4 hF hb S=>?_
 obtain⟨b4,x4,y4,b5,x5,y5,rfl,hq4,hq5,⟨hk7,hk8⟩,⟨hk9,hk10⟩,⟨ok7,ok8⟩,ok9,ok10⟩:=hF
 have S:=S.know ok7
 have S:=S.know ok8
 have S:=S.know ok9
 have S:=S.know ok10
 refine zap S (i:=2) (vs:=(lP b4 x4 y4 b5 x5 y5)) rfl (fun ht=>zal rfl (S.at 2 rfl) (S.at 0 rfl) zaq rfl (zta rfl) ht) (zta rfl) rfl rfl rfl (lb':=[⟨g1,53,(lP b1 x1 y1 b2 x2 y2)⟩,⟨g2,27,(aL b3 x3 y3)⟩,⟨g3,53,(lP b4 x4 y4 b5 x5 y5)⟩]) rfl (fun V5 S=>?_)
 refine hK2 _ _ ?_
 refine wp_ret ?_
 exact zaw rfl S (S.at 2 rfl) (i:=2) rfl Tryz.underlying53 rfl zaq ⟨_,rfl,((show PT (2*max (max K K') 1) ((q1*q2)) ((q1'*q2)) ((aP b4 x4 y4 b5 x5 y5)) _ from⟨b4,x4,y4,b5,x5,y5,rfl,hq4,hq5,⟨hk7,hk8⟩,⟨hk9,hk10⟩,⟨(S.num 3 rfl),(S.num 2 rfl)⟩,(S.num 1 rfl),(S.num 0 rfl)⟩)).to rfl rfl (by omega),S.below⟩
theorem vOf {n m:Int}{V:World}(hn:(-9223372036854775808≤n∧n≤9223372036854775807)∧ -9223372036854775808≤m∧m≤9223372036854775807):
  Calls Tryz.prog 59 #[.int .i64 n,.int .i64 m] V (zai V (PT 2 ((n:Int):Rat) ((m:Int):Rat))):=by
 refine zao (e:=[]) Tryz.func59 rfl Tryz.ntmps59 (zta rfl) [(0,.int .i64 n),(1,.int .i64 m)] rfl zaz (fun a S=>?_)
 refine wp_seq_k fun K1 hK1=>?_
 refine zab ?_
 refine ti S (cs:=[.bool false,.slice none 0 0,.slice none 0 0,.bool false,.slice none 0 0,.slice none 0 0]) (zas rfl (Tryz.zeroValue53 _) rfl) (fun g1=>[⟨g1,53,[.bool false,.slice none 0 0,.slice none 0 0,.bool false,.slice none 0 0,.slice none 0 0]⟩]) fun g1 a V1 hgg1 S=>?_
 refine hK1 _ _ ?_
 refine wp_seq_k fun K2 hK2=>?_
 refine zab ?_
 refine tv S (zad rfl (S.at 1 rfl)) fun a S=>?_
 refine tc S (F:=QT 2 ((n:Int))) (rc1 Tryz.func22 (S.at 0 rfl)) (zsc (n:=n) (by omega)) fun v a V2 hF hb S=>?_
 obtain⟨b1,x1,y1,rfl,hq1,hk1,hk2,ok1,ok2⟩:=hF
 have S:=S.know ok1
 have S:=S.know ok2
 refine tv S (zad rfl (S.at 4 rfl)) fun a S=>?_
 refine tc S (F:=QT 2 ((m:Int))) (rc1 Tryz.func22 (S.at 0 rfl)) (zsc (n:=m) (by omega)) fun v a V3 hF hb S=>?_
 obtain⟨b2,x2,y2,rfl,hq2,hk3,hk4,ok3,ok4⟩:=hF
 have S:=S.know ok3
 have S:=S.know ok4
 refine tv S (za2 rfl (S.at 2 rfl) (S.at 0 rfl) (zlw _ _ _ _ _ _ _ _ _ _ _ _ _ _)) fun a S=>?_
 refine zap S (i:=0) (vs:=(lP b1 x1 y1 b2 x2 y2)) rfl (fun ht=>zal rfl (S.at 5 rfl) (S.at 0 rfl) zaq rfl (zta rfl) ht) (zta rfl) rfl rfl rfl (lb':=[⟨g1,53,(lP b1 x1 y1 b2 x2 y2)⟩]) rfl (fun V4 S=>?_)
 refine hK2 _ _ ?_
 refine wp_ret ?_
 exact zaw rfl S (S.at 5 rfl) (i:=0) rfl Tryz.underlying53 rfl zaq ⟨_,rfl,((show PT 2 ((n:Int)) ((m:Int)) ((aP b1 x1 y1 b2 x2 y2)) _ from⟨b1,x1,y1,b2,x2,y2,rfl,hq1,hq2,⟨hk1,hk2⟩,⟨hk3,hk4⟩,⟨(S.num 3 rfl),(S.num 2 rfl)⟩,(S.num 1 rfl),(S.num 0 rfl)⟩)).to rfl rfl (by omega),S.below⟩
section
variable (T : TT V)
include T
theorem zlF (h1:P1 K q1 q1' v1 V)(h2:P1 K' q2 q2' v2 V)(b:K≤400)(b':K'≤400):Calls Tryz.prog 49 #[v1,v2] V (zai V (PT (max K 1+max K' 1+1) (q1+q2) (q1'+q2'))):=
 zbN (zs5 T h1 h2 b b') (fun _ _ h=>h.sml (h1.sm.1.add h2.sm.1) (h1.sm.2.add h2.sm.2))
theorem zlG (h1:P1 K q1 q1' v1 V)(h2:Q1 K' q2 v2 V)(b:K≤400)(b':K'≤400):Calls Tryz.prog 55 #[v1,v2] V (zai V (PT (max K 1+max K' 1) (q1*q2) (q1'*q2))):=
 zbN (zrX T h1 h2 b b') (fun _ _ h=>h.sml (h1.sm.1.mul h2.sm) (h1.sm.2.mul h2.sm))
end
def zbH (q:Rat):Rat:=if q<0 then -q else q
theorem zjR (h:decide (zaI q 0<0)=true): -q=zbH q:=by
 unfold zbH
 rw[if_pos]
 by_cases hc:q<0
 ·exact hc
 ·have:=of_decide_eq_true (zlo.2 hc);have:=of_decide_eq_true h;omega
theorem zjS (h:decide (zaI q 0<0)=false):q=zbH q:=by
 unfold zbH
 rw[if_neg]
 intro hc
 rw[zdD hc]at h;cases h
def zaS (q1 q1' q2 q2':Rat):Int:=if zaI q1 q2=0 then zaI q1' q2' else zaI q1 q2
theorem zpk (h:(!decide (zaI q1 q2=0))=true):zaI q1 q2=zaS q1 q1' q2 q2':=by
 unfold zaS;rw[if_neg];simpa using h
theorem zpl (h:(!decide (zaI q1 q2=0))=false):zaI q1' q2'=zaS q1 q1' q2 q2':=by
 unfold zaS;rw[if_pos];simpa using h
theorem zqs (h:decide (zaI q1 q2=0)=true):decide (zaI q1' q2'=0)=decide (zaS q1 q1' q2 q2'=0):=by
 unfold zaS;rw[if_pos (of_decide_eq_true h)]
theorem zqt (h:decide (zaI q1 q2=0)=false):false=decide (zaS q1 q1' q2 q2'=0):=by
 unfold zaS;rw[if_neg (of_decide_eq_false h),h]
theorem zqS {K:Nat}{q:Rat}{v1:Value}{V:World}(T:TT V)(h1:Q1 K (q) v1 V)(hK0:K≤400):
  Calls Tryz.prog 115 #[v1] V (zai V (Q1 (max K 1) (zbH q))):=by
 obtain⟨b1,x1,y1,rfl,hq1,hk1,hk2,ok1,ok2⟩:=h1
 refine zao (e:=[x1,y1]) Tryz.func115 rfl Tryz.ntmps115 (zta rfl) [(0,(aG b1 x1 y1))] rfl (zaa ok1 (zaa ok2 zaz)) (fun a S=>?_)
 refine wp_seq_k fun K1 hK1=>?_
 refine zab ?_
 refine ti S (cs:=(aL b1 x1 y1)) (zar rfl (S.at 0 rfl) rfl) (fun g1=>[⟨g1,27,(aL b1 x1 y1)⟩]) fun g1 a V1 hgg1 S=>?_
 refine ti S (cs:=[.bool false,.slice none 0 0,.slice none 0 0]) (zas rfl (Tryz.zeroValue27 _) rfl) (fun g2=>[⟨g1,27,(aL b1 x1 y1)⟩,⟨g2,27,[.bool false,.slice none 0 0,.slice none 0 0]⟩]) fun g2 a V2 hgg2 S=>?_
 refine hK1 _ _ ?_
 refine wp_seq_k fun K2 hK2=>?_
 refine wp_seq_k fun K3 hK3=>?_
 refine zab ?_
 refine tv S (zac rfl (S.at 1 rfl) (S.bx 0 rfl) Tryz.underlying27 rfl (vs:=(aL b1 x1 y1)) zag rfl) fun a S=>?_
 refine tc S (F:=(fun v _=>v= .int .i64 (zaI q 0))) (rc1 Tryz.func16 (S.at 0 rfl)) (zrd (T.keep S.below) (show Q1 K (q) ((aG b1 x1 y1)) _ from⟨b1,x1,y1,rfl,hq1,hk1,hk2,(S.num 0 rfl),(S.num 1 rfl)⟩) (by omega)) fun v a V3 hF hb S=>?_
 subst hF
 refine tv S (zbY rfl (S.at 0 rfl) rfl) fun a S=>?_
 refine hK3 _ _ ?_
 rcases ztk (decide (zaI q 0<0))with hc5|hc5
 ·refine wp_cond_true ((S.at 0 rfl).trans (congrArg Value.bool hc5)) ?_
  refine wp_seq_k fun K4 hK4=>?_
  refine zab ?_
  refine tv S (zac rfl (S.at 4 rfl) (S.bx 0 rfl) Tryz.underlying27 rfl (vs:=(aL b1 x1 y1)) zag rfl) fun a S=>?_
  refine tc S (F:=QT (max K 1) (-q)) (rc1 Tryz.func26 (S.at 0 rfl)) (zqz (T.keep S.below) (show Q1 K (q) ((aG b1 x1 y1)) _ from⟨b1,x1,y1,rfl,hq1,hk1,hk2,(S.num 0 rfl),(S.num 1 rfl)⟩) (by omega)) fun v a V4 hF hb S=>?_
  obtain⟨b2,x2,y2,rfl,hq2,hk3,hk4,ok3,ok4⟩:=hF
  have S:=S.know ok3
  have S:=S.know ok4
  refine zap S (i:=1) (vs:=(aL b2 x2 y2)) rfl (fun ht=>zal rfl (S.at 5 rfl) (S.at 0 rfl) zag rfl (zta rfl) ht) (zta rfl) rfl rfl rfl (lb':=[⟨g1,27,(aL b1 x1 y1)⟩,⟨g2,27,(aL b2 x2 y2)⟩]) rfl (fun V5 S=>?_)
  refine hK4 _ _ ?_
  refine wp_ret ?_
  exact zaw rfl S (S.at 5 rfl) (i:=1) rfl Tryz.underlying27 rfl zag ⟨_,rfl,((show QT (max K 1) (-q) ((aG b2 x2 y2)) _ from⟨b2,x2,y2,rfl,hq2,hk3,hk4,(S.num 1 rfl),(S.num 0 rfl)⟩).any).to (zjR hc5) (by omega),S.below⟩
 ·refine wp_cond_false ((S.at 0 rfl).trans (congrArg Value.bool hc5)) ?_
  refine wp_skip ?_
  refine hK2 _ _ ?_
  refine wp_seq_k fun K5 hK5=>?_
  refine zab ?_
  refine tv S (zac rfl (S.at 4 rfl) (S.bx 0 rfl) Tryz.underlying27 rfl (vs:=(aL b1 x1 y1)) zag rfl) fun a S=>?_
  refine zap S (i:=1) (vs:=(aL b1 x1 y1)) rfl (fun ht=>zal rfl (S.at 4 rfl) (S.at 0 rfl) zag rfl (zta rfl) ht) (zta rfl) rfl rfl rfl (lb':=[⟨g1,27,(aL b1 x1 y1)⟩,⟨g2,27,(aL b1 x1 y1)⟩]) rfl (fun V6 S=>?_)
  refine hK5 _ _ ?_
  refine wp_ret ?_
  exact zaw rfl S (S.at 4 rfl) (i:=1) rfl Tryz.underlying27 rfl zag ⟨_,rfl,((show Q1 K (q) ((aG b1 x1 y1)) _ from⟨b1,x1,y1,rfl,hq1,hk1,hk2,(S.num 0 rfl),(S.num 1 rfl)⟩)).to (zjS hc5) (by omega),S.below⟩
theorem zrY {K K':Nat}{q1 q1' q2 q2':Rat}{v1 v2:Value}{V:World}(T:TT V)(h1:P1 K (q1) (q1') v1 V)(h2:P1 K' (q2) (q2') v2 V)(hK0:K≤100)(hK1:K'≤100):
  Calls Tryz.prog 62 #[v1,v2] V (zai V (QT (4*max (max K K') 1+1) (q1*q2' - q1'*q2))):=by
 obtain⟨b1,x1,y1,b2,x2,y2,rfl,hq1,hq2,⟨hk1,hk2⟩,⟨hk3,hk4⟩,⟨ok1,ok2⟩,ok3,ok4⟩:=h1
 obtain⟨b3,x3,y3,b4,x4,y4,rfl,hq3,hq4,⟨hk5,hk6⟩,⟨hk7,hk8⟩,⟨ok5,ok6⟩,ok7,ok8⟩:=h2
 refine zao (e:=[x3,y3,x4,y4,x1,y1,x2,y2]) Tryz.func62 rfl Tryz.ntmps62 (zta rfl) [(0,(aP b1 x1 y1 b2 x2 y2)),(1,(aP b3 x3 y3 b4 x4 y4))] rfl (zaa ok5 (zaa ok6 (zaa ok7 (zaa ok8 (zaa ok1 (zaa ok2 (zaa ok3 (zaa ok4 zaz)))))))) (fun a S=>?_)
 refine wp_seq_k fun K1 hK1=>?_
 refine zab ?_
 refine ti S (cs:=(lP b1 x1 y1 b2 x2 y2)) (zar rfl (S.at 0 rfl) rfl) (fun g1=>[⟨g1,53,(lP b1 x1 y1 b2 x2 y2)⟩]) fun g1 a V1 hgg1 S=>?_
 refine ti S (cs:=(lP b3 x3 y3 b4 x4 y4)) (zar rfl (S.at 2 rfl) rfl) (fun g2=>[⟨g1,53,(lP b1 x1 y1 b2 x2 y2)⟩,⟨g2,53,(lP b3 x3 y3 b4 x4 y4)⟩]) fun g2 a V2 hgg2 S=>?_
 refine ti S (cs:=[.bool false,.slice none 0 0,.slice none 0 0]) (zas rfl (Tryz.zeroValue27 _) rfl) (fun g3=>[⟨g1,53,(lP b1 x1 y1 b2 x2 y2)⟩,⟨g2,53,(lP b3 x3 y3 b4 x4 y4)⟩,⟨g3,27,[.bool false,.slice none 0 0,.slice none 0 0]⟩]) fun g3 a V3 hgg3 S=>?_
 refine hK1 _ _ ?_
 refine wp_seq_k fun K2 hK2=>?_
 obtain⟨W1,hW1⟩:∃W,W=V3:=⟨_,rfl⟩
 rw[←hW1]at S ⊢
 have S0:=S
 refine fr 13 [5,6,7,8,9,10,11,12,13,14,15,16,17] [IsV (pT g1 0),IsV ((aG b1 x1 y1)),IsV (pT g2 3),IsV ((aG b4 x4 y4)),QL (max K K') 6 ([q1,q2']),QT (2*(max (max K K') 1)) (q1*(q2')),IsV (pT g1 3),IsV ((aG b2 x2 y2)),IsV (pT g2 0),IsV ((aG b3 x3 y3)),QL (max K K') 6 ([q1',q2]),QT (2*(max (max K K') 1)) ((q1')*q2),QT ((max (2*(max (max K K') 1)) 1)+(max (2*(max (max K K') 1)) 1)+1) ((q1*(q2')) - ((q1')*q2))] S ?_ ?_
 ·refine sc (fun _ _ S _ _=>sv rfl (zae rfl (S.at 2 rfl) (zaQ _))) ?_
  refine sc (fun _ _ S _ hd=>sv rfl (zac rfl (hd.v 0 rfl rfl) (S.bx 0 rfl) Tryz.underlying27 rfl (vs:=(aL b1 x1 y1)) zag rfl)) ?_
  refine sc (fun _ _ S _ _=>sv rfl (zae rfl (S.at 1 rfl) (zaT _))) ?_
  refine sc (fun _ _ S _ hd=>sv rfl (zac rfl (hd.v 2 rfl rfl) (S.bx 1 rfl) Tryz.underlying27 rfl (vs:=(aL b4 x4 y4)) zag rfl)) ?_
  refine sc (fun _ _ S _ hd=>sy rfl (zbc rfl (hd.v 1 rfl rfl) (hd.v 3 rfl rfl) (((show Q1 K (q1) ((aG b1 x1 y1)) _ from⟨b1,x1,y1,rfl,hq1,hk1,hk2,(S.num 4 rfl),(S.num 5 rfl)⟩)).to rfl (by omega)) (((show Q1 K' (q2') ((aG b4 x4 y4)) _ from⟨b4,x4,y4,rfl,hq4,hk7,hk8,(S.num 2 rfl),(S.num 3 rfl)⟩)).to rfl (by omega)))) ?_
  refine sc (fun _ _ S _ hd=>sl rfl (rc1 Tryz.func30 rfl) (zjN (T.keep S.below) ((hd.r 4 rfl rfl)).row (by omega))) ?_
  refine sc (fun _ _ S _ _=>sv rfl (zae rfl (S.at 2 rfl) (zaT _))) ?_
  refine sc (fun _ _ S _ hd=>sv rfl (zac rfl (hd.v 6 rfl rfl) (S.bx 0 rfl) Tryz.underlying27 rfl (vs:=(aL b2 x2 y2)) zag rfl)) ?_
  refine sc (fun _ _ S _ _=>sv rfl (zae rfl (S.at 1 rfl) (zaQ _))) ?_
  refine sc (fun _ _ S _ hd=>sv rfl (zac rfl (hd.v 8 rfl rfl) (S.bx 1 rfl) Tryz.underlying27 rfl (vs:=(aL b3 x3 y3)) zag rfl)) ?_
  refine sc (fun _ _ S _ hd=>sy rfl (zbc rfl (hd.v 7 rfl rfl) (hd.v 9 rfl rfl) (((show Q1 K (q1') ((aG b2 x2 y2)) _ from⟨b2,x2,y2,rfl,hq2,hk3,hk4,(S.num 6 rfl),(S.num 7 rfl)⟩)).to rfl (by omega)) (((show Q1 K' (q2) ((aG b3 x3 y3)) _ from⟨b3,x3,y3,rfl,hq3,hk5,hk6,(S.num 0 rfl),(S.num 1 rfl)⟩)).to rfl (by omega)))) ?_
  refine sc (fun _ _ S _ hd=>sl rfl (rc1 Tryz.func30 rfl) (zjN (T.keep S.below) ((hd.r 10 rfl rfl)).row (by omega))) ?_
  refine sc (fun _ _ S _ hd=>sl rfl (rc2 Tryz.func34 rfl rfl) (zqA (T.keep S.below) ((hd.r 5 rfl rfl)).any ((hd.r 11 rfl rfl)).any (by omega) (by omega))) ?_
  exact sn
 ·intro a1 V4 S hB hf
  obtain⟨b5,x5,y5,hv1,hq5,hk9,hk10,ok9,ok10⟩:=hf.r 12 rfl rfl
  have S:=S.add hv1
  have S:=S.know ok9
  have S:=S.know ok10
  clear hf S0
  show wpList _ _ _ [_] _ _
  refine zap S (i:=2) (vs:=(aL b5 x5 y5)) rfl (fun ht=>zal rfl (S.at 1 rfl) (S.at 0 rfl) zag rfl (zta rfl) ht) (zta rfl) rfl rfl rfl (lb':=[⟨g1,53,(lP b1 x1 y1 b2 x2 y2)⟩,⟨g2,53,(lP b3 x3 y3 b4 x4 y4)⟩,⟨g3,27,(aL b5 x5 y5)⟩]) rfl (fun V5 S=>?_)
  refine hK2 _ _ ?_
  refine wp_ret ?_
  exact zaw rfl S (S.at 1 rfl) (i:=2) rfl Tryz.underlying27 rfl zag ⟨_,rfl,((show QT ((max (2*(max (max K K') 1)) 1)+(max (2*(max (max K K') 1)) 1)+1) ((q1*(q2')) - ((q1')*q2)) ((aG b5 x5 y5)) _ from⟨b5,x5,y5,rfl,hq5,hk9,hk10,(S.num 1 rfl),(S.num 0 rfl)⟩)).to rfl (by omega),S.below⟩
theorem zs6 {K K':Nat}{q1 q1' q2 q2':Rat}{v1 v2:Value}{V:World}(T:TT V)(h1:P1 K (q1) (q1') v1 V)(h2:P1 K' (q2) (q2') v2 V)(hK0:K≤100)(hK1:K'≤100):
  Calls Tryz.prog 64 #[v1,v2] V (zai V (QT (4*max (max K K') 1+1) (q1*q2+q1'*q2'))):=by
 obtain⟨b1,x1,y1,b2,x2,y2,rfl,hq1,hq2,⟨hk1,hk2⟩,⟨hk3,hk4⟩,⟨ok1,ok2⟩,ok3,ok4⟩:=h1
 obtain⟨b3,x3,y3,b4,x4,y4,rfl,hq3,hq4,⟨hk5,hk6⟩,⟨hk7,hk8⟩,⟨ok5,ok6⟩,ok7,ok8⟩:=h2
 refine zao (e:=[x3,y3,x4,y4,x1,y1,x2,y2]) Tryz.func64 rfl Tryz.ntmps64 (zta rfl) [(0,(aP b1 x1 y1 b2 x2 y2)),(1,(aP b3 x3 y3 b4 x4 y4))] rfl (zaa ok5 (zaa ok6 (zaa ok7 (zaa ok8 (zaa ok1 (zaa ok2 (zaa ok3 (zaa ok4 zaz)))))))) (fun a S=>?_)
 refine wp_seq_k fun K1 hK1=>?_
 refine zab ?_
 refine ti S (cs:=(lP b1 x1 y1 b2 x2 y2)) (zar rfl (S.at 0 rfl) rfl) (fun g1=>[⟨g1,53,(lP b1 x1 y1 b2 x2 y2)⟩]) fun g1 a V1 hgg1 S=>?_
 refine ti S (cs:=(lP b3 x3 y3 b4 x4 y4)) (zar rfl (S.at 2 rfl) rfl) (fun g2=>[⟨g1,53,(lP b1 x1 y1 b2 x2 y2)⟩,⟨g2,53,(lP b3 x3 y3 b4 x4 y4)⟩]) fun g2 a V2 hgg2 S=>?_
 refine ti S (cs:=[.bool false,.slice none 0 0,.slice none 0 0]) (zas rfl (Tryz.zeroValue27 _) rfl) (fun g3=>[⟨g1,53,(lP b1 x1 y1 b2 x2 y2)⟩,⟨g2,53,(lP b3 x3 y3 b4 x4 y4)⟩,⟨g3,27,[.bool false,.slice none 0 0,.slice none 0 0]⟩]) fun g3 a V3 hgg3 S=>?_
 refine hK1 _ _ ?_
 refine wp_seq_k fun K2 hK2=>?_
 obtain⟨W1,hW1⟩:∃W,W=V3:=⟨_,rfl⟩
 rw[←hW1]at S ⊢
 have S0:=S
 refine fr 14 [5,6,7,8,9,10,11,12,13,14,15,16,17,18] [IsV (pT g1 0),IsV ((aG b1 x1 y1)),IsV (pT g2 0),IsV ((aG b3 x3 y3)),QL (max K K') 6 ([q1,q2]),QT (2*(max (max K K') 1)) (q1*q2),IsV (pT g1 3),IsV ((aG b2 x2 y2)),IsV (pT g2 3),IsV ((aG b4 x4 y4)),QL (max K K') 6 ([q1',q2']),QT (2*(max (max K K') 1)) ((q1')*(q2')),QL (2*(max (max K K') 1)) 6 ([q1*q2,(q1')*(q2')]),QT (2*(max (2*(max (max K K') 1)) 1)+1) ((q1*q2)+((q1')*(q2')))] S ?_ ?_
 ·refine sc (fun _ _ S _ _=>sv rfl (zae rfl (S.at 2 rfl) (zaQ _))) ?_
  refine sc (fun _ _ S _ hd=>sv rfl (zac rfl (hd.v 0 rfl rfl) (S.bx 0 rfl) Tryz.underlying27 rfl (vs:=(aL b1 x1 y1)) zag rfl)) ?_
  refine sc (fun _ _ S _ _=>sv rfl (zae rfl (S.at 1 rfl) (zaQ _))) ?_
  refine sc (fun _ _ S _ hd=>sv rfl (zac rfl (hd.v 2 rfl rfl) (S.bx 1 rfl) Tryz.underlying27 rfl (vs:=(aL b3 x3 y3)) zag rfl)) ?_
  refine sc (fun _ _ S _ hd=>sy rfl (zbc rfl (hd.v 1 rfl rfl) (hd.v 3 rfl rfl) (((show Q1 K (q1) ((aG b1 x1 y1)) _ from⟨b1,x1,y1,rfl,hq1,hk1,hk2,(S.num 4 rfl),(S.num 5 rfl)⟩)).to rfl (by omega)) (((show Q1 K' (q2) ((aG b3 x3 y3)) _ from⟨b3,x3,y3,rfl,hq3,hk5,hk6,(S.num 0 rfl),(S.num 1 rfl)⟩)).to rfl (by omega)))) ?_
  refine sc (fun _ _ S _ hd=>sl rfl (rc1 Tryz.func30 rfl) (zjN (T.keep S.below) ((hd.r 4 rfl rfl)).row (by omega))) ?_
  refine sc (fun _ _ S _ _=>sv rfl (zae rfl (S.at 2 rfl) (zaT _))) ?_
  refine sc (fun _ _ S _ hd=>sv rfl (zac rfl (hd.v 6 rfl rfl) (S.bx 0 rfl) Tryz.underlying27 rfl (vs:=(aL b2 x2 y2)) zag rfl)) ?_
  refine sc (fun _ _ S _ _=>sv rfl (zae rfl (S.at 1 rfl) (zaT _))) ?_
  refine sc (fun _ _ S _ hd=>sv rfl (zac rfl (hd.v 8 rfl rfl) (S.bx 1 rfl) Tryz.underlying27 rfl (vs:=(aL b4 x4 y4)) zag rfl)) ?_
  refine sc (fun _ _ S _ hd=>sy rfl (zbc rfl (hd.v 7 rfl rfl) (hd.v 9 rfl rfl) (((show Q1 K (q1') ((aG b2 x2 y2)) _ from⟨b2,x2,y2,rfl,hq2,hk3,hk4,(S.num 6 rfl),(S.num 7 rfl)⟩)).to rfl (by omega)) (((show Q1 K' (q2') ((aG b4 x4 y4)) _ from⟨b4,x4,y4,rfl,hq4,hk7,hk8,(S.num 2 rfl),(S.num 3 rfl)⟩)).to rfl (by omega)))) ?_
  refine sc (fun _ _ S _ hd=>sl rfl (rc1 Tryz.func30 rfl) (zjN (T.keep S.below) ((hd.r 10 rfl rfl)).row (by omega))) ?_
  refine sc (fun _ _ _ _ hd=>sy rfl (zbc rfl rfl rfl ((hd.r 5 rfl rfl)).any ((hd.r 11 rfl rfl)).any)) ?_
  refine sc (fun _ _ S _ hd=>sl rfl (rc1 Tryz.func28 rfl) (zo7 (T.keep S.below) ((hd.r 12 rfl rfl)).row (by omega))) ?_
  exact sn
 ·intro a1 V4 S hB hf
  obtain⟨b5,x5,y5,hv1,hq5,hk9,hk10,ok9,ok10⟩:=hf.r 13 rfl rfl
  have S:=S.add hv1
  have S:=S.know ok9
  have S:=S.know ok10
  clear hf S0
  show wpList _ _ _ [_] _ _
  refine zap S (i:=2) (vs:=(aL b5 x5 y5)) rfl (fun ht=>zal rfl (S.at 1 rfl) (S.at 0 rfl) zag rfl (zta rfl) ht) (zta rfl) rfl rfl rfl (lb':=[⟨g1,53,(lP b1 x1 y1 b2 x2 y2)⟩,⟨g2,53,(lP b3 x3 y3 b4 x4 y4)⟩,⟨g3,27,(aL b5 x5 y5)⟩]) rfl (fun V5 S=>?_)
  refine hK2 _ _ ?_
  refine wp_ret ?_
  exact zaw rfl S (S.at 1 rfl) (i:=2) rfl Tryz.underlying27 rfl zag ⟨_,rfl,((show QT (2*(max (2*(max (max K K') 1)) 1)+1) ((q1*q2)+((q1')*(q2'))) ((aG b5 x5 y5)) _ from⟨b5,x5,y5,rfl,hq5,hk9,hk10,(S.num 1 rfl),(S.num 0 rfl)⟩)).to rfl (by omega),S.below⟩
theorem vAt {K K' Kt:Nat}{q1 q1' q2 q2' r:Rat}{v1 v2 v3:Value}{V:World}(T:TT V)(h1:P1 K (q1) (q1') v1 V)(h2:P1 K' (q2) (q2') v2 V)(h3:Q1 Kt (r) v3 V)(hK0:K≤30)(hK1:K'≤30)(hKt:Kt≤30):
  Calls Tryz.prog 57 #[v1,v2,v3] V (zai V (PT (max K 1+(max K' 1+max K 1+1+max Kt 1)+1) (q1+(q2 - q1)*r) (q1'+(q2' - q1')*r))):=by
 obtain⟨b1,x1,y1,b2,x2,y2,rfl,hq1,hq2,⟨hk1,hk2⟩,⟨hk3,hk4⟩,⟨ok1,ok2⟩,ok3,ok4⟩:=h1
 obtain⟨b3,x3,y3,b4,x4,y4,rfl,hq3,hq4,⟨hk5,hk6⟩,⟨hk7,hk8⟩,⟨ok5,ok6⟩,ok7,ok8⟩:=h2
 obtain⟨b5,x5,y5,rfl,hq5,hk9,hk10,ok9,ok10⟩:=h3
 refine zao (e:=[x5,y5,x3,y3,x4,y4,x1,y1,x2,y2]) Tryz.func57 rfl Tryz.ntmps57 (zta rfl) [(0,(aP b1 x1 y1 b2 x2 y2)),(1,(aP b3 x3 y3 b4 x4 y4)),(2,(aG b5 x5 y5))] rfl (zaa ok9 (zaa ok10 (zaa ok5 (zaa ok6 (zaa ok7 (zaa ok8 (zaa ok1 (zaa ok2 (zaa ok3 (zaa ok4 zaz)))))))))) (fun a S=>?_)
 refine wp_seq_k fun K1 hK1=>?_
 refine zab ?_
 refine ti S (cs:=(lP b1 x1 y1 b2 x2 y2)) (zar rfl (S.at 0 rfl) rfl) (fun g1=>[⟨g1,53,(lP b1 x1 y1 b2 x2 y2)⟩]) fun g1 a V1 hgg1 S=>?_
 refine ti S (cs:=(lP b3 x3 y3 b4 x4 y4)) (zar rfl (S.at 2 rfl) rfl) (fun g2=>[⟨g1,53,(lP b1 x1 y1 b2 x2 y2)⟩,⟨g2,53,(lP b3 x3 y3 b4 x4 y4)⟩]) fun g2 a V2 hgg2 S=>?_
 refine ti S (cs:=(aL b5 x5 y5)) (zar rfl (S.at 4 rfl) rfl) (fun g3=>[⟨g1,53,(lP b1 x1 y1 b2 x2 y2)⟩,⟨g2,53,(lP b3 x3 y3 b4 x4 y4)⟩,⟨g3,27,(aL b5 x5 y5)⟩]) fun g3 a V3 hgg3 S=>?_
 refine ti S (cs:=[.bool false,.slice none 0 0,.slice none 0 0,.bool false,.slice none 0 0,.slice none 0 0]) (zas rfl (Tryz.zeroValue53 _) rfl) (fun g4=>[⟨g1,53,(lP b1 x1 y1 b2 x2 y2)⟩,⟨g2,53,(lP b3 x3 y3 b4 x4 y4)⟩,⟨g3,27,(aL b5 x5 y5)⟩,⟨g4,53,[.bool false,.slice none 0 0,.slice none 0 0,.bool false,.slice none 0 0,.slice none 0 0]⟩]) fun g4 a V4 hgg4 S=>?_
 refine hK1 _ _ ?_
 refine wp_seq_k fun K2 hK2=>?_
 obtain⟨W1,hW1⟩:∃W,W=V4:=⟨_,rfl⟩
 rw[←hW1]at S ⊢
 have S0:=S
 refine fr 7 [7,8,9,10,11,12,13] [IsV ((aP b1 x1 y1 b2 x2 y2)),IsV ((aP b3 x3 y3 b4 x4 y4)),IsV ((aP b1 x1 y1 b2 x2 y2)),PT ((max K' 1)+(max K 1)+1) (q2 - q1) ((q2') - (q1')),IsV ((aG b5 x5 y5)),PT ((max ((max K' 1)+(max K 1)+1) 1)+(max Kt 1)) ((q2 - q1)*r) (((q2') - (q1'))*r),PT ((max K 1)+(max ((max ((max K' 1)+(max K 1)+1) 1)+(max Kt 1)) 1)+1) (q1+((q2 - q1)*r)) ((q1')+(((q2') - (q1'))*r))] S ?_ ?_
 ·refine sc (fun _ _ S _ _=>sv rfl (zac rfl (S.at 3 rfl) (S.bx 0 rfl) Tryz.underlying53 rfl (vs:=(lP b1 x1 y1 b2 x2 y2)) zaq rfl)) ?_
  refine sc (fun _ _ S _ _=>sv rfl (zac rfl (S.at 2 rfl) (S.bx 1 rfl) Tryz.underlying53 rfl (vs:=(lP b3 x3 y3 b4 x4 y4)) zaq rfl)) ?_
  refine sc (fun _ _ S _ _=>sv rfl (zac rfl (S.at 3 rfl) (S.bx 0 rfl) Tryz.underlying53 rfl (vs:=(lP b1 x1 y1 b2 x2 y2)) zaq rfl)) ?_
  refine sc (fun _ _ S _ hd=>sl rfl (rc2 Tryz.func51 (hd.v 1 rfl rfl) (hd.v 2 rfl rfl)) (zrV (T.keep S.below) (show P1 K' (q2) (q2') ((aP b3 x3 y3 b4 x4 y4)) _ from⟨b3,x3,y3,b4,x4,y4,rfl,hq3,hq4,⟨hk5,hk6⟩,⟨hk7,hk8⟩,⟨(S.num 2 rfl),(S.num 3 rfl)⟩,(S.num 4 rfl),(S.num 5 rfl)⟩) (show P1 K (q1) (q1') ((aP b1 x1 y1 b2 x2 y2)) _ from⟨b1,x1,y1,b2,x2,y2,rfl,hq1,hq2,⟨hk1,hk2⟩,⟨hk3,hk4⟩,⟨(S.num 6 rfl),(S.num 7 rfl)⟩,(S.num 8 rfl),(S.num 9 rfl)⟩) (by omega) (by omega))) ?_
  refine sc (fun _ _ S _ _=>sv rfl (zac rfl (S.at 1 rfl) (S.bx 2 rfl) Tryz.underlying27 rfl (vs:=(aL b5 x5 y5)) zag rfl)) ?_
  refine sc (fun _ _ S _ hd=>sl rfl (rc2 Tryz.func55 rfl (hd.v 4 rfl rfl)) (zlG (T.keep S.below) ((hd.r 3 rfl rfl)).any (show Q1 Kt (r) ((aG b5 x5 y5)) _ from⟨b5,x5,y5,rfl,hq5,hk9,hk10,(S.num 0 rfl),(S.num 1 rfl)⟩) (by omega) (by omega))) ?_
  refine sc (fun _ _ S _ hd=>sl rfl (rc2 Tryz.func49 (hd.v 0 rfl rfl) rfl) (zlF (T.keep S.below) (show P1 K (q1) (q1') ((aP b1 x1 y1 b2 x2 y2)) _ from⟨b1,x1,y1,b2,x2,y2,rfl,hq1,hq2,⟨hk1,hk2⟩,⟨hk3,hk4⟩,⟨(S.num 6 rfl),(S.num 7 rfl)⟩,(S.num 8 rfl),(S.num 9 rfl)⟩) ((hd.r 5 rfl rfl)).any (by omega) (by omega))) ?_
  exact sn
 ·intro a1 V5 S hB hf
  obtain⟨b6,x6,y6,b7,x7,y7,hv1,hq6,hq7,⟨hk11,hk12⟩,⟨hk13,hk14⟩,⟨ok11,ok12⟩,ok13,ok14⟩:=hf.r 6 rfl rfl
  have S:=S.add hv1
  have S:=S.know ok11
  have S:=S.know ok12
  have S:=S.know ok13
  have S:=S.know ok14
  clear hf S0
  show wpList _ _ _ [_] _ _
  refine zap S (i:=3) (vs:=(lP b6 x6 y6 b7 x7 y7)) rfl (fun ht=>zal rfl (S.at 1 rfl) (S.at 0 rfl) zaq rfl (zta rfl) ht) (zta rfl) rfl rfl rfl (lb':=[⟨g1,53,(lP b1 x1 y1 b2 x2 y2)⟩,⟨g2,53,(lP b3 x3 y3 b4 x4 y4)⟩,⟨g3,27,(aL b5 x5 y5)⟩,⟨g4,53,(lP b6 x6 y6 b7 x7 y7)⟩]) rfl (fun V6 S=>?_)
  refine hK2 _ _ ?_
  refine wp_ret ?_
  exact zaw rfl S (S.at 1 rfl) (i:=3) rfl Tryz.underlying53 rfl zaq ⟨_,rfl,((show PT ((max K 1)+(max ((max ((max K' 1)+(max K 1)+1) 1)+(max Kt 1)) 1)+1) (q1+((q2 - q1)*r)) ((q1')+(((q2') - (q1'))*r)) ((aP b6 x6 y6 b7 x7 y7)) _ from⟨b6,x6,y6,b7,x7,y7,rfl,hq6,hq7,⟨hk11,hk12⟩,⟨hk13,hk14⟩,⟨(S.num 3 rfl),(S.num 2 rfl)⟩,(S.num 1 rfl),(S.num 0 rfl)⟩)).to rfl rfl (by omega),S.below⟩
section
variable (T : TT V)
include T
theorem zlH (h1:P1 K q1 q1' v1 V)(h2:P1 K' q2 q2' v2 V)(b:K≤100)(b':K'≤100):Calls Tryz.prog 62 #[v1,v2] V (zai V (QT (2*(max K 1+max K' 1)+1) (q1*q2' - q1'*q2))):=
 zbN (zrY T h1 h2 b b') (fun _ _ h=>h.smk (((h1.sm.1.mul h2.sm.2).sub (h1.sm.2.mul h2.sm.1)).mono (by omega)))
theorem zsT (h1:P1 K q1 q1' v1 V)(h2:P1 K' q2 q2' v2 V)(b:K≤100)(b':K'≤100):Calls Tryz.prog 64 #[v1,v2] V (zai V (QT (2*(max K 1+max K' 1)+1) (q1*q2+q1'*q2'))):=
 zbN (zs6 T h1 h2 b b') (fun _ _ h=>h.smk (((h1.sm.1.mul h2.sm.1).add (h1.sm.2.mul h2.sm.2)).mono (by omega)))
end
theorem ziB {K K':Nat}{q1 q1' q2 q2':Rat}{v1 v2:Value}{V:World}(T:TT V)(h1:P1 K (q1) (q1') v1 V)(h2:P1 K' (q2) (q2') v2 V)(hK0:K≤400)(hK1:K'≤400):
  Calls Tryz.prog 68 #[v1,v2] V (zai V (fun v _=>v= .int .i64 (zaS q1 q1' q2 q2'))):=by
 obtain⟨b1,x1,y1,b2,x2,y2,rfl,hq1,hq2,⟨hk1,hk2⟩,⟨hk3,hk4⟩,⟨ok1,ok2⟩,ok3,ok4⟩:=h1
 obtain⟨b3,x3,y3,b4,x4,y4,rfl,hq3,hq4,⟨hk5,hk6⟩,⟨hk7,hk8⟩,⟨ok5,ok6⟩,ok7,ok8⟩:=h2
 refine zao (e:=[x3,y3,x4,y4,x1,y1,x2,y2]) Tryz.func68 rfl Tryz.ntmps68 (zta rfl) [(0,(aP b1 x1 y1 b2 x2 y2)),(1,(aP b3 x3 y3 b4 x4 y4))] rfl (zaa ok5 (zaa ok6 (zaa ok7 (zaa ok8 (zaa ok1 (zaa ok2 (zaa ok3 (zaa ok4 zaz)))))))) (fun a S=>?_)
 refine wp_seq_k fun K1 hK1=>?_
 refine zab ?_
 refine ti S (cs:=(lP b1 x1 y1 b2 x2 y2)) (zar rfl (S.at 0 rfl) rfl) (fun g1=>[⟨g1,53,(lP b1 x1 y1 b2 x2 y2)⟩]) fun g1 a V1 hgg1 S=>?_
 refine ti S (cs:=(lP b3 x3 y3 b4 x4 y4)) (zar rfl (S.at 2 rfl) rfl) (fun g2=>[⟨g1,53,(lP b1 x1 y1 b2 x2 y2)⟩,⟨g2,53,(lP b3 x3 y3 b4 x4 y4)⟩]) fun g2 a V2 hgg2 S=>?_
 refine tv S (zav rfl) fun a S=>?_
 refine hK1 _ _ ?_
 refine wp_seq_k fun K2 hK2=>?_
 refine wp_seq_k fun K3 hK3=>?_
 refine zab ?_
 refine tv S (zae rfl (S.at 2 rfl) (zaQ _)) fun a S=>?_
 refine tv S (zac rfl (S.at 0 rfl) (S.bx 0 rfl) Tryz.underlying27 rfl (vs:=(aL b1 x1 y1)) zag rfl) fun a S=>?_
 refine tv S (zae rfl (S.at 3 rfl) (zaQ _)) fun a S=>?_
 refine tv S (zac rfl (S.at 0 rfl) (S.bx 1 rfl) Tryz.underlying27 rfl (vs:=(aL b3 x3 y3)) zag rfl) fun a S=>?_
 refine tc S (F:=(fun v _=>v= .int .i64 (zaI q1 q2))) (rc2 Tryz.func18 (S.at 2 rfl) (S.at 0 rfl)) (znY (T.keep S.below) (show Q1 K (q1) ((aG b1 x1 y1)) _ from⟨b1,x1,y1,rfl,hq1,hk1,hk2,(S.num 4 rfl),(S.num 5 rfl)⟩) (show Q1 K' (q2) ((aG b3 x3 y3)) _ from⟨b3,x3,y3,rfl,hq3,hk5,hk6,(S.num 0 rfl),(S.num 1 rfl)⟩) (by omega) (by omega)) fun v a V3 hF hb S=>?_
 subst hF
 refine tv S (zan rfl (S.at 0 rfl)) fun a S=>?_
 refine hK3 _ _ ?_
 refine wp_seq_k fun K4 hK4=>?_
 refine zab ?_
 refine tv S (zad rfl (S.at 0 rfl)) fun a S=>?_
 refine tv S (zfr _ (by decide) rfl (S.at 0 rfl) rfl) fun a S=>?_
 refine hK4 _ _ ?_
 rcases ztk (!decide (zaI q1 q2=0))with hc12|hc12
 ·refine wp_cond_true ((S.at 0 rfl).trans (congrArg Value.bool hc12)) ?_
  refine wp_seq_k fun K5 hK5=>?_
  refine zab ?_
  refine tv S (zad rfl (S.at 2 rfl)) fun a S=>?_
  refine za5 S (v:= .int .i64 (zaI q1 q2)) (zan rfl (S.at 0 rfl)) rfl rfl (by decide) (ls':=[(13,.int .i64 (zaI q1 q2)),(12,.bool (!decide (zaI q1 q2=0))),(11,.int .i64 (zaI q1 q2)),(5,.int .i64 (zaI q1 q2)),(10,.int .i64 (zaI q1 q2)),(9,(aG b3 x3 y3)),(8,pT g2 0),(7,(aG b1 x1 y1)),(6,pT g1 0),(3,pT g2 0),(2,pT g1 0),(0,(aP b1 x1 y1 b2 x2 y2)),(1,(aP b3 x3 y3 b4 x4 y4))]) rfl (fun a S=>?_)
  refine hK5 _ _ ?_
  refine wp_ret ?_
  exact zaH rfl S (S.at 0 rfl) ⟨_,rfl,congrArg (Value.int .i64) (zpk hc12),S.below⟩
 ·refine wp_cond_false ((S.at 0 rfl).trans (congrArg Value.bool hc12)) ?_
  refine wp_skip ?_
  refine hK2 _ _ ?_
  refine wp_seq_k fun K6 hK6=>?_
  refine zab ?_
  refine tv S (zae rfl (S.at 10 rfl) (zaT _)) fun a S=>?_
  refine tv S (zac rfl (S.at 0 rfl) (S.bx 0 rfl) Tryz.underlying27 rfl (vs:=(aL b2 x2 y2)) zag rfl) fun a S=>?_
  refine tv S (zae rfl (S.at 11 rfl) (zaT _)) fun a S=>?_
  refine tv S (zac rfl (S.at 0 rfl) (S.bx 1 rfl) Tryz.underlying27 rfl (vs:=(aL b4 x4 y4)) zag rfl) fun a S=>?_
  refine tc S (F:=(fun v _=>v= .int .i64 (zaI (q1') (q2')))) (rc2 Tryz.func18 (S.at 2 rfl) (S.at 0 rfl)) (znY (T.keep S.below) (show Q1 K (q1') ((aG b2 x2 y2)) _ from⟨b2,x2,y2,rfl,hq2,hk3,hk4,(S.num 6 rfl),(S.num 7 rfl)⟩) (show Q1 K' (q2') ((aG b4 x4 y4)) _ from⟨b4,x4,y4,rfl,hq4,hk7,hk8,(S.num 2 rfl),(S.num 3 rfl)⟩) (by omega) (by omega)) fun v a V4 hF hb S=>?_
  subst hF
  refine za5 S (v:= .int .i64 (zaI (q1') (q2'))) (zan rfl (S.at 0 rfl)) rfl rfl (by decide) (ls':=[(18,.int .i64 (zaI (q1') (q2'))),(17,(aG b4 x4 y4)),(16,pT g2 3),(15,(aG b2 x2 y2)),(14,pT g1 3),(12,.bool (!decide (zaI q1 q2=0))),(11,.int .i64 (zaI q1 q2)),(5,.int .i64 (zaI q1 q2)),(10,.int .i64 (zaI q1 q2)),(9,(aG b3 x3 y3)),(8,pT g2 0),(7,(aG b1 x1 y1)),(6,pT g1 0),(3,pT g2 0),(2,pT g1 0),(0,(aP b1 x1 y1 b2 x2 y2)),(1,(aP b3 x3 y3 b4 x4 y4))]) rfl (fun a S=>?_)
  refine hK6 _ _ ?_
  refine wp_ret ?_
  exact zaH rfl S (S.at 0 rfl) ⟨_,rfl,congrArg (Value.int .i64) (zpl hc12),S.below⟩
theorem zew {K K':Nat}{q1 q1' q2 q2':Rat}{v1 v2:Value}{V:World}(T:TT V)(h1:P1 K (q1) (q1') v1 V)(h2:P1 K' (q2) (q2') v2 V)(hK0:K≤400)(hK1:K'≤400):
  Calls Tryz.prog 70 #[v1,v2] V (zai V (fun v _=>v= .bool (decide (zaS q1 q1' q2 q2'=0)))):=by
 obtain⟨b1,x1,y1,b2,x2,y2,rfl,hq1,hq2,⟨hk1,hk2⟩,⟨hk3,hk4⟩,⟨ok1,ok2⟩,ok3,ok4⟩:=h1
 obtain⟨b3,x3,y3,b4,x4,y4,rfl,hq3,hq4,⟨hk5,hk6⟩,⟨hk7,hk8⟩,⟨ok5,ok6⟩,ok7,ok8⟩:=h2
 refine zao (e:=[x3,y3,x4,y4,x1,y1,x2,y2]) Tryz.func70 rfl Tryz.ntmps70 (zta rfl) [(0,(aP b1 x1 y1 b2 x2 y2)),(1,(aP b3 x3 y3 b4 x4 y4))] rfl (zaa ok5 (zaa ok6 (zaa ok7 (zaa ok8 (zaa ok1 (zaa ok2 (zaa ok3 (zaa ok4 zaz)))))))) (fun a S=>?_)
 refine wp_seq_k fun K1 hK1=>?_
 refine zab ?_
 refine ti S (cs:=(lP b1 x1 y1 b2 x2 y2)) (zar rfl (S.at 0 rfl) rfl) (fun g1=>[⟨g1,53,(lP b1 x1 y1 b2 x2 y2)⟩]) fun g1 a V1 hgg1 S=>?_
 refine ti S (cs:=(lP b3 x3 y3 b4 x4 y4)) (zar rfl (S.at 2 rfl) rfl) (fun g2=>[⟨g1,53,(lP b1 x1 y1 b2 x2 y2)⟩,⟨g2,53,(lP b3 x3 y3 b4 x4 y4)⟩]) fun g2 a V2 hgg2 S=>?_
 refine tv S (zav rfl) fun a S=>?_
 refine hK1 _ _ ?_
 refine wp_seq_k fun K2 hK2=>?_
 rcases ztk (decide (zaI q1 q2=0))with hs1|hs1
 ·skip
  refine zab ?_
  refine tv S (zae rfl (S.at 2 rfl) (zaQ _)) fun a S=>?_
  refine tv S (zac rfl (S.at 0 rfl) (S.bx 0 rfl) Tryz.underlying27 rfl (vs:=(aL b1 x1 y1)) zag rfl) fun a S=>?_
  refine tv S (zae rfl (S.at 3 rfl) (zaQ _)) fun a S=>?_
  refine tv S (zac rfl (S.at 0 rfl) (S.bx 1 rfl) Tryz.underlying27 rfl (vs:=(aL b3 x3 y3)) zag rfl) fun a S=>?_
  refine tc S (F:=(fun v _=>v= .bool true)) (rc2 Tryz.func20 (S.at 2 rfl) (S.at 0 rfl)) (zbN (zkj (T.keep S.below) (show Q1 K (q1) ((aG b1 x1 y1)) _ from⟨b1,x1,y1,rfl,hq1,hk1,hk2,(S.num 4 rfl),(S.num 5 rfl)⟩) (show Q1 K' (q2) ((aG b3 x3 y3)) _ from⟨b3,x3,y3,rfl,hq3,hk5,hk6,(S.num 0 rfl),(S.num 1 rfl)⟩) (by omega) (by omega)) (fun _ _ h=>h.trans (congrArg Value.bool (show(decide (zaI q1 q2=0))=true from hs1)))) fun v a V3 hF hb S=>?_
  subst hF
  refine tv S (zad rfl (S.at 0 rfl)) fun a S=>?_
  refine tvg S (S.at 0 rfl) (zae rfl (S.at 8 rfl) (zaT _)) fun a S=>?_
  refine tvg S (S.at 1 rfl) (zac rfl (S.at 0 rfl) (S.bx 0 rfl) Tryz.underlying27 rfl (vs:=(aL b2 x2 y2)) zag rfl) fun a S=>?_
  refine tvg S (S.at 2 rfl) (zae rfl (S.at 9 rfl) (zaT _)) fun a S=>?_
  refine tvg S (S.at 3 rfl) (zac rfl (S.at 0 rfl) (S.bx 1 rfl) Tryz.underlying27 rfl (vs:=(aL b4 x4 y4)) zag rfl) fun a S=>?_
  refine tcg S (S.at 4 rfl) (F:=(fun v _=>v= .bool (decide (zaI (q1') (q2')=0)))) (rc2 Tryz.func20 (S.at 2 rfl) (S.at 0 rfl)) (zkj (T.keep S.below) (show Q1 K (q1') ((aG b2 x2 y2)) _ from⟨b2,x2,y2,rfl,hq2,hk3,hk4,(S.num 6 rfl),(S.num 7 rfl)⟩) (show Q1 K' (q2') ((aG b4 x4 y4)) _ from⟨b4,x4,y4,rfl,hq4,hk7,hk8,(S.num 2 rfl),(S.num 3 rfl)⟩) (by omega) (by omega)) fun v a V4 hF hb S=>?_
  subst hF
  refine tv S (zau true rfl (S.at 5 rfl) (S.at 0 rfl)) fun a S=>?_
  refine za5 S (v:= .bool (decide (zaI (q1') (q2')=0))) (zan rfl (S.at 0 rfl)) rfl rfl (by decide) (ls':=[(16,.bool (decide (zaI (q1') (q2')=0))),(15,.bool (decide (zaI (q1') (q2')=0))),(14,(aG b4 x4 y4)),(13,pT g2 3),(12,(aG b2 x2 y2)),(11,pT g1 3),(10,.bool true),(9,.bool true),(8,(aG b3 x3 y3)),(7,pT g2 0),(6,(aG b1 x1 y1)),(5,pT g1 0),(3,pT g2 0),(2,pT g1 0),(0,(aP b1 x1 y1 b2 x2 y2)),(1,(aP b3 x3 y3 b4 x4 y4))]) rfl (fun a S=>?_)
  refine hK2 _ _ ?_
  refine wp_ret ?_
  exact zaH rfl S (S.at 0 rfl) ⟨_,rfl,congrArg Value.bool (zqs hs1),S.below⟩
 ·skip
  refine zab ?_
  refine tv S (zae rfl (S.at 2 rfl) (zaQ _)) fun a S=>?_
  refine tv S (zac rfl (S.at 0 rfl) (S.bx 0 rfl) Tryz.underlying27 rfl (vs:=(aL b1 x1 y1)) zag rfl) fun a S=>?_
  refine tv S (zae rfl (S.at 3 rfl) (zaQ _)) fun a S=>?_
  refine tv S (zac rfl (S.at 0 rfl) (S.bx 1 rfl) Tryz.underlying27 rfl (vs:=(aL b3 x3 y3)) zag rfl) fun a S=>?_
  refine tc S (F:=(fun v _=>v= .bool false)) (rc2 Tryz.func20 (S.at 2 rfl) (S.at 0 rfl)) (zbN (zkj (T.keep S.below) (show Q1 K (q1) ((aG b1 x1 y1)) _ from⟨b1,x1,y1,rfl,hq1,hk1,hk2,(S.num 4 rfl),(S.num 5 rfl)⟩) (show Q1 K' (q2) ((aG b3 x3 y3)) _ from⟨b3,x3,y3,rfl,hq3,hk5,hk6,(S.num 0 rfl),(S.num 1 rfl)⟩) (by omega) (by omega)) (fun _ _ h=>h.trans (congrArg Value.bool (show(decide (zaI q1 q2=0))=false from hs1)))) fun v a V5 hF hb S=>?_
  subst hF
  refine tv S (zad rfl (S.at 0 rfl)) fun a S=>?_
  refine tk S (S.at 0 rfl) fun a S=>?_
  refine tk S (S.at 1 rfl) fun a S=>?_
  refine tk S (S.at 2 rfl) fun a S=>?_
  refine tk S (S.at 3 rfl) fun a S=>?_
  refine tk S (S.at 4 rfl) fun a S=>?_
  refine tv S (zau false rfl (S.at 5 rfl) rfl) fun a S=>?_
  refine za5 S (v:= .bool false) (zan rfl (S.at 0 rfl)) rfl rfl (by decide) (ls':=[(16,.bool false),(15,undef),(14,undef),(13,undef),(12,undef),(11,undef),(10,.bool false),(9,.bool false),(8,(aG b3 x3 y3)),(7,pT g2 0),(6,(aG b1 x1 y1)),(5,pT g1 0),(3,pT g2 0),(2,pT g1 0),(0,(aP b1 x1 y1 b2 x2 y2)),(1,(aP b3 x3 y3 b4 x4 y4))]) rfl (fun a S=>?_)
  refine hK2 _ _ ?_
  refine wp_ret ?_
  exact zaH rfl S (S.at 0 rfl) ⟨_,rfl,congrArg Value.bool (zqt hs1),S.below⟩
theorem zsU {K K':Nat}{q1 q1' q2 q2':Rat}{v1 v2:Value}{V:World}(T:TT V)(h1:P1 K (q1) (q1') v1 V)(h2:P1 K' (q2) (q2') v2 V)(hK0:K≤100)(hK1:K'≤100):
  Calls Tryz.prog 66 #[v1,v2] V (zai V (QT (2*(max K 1+max K' 1+1)+1) (zbH (q2 - q1)+zbH (q2' - q1')))):=by
 obtain⟨b1,x1,y1,b2,x2,y2,rfl,hq1,hq2,⟨hk1,hk2⟩,⟨hk3,hk4⟩,⟨ok1,ok2⟩,ok3,ok4⟩:=h1
 obtain⟨b3,x3,y3,b4,x4,y4,rfl,hq3,hq4,⟨hk5,hk6⟩,⟨hk7,hk8⟩,⟨ok5,ok6⟩,ok7,ok8⟩:=h2
 refine zao (e:=[x3,y3,x4,y4,x1,y1,x2,y2]) Tryz.func66 rfl Tryz.ntmps66 (zta rfl) [(0,(aP b1 x1 y1 b2 x2 y2)),(1,(aP b3 x3 y3 b4 x4 y4))] rfl (zaa ok5 (zaa ok6 (zaa ok7 (zaa ok8 (zaa ok1 (zaa ok2 (zaa ok3 (zaa ok4 zaz)))))))) (fun a S=>?_)
 refine wp_seq_k fun K1 hK1=>?_
 refine zab ?_
 refine ti S (cs:=(lP b1 x1 y1 b2 x2 y2)) (zar rfl (S.at 0 rfl) rfl) (fun g1=>[⟨g1,53,(lP b1 x1 y1 b2 x2 y2)⟩]) fun g1 a V1 hgg1 S=>?_
 refine ti S (cs:=(lP b3 x3 y3 b4 x4 y4)) (zar rfl (S.at 2 rfl) rfl) (fun g2=>[⟨g1,53,(lP b1 x1 y1 b2 x2 y2)⟩,⟨g2,53,(lP b3 x3 y3 b4 x4 y4)⟩]) fun g2 a V2 hgg2 S=>?_
 refine ti S (cs:=[.bool false,.slice none 0 0,.slice none 0 0]) (zas rfl (Tryz.zeroValue27 _) rfl) (fun g3=>[⟨g1,53,(lP b1 x1 y1 b2 x2 y2)⟩,⟨g2,53,(lP b3 x3 y3 b4 x4 y4)⟩,⟨g3,27,[.bool false,.slice none 0 0,.slice none 0 0]⟩]) fun g3 a V3 hgg3 S=>?_
 refine hK1 _ _ ?_
 refine wp_seq_k fun K2 hK2=>?_
 refine zab ?_
 refine tv S (zac rfl (S.at 1 rfl) (S.bx 1 rfl) Tryz.underlying53 rfl (vs:=(lP b3 x3 y3 b4 x4 y4)) zaq rfl) fun a S=>?_
 refine tv S (zac rfl (S.at 3 rfl) (S.bx 0 rfl) Tryz.underlying53 rfl (vs:=(lP b1 x1 y1 b2 x2 y2)) zaq rfl) fun a S=>?_
 refine tc S (F:=PT ((max K' 1)+(max K 1)+1) (q2 - q1) ((q2') - (q1'))) (rc2 Tryz.func51 (S.at 1 rfl) (S.at 0 rfl)) (zrV (T.keep S.below) (show P1 K' (q2) (q2') ((aP b3 x3 y3 b4 x4 y4)) _ from⟨b3,x3,y3,b4,x4,y4,rfl,hq3,hq4,⟨hk5,hk6⟩,⟨hk7,hk8⟩,⟨(S.num 0 rfl),(S.num 1 rfl)⟩,(S.num 2 rfl),(S.num 3 rfl)⟩) (show P1 K (q1) (q1') ((aP b1 x1 y1 b2 x2 y2)) _ from⟨b1,x1,y1,b2,x2,y2,rfl,hq1,hq2,⟨hk1,hk2⟩,⟨hk3,hk4⟩,⟨(S.num 4 rfl),(S.num 5 rfl)⟩,(S.num 6 rfl),(S.num 7 rfl)⟩) (by omega) (by omega)) fun v a V4 hF hb S=>?_
 obtain⟨b5,x5,y5,b6,x6,y6,rfl,hq5,hq6,⟨hk9,hk10⟩,⟨hk11,hk12⟩,⟨ok9,ok10⟩,ok11,ok12⟩:=hF
 have S:=S.know ok9
 have S:=S.know ok10
 have S:=S.know ok11
 have S:=S.know ok12
 refine ti S (cs:=[.bool false,.slice none 0 0,.slice none 0 0,.bool false,.slice none 0 0,.slice none 0 0]) (zas rfl (Tryz.zeroValue53 _) rfl) (fun g4=>[⟨g1,53,(lP b1 x1 y1 b2 x2 y2)⟩,⟨g2,53,(lP b3 x3 y3 b4 x4 y4)⟩,⟨g3,27,[.bool false,.slice none 0 0,.slice none 0 0]⟩,⟨g4,53,[.bool false,.slice none 0 0,.slice none 0 0,.bool false,.slice none 0 0,.slice none 0 0]⟩]) fun g4 a V5 hgg4 S=>?_
 refine zap S (i:=3) (vs:=(lP b5 x5 y5 b6 x6 y6)) rfl (fun ht=>zal rfl (S.at 0 rfl) (S.at 1 rfl) zaq rfl (zta rfl) ht) (zta rfl) rfl rfl rfl (lb':=[⟨g1,53,(lP b1 x1 y1 b2 x2 y2)⟩,⟨g2,53,(lP b3 x3 y3 b4 x4 y4)⟩,⟨g3,27,[.bool false,.slice none 0 0,.slice none 0 0]⟩,⟨g4,53,(lP b5 x5 y5 b6 x6 y6)⟩]) rfl (fun V6 S=>?_)
 refine hK2 _ _ ?_
 refine wp_seq_k fun K3 hK3=>?_
 obtain⟨W1,hW1⟩:∃W,W=V6:=⟨_,rfl⟩
 rw[←hW1]at S ⊢
 have S0:=S
 refine fr 8 [9,10,11,12,13,14,15,16] [IsV (pT g4 0),IsV ((aG b5 x5 y5)),Q1 (max ((max K' 1)+(max K 1)+1) 1) (zbH (q2 - q1)),IsV (pT g4 3),IsV ((aG b6 x6 y6)),Q1 (max ((max K' 1)+(max K 1)+1) 1) (zbH ((q2') - (q1'))),QL (max ((max K' 1)+(max K 1)+1) 1) 6 ([zbH (q2 - q1),zbH ((q2') - (q1'))]),QT (2*(max (max ((max K' 1)+(max K 1)+1) 1) 1)+1) ((zbH (q2 - q1))+(zbH ((q2') - (q1'))))] S ?_ ?_
 ·refine sc (fun _ _ S _ _=>sv rfl (zae rfl (S.at 0 rfl) (zaQ _))) ?_
  refine sc (fun _ _ S _ hd=>sv rfl (zac rfl (hd.v 0 rfl rfl) (S.bx 3 rfl) Tryz.underlying27 rfl (vs:=(aL b5 x5 y5)) zag rfl)) ?_
  refine sc (fun _ _ S _ hd=>sl rfl (rc1 Tryz.func115 (hd.v 1 rfl rfl)) (zqS (T.keep S.below) (show QT ((max K' 1)+(max K 1)+1) (q2 - q1) ((aG b5 x5 y5)) _ from⟨b5,x5,y5,rfl,hq5,hk9,hk10,(S.num 3 rfl),(S.num 2 rfl)⟩).any (by omega))) ?_
  refine sc (fun _ _ S _ _=>sv rfl (zae rfl (S.at 0 rfl) (zaT _))) ?_
  refine sc (fun _ _ S _ hd=>sv rfl (zac rfl (hd.v 3 rfl rfl) (S.bx 3 rfl) Tryz.underlying27 rfl (vs:=(aL b6 x6 y6)) zag rfl)) ?_
  refine sc (fun _ _ S _ hd=>sl rfl (rc1 Tryz.func115 (hd.v 4 rfl rfl)) (zqS (T.keep S.below) (show QT ((max K' 1)+(max K 1)+1) ((q2') - (q1')) ((aG b6 x6 y6)) _ from⟨b6,x6,y6,rfl,hq6,hk11,hk12,(S.num 1 rfl),(S.num 0 rfl)⟩).any (by omega))) ?_
  refine sc (fun _ _ _ _ hd=>sy rfl (zbc rfl rfl rfl (hd.r 2 rfl rfl) (hd.r 5 rfl rfl))) ?_
  refine sc (fun _ _ S _ hd=>sl rfl (rc1 Tryz.func28 rfl) (zo7 (T.keep S.below) ((hd.r 6 rfl rfl)).row (by omega))) ?_
  exact sn
 ·intro a1 V7 S hB hf
  obtain⟨b7,x7,y7,hv1,hq7,hk13,hk14,ok13,ok14⟩:=hf.r 7 rfl rfl
  have S:=S.add hv1
  have S:=S.know ok13
  have S:=S.know ok14
  clear hf S0
  show wpList _ _ _ [_] _ _
  refine zap S (i:=2) (vs:=(aL b7 x7 y7)) rfl (fun ht=>zal rfl (S.at 5 rfl) (S.at 0 rfl) zag rfl (zta rfl) ht) (zta rfl) rfl rfl rfl (lb':=[⟨g1,53,(lP b1 x1 y1 b2 x2 y2)⟩,⟨g2,53,(lP b3 x3 y3 b4 x4 y4)⟩,⟨g3,27,(aL b7 x7 y7)⟩,⟨g4,53,(lP b5 x5 y5 b6 x6 y6)⟩]) rfl (fun V8 S=>?_)
  refine hK3 _ _ ?_
  refine wp_ret ?_
  exact zaw rfl S (S.at 5 rfl) (i:=2) rfl Tryz.underlying27 rfl zag ⟨_,rfl,((show QT (2*(max (max ((max K' 1)+(max K 1)+1) 1) 1)+1) ((zbH (q2 - q1))+(zbH ((q2') - (q1')))) ((aG b7 x7 y7)) _ from⟨b7,x7,y7,rfl,hq7,hk13,hk14,(S.num 1 rfl),(S.num 0 rfl)⟩)).to rfl (by omega),S.below⟩
end Go.Proofs.YtafokgknenienaaGreatDoor
