/- Contracts of package vec: points, part by part. -/
import Derived.Test.YtdeelcoipmdoiaaGreatDoorGVPt
set_option maxHeartbeats 4000000
set_option maxRecDepth 100000
namespace Go.Proofs.YtdeelcoipmdoiaaGreatDoor
open Go Go.RowKit
section
variable {v v1 v2:Value}{V V' W:World}{K K':Nat}{q q' q1 q1' q2 q2':Rat}
theorem zuS {K:Nat}{q q':Rat}{v1:Value}{V:World}(h1:P1 K (q) (q') v1 V):
  Calls Tryz.prog 88 #[v1] V (zaj V (Q1 K q)):=by
 obtain⟨b1,x1,y1,b2,x2,y2,rfl,hq1,hq2,⟨hk1,hk2⟩,⟨hk3,hk4⟩,⟨ok1,ok2⟩,ok3,ok4⟩:=h1
 refine fb Tryz.func88 Tryz.ntmps88 (zaa ok1 (zaa ok2 (zaa ok3 (zaa ok4 zaC)))) (fun a S=>?_)
 refine wsp fun K1 hK1=>?_
 refine tb S 0 (lP b1 x1 y1 b2 x2 y2) fun g1 a V1 hgg1 S=>?_
 refine ti S (cs:=lZ) (zay rfl (Tryz.zeroValue27 _) rfl) (fun g2=>[⟨g1,29,(lP b1 x1 y1 b2 x2 y2)⟩,⟨g2,27,lZ⟩]) fun g2 a V2 hgg2 S=>?_
 refine hK1 _ _ ?_
 refine wsp fun K2 hK2=>?_
 refine tv S (zae rfl (S.at 1 rfl) (zaT _)) fun a S=>?_
 refine tv S (zak rfl (S.at 0 rfl) (S.bx 0 rfl) Tryz.underlying27 rfl (vs:=(aL b1 x1 y1)) zas rfl) fun a S=>?_
 refine zaB S (i:=1) (vs:=(aL b1 x1 y1)) rfl (fun ht=>zaw rfl (S.at 2 rfl) (S.at 0 rfl) zas rfl (zu0 rfl) ht) (zu0 rfl) rfl rfl rfl (lb':=[⟨g1,29,(lP b1 x1 y1 b2 x2 y2)⟩,⟨g2,27,(aL b1 x1 y1)⟩]) rfl (fun V3 S=>?_)
 refine hK2 _ _ ?_
 refine wp_ret ?_
 exact zaW rfl S (S.at 2 rfl) (i:=1) rfl Tryz.underlying27 rfl zas ⟨_,rfl,(q2m S 0 hq1 hk1 hk2),S.below⟩
theorem zuT {K:Nat}{q q':Rat}{v1:Value}{V:World}(h1:P1 K (q) (q') v1 V):
  Calls Tryz.prog 89 #[v1] V (zaj V (Q1 K q')):=by
 obtain⟨b1,x1,y1,b2,x2,y2,rfl,hq1,hq2,⟨hk1,hk2⟩,⟨hk3,hk4⟩,⟨ok1,ok2⟩,ok3,ok4⟩:=h1
 refine fb Tryz.func89 Tryz.ntmps89 (zaa ok1 (zaa ok2 (zaa ok3 (zaa ok4 zaC)))) (fun a S=>?_)
 refine wsp fun K1 hK1=>?_
 refine tb S 0 (lP b1 x1 y1 b2 x2 y2) fun g1 a V1 hgg1 S=>?_
 refine ti S (cs:=lZ) (zay rfl (Tryz.zeroValue27 _) rfl) (fun g2=>[⟨g1,29,(lP b1 x1 y1 b2 x2 y2)⟩,⟨g2,27,lZ⟩]) fun g2 a V2 hgg2 S=>?_
 refine hK1 _ _ ?_
 refine wsp fun K2 hK2=>?_
 refine tv S (zae rfl (S.at 1 rfl) (za8 _)) fun a S=>?_
 refine tv S (zak rfl (S.at 0 rfl) (S.bx 0 rfl) Tryz.underlying27 rfl (vs:=(aL b2 x2 y2)) zas rfl) fun a S=>?_
 refine zaB S (i:=1) (vs:=(aL b2 x2 y2)) rfl (fun ht=>zaw rfl (S.at 2 rfl) (S.at 0 rfl) zas rfl (zu0 rfl) ht) (zu0 rfl) rfl rfl rfl (lb':=[⟨g1,29,(lP b1 x1 y1 b2 x2 y2)⟩,⟨g2,27,(aL b2 x2 y2)⟩]) rfl (fun V3 S=>?_)
 refine hK2 _ _ ?_
 refine wp_ret ?_
 exact zaW rfl S (S.at 2 rfl) (i:=1) rfl Tryz.underlying27 rfl zas ⟨_,rfl,(q2m S 2 hq2 hk3 hk4),S.below⟩
theorem zuU:Sel 88 false:=⟨enters_of Tryz.func88 (by kernel_rfl) rfl,fun h=>zuS h⟩
theorem zuV:Sel 89 true:=⟨enters_of Tryz.func89 (by kernel_rfl) rfl,fun h=>zuT h⟩
theorem zoP {f:FuncId}{caps:Array Value}{K:Nat}{q q':Rat}{V:World}(en:∀args w,(callFunc f args).run Tryz.prog w= .ok (.enter f args) w)(hx:∀W,Below V.heap.size V W→Calls Tryz.prog f (#[.func (.func 88) #[] #[]]++caps) W (zaj W (QT K q))) (hy:∀W,Below V.heap.size V W→Calls Tryz.prog f (#[.func (.func 89) #[] #[]]++caps) W (zaj W (QT K q'))):
  Calls Tryz.prog 66 #[.func (.func f) #[] caps] V (zaj V (PT K q q')):=by
 refine fb Tryz.func66 Tryz.ntmps66 zaC (fun a S=>?_)
 refine wsp fun K1 hK1=>?_
 refine ti S (cs:=lY) (zay rfl (Tryz.zeroValue29 _) rfl) (fun g1=>[⟨g1,29,lY⟩]) fun g1 a V1 hgg1 S=>?_
 refine hK1 _ _ ?_
 refine wsp fun K2 hK2=>?_
 refine mv S 1 fun a S=>?_
 refine tc S (F:=QT K (q)) (ziO en (S.at 0 rfl)) (hx _ S.below) fun v a V2 hF hb S=>?_
 obtain⟨b1,x1,y1,rfl,hq1,hk1,hk2,ok1,ok2⟩:=hF
 have S:=S.know ok1
 have S:=S.know ok2
 refine mv S 3 fun a S=>?_
 refine tc S (F:=QT K (q')) (ziO en (S.at 0 rfl)) (hy _ S.below) fun v a V3 hF hb S=>?_
 obtain⟨b2,x2,y2,rfl,hq2,hk3,hk4,ok3,ok4⟩:=hF
 have S:=S.know ok3
 have S:=S.know ok4
 refine tv S (zbo rfl (S.at 2 rfl) (S.at 0 rfl) (zq4 _ _ _ _ _ _ _ _ _ _ _ _ _ _)) fun a S=>?_
 refine zaB S (i:=0) (vs:=(lP b1 x1 y1 b2 x2 y2)) rfl (fun ht=>zaw rfl (S.at 5 rfl) (S.at 0 rfl) zba rfl (zu0 rfl) ht) (zu0 rfl) rfl rfl rfl (lb':=[⟨g1,29,(lP b1 x1 y1 b2 x2 y2)⟩]) rfl (fun V4 S=>?_)
 refine hK2 _ _ ?_
 refine wp_ret ?_
 exact zaW rfl S (S.at 5 rfl) (i:=0) rfl Tryz.underlying29 rfl zba ⟨_,rfl,⟨b1,x1,y1,b2,x2,y2,rfl,hq1,hq2,⟨hk1,hk2⟩,⟨hk3,hk4⟩,⟨(S.num 3 rfl),(S.num 2 rfl)⟩,(S.num 1 rfl),(S.num 0 rfl)⟩,S.below⟩
structure PtAt (V:World) (g K:Nat) (q q':Rat) (b:Bool) (x y:Num) (b':Bool) (x' y':Num):Prop where
 cell:V.heap[g]?=some (.cells [.bool b,.slice x.A x.n x.c,.slice y.A y.n y.c,.bool b',.slice x'.A x'.n x'.c,.slice y'.A y'.n y'.c].toArray 29 (0,0))
 q:qOf b x.N y.N=q
 q':qOf b' x'.N y'.N=q'
 kx:x.n≤K
 ky:y.n≤K
 kx':x'.n≤K
 ky':y'.n≤K
 ox:x.ok V V.heap.size
 oy:y.ok V V.heap.size
 ox':x'.ok V V.heap.size
 oy':y'.ok V V.heap.size
structure RtAt (V:World) (g K:Nat) (q:Rat) (b:Bool) (x y:Num):Prop where
 cell:V.heap[g]?=some (.cells [.bool b,.slice x.A x.n x.c,.slice y.A y.n y.c].toArray 27 (0,0))
 q:qOf b x.N y.N=q
 kx:x.n≤K
 ky:y.n≤K
 ox:x.ok V V.heap.size
 oy:y.ok V V.heap.size
section
variable {g:Nat}{b b':Bool}{x y x' y':Num}
theorem PtAt.at (h:PtAt V g K q q' b x y b' x' y')(hb:Below V.heap.size V W):W.heap[g]?=some (.cells [.bool b,.slice x.A x.n x.c,.slice y.A y.n y.c,.bool b',.slice x'.A x'.n x'.c,.slice y'.A y'.n y'.c].toArray 29 (0,0)):=
 (hb.block g (Array.getElem?_eq_some_iff.1 h.cell).1).trans h.cell
theorem RtAt.at (h:RtAt V g K q b x y)(hb:Below V.heap.size V W):W.heap[g]?=some (.cells [.bool b,.slice x.A x.n x.c,.slice y.A y.n y.c].toArray 27 (0,0)):=
 (hb.block g (Array.getElem?_eq_some_iff.1 h.cell).1).trans h.cell
theorem PtAt.keep (h:PtAt V g K q q' b x y b' x' y')(hb:Below V.heap.size V W):PtAt W g K q q' b x y b' x' y':=
 ⟨h.at hb,h.q,h.q',h.kx,h.ky,h.kx',h.ky',h.ox.later hb,h.oy.later hb,h.ox'.later hb,h.oy'.later hb⟩
theorem RtAt.keep (h:RtAt V g K q b x y)(hb:Below V.heap.size V W):RtAt W g K q b x y:=⟨h.at hb,h.q,h.kx,h.ky,h.ox.later hb,h.oy.later hb⟩
end
theorem zsF {K K':Nat}{q1 q1' q2 q2':Rat}{f0:FuncId}{s:Bool}{g1_:Nat}{b1_ b1b_:Bool}{x1_ y1_ x1b_ y1b_:Num}{g2_:Nat}{b2_ b2b_:Bool}{x2_ y2_ x2b_ y2b_:Num}{V:World}(T:TT V)(hs:Sel f0 s)(B1:PtAt V g1_ K q1 q1' b1_ x1_ y1_ b1b_ x1b_ y1b_)(B2:PtAt V g2_ K' q2 q2' b2_ x2_ y2_ b2b_ x2b_ y2b_)(hK0:K≤400)(hK1:K'≤400):
  Calls Tryz.prog 67 #[.func (.func f0) #[] #[],pT g1_ 0,pT g2_ 0] V (zaj V (QT (max K 1+max K' 1+1) (sel s q1 q1' - sel s q2 q2'))):=by
 refine fb Tryz.func67 Tryz.ntmps67 (zaa B1.ox (zaa B1.oy (zaa B1.ox' (zaa B1.oy' (zaa B2.ox (zaa B2.oy (zaa B2.ox' (zaa B2.oy' zaC)))))))) (fun a S=>?_)
 refine wsp fun K1 hK1=>?_
 refine ti S (cs:=lZ) (zay rfl (Tryz.zeroValue27 _) rfl) (fun g1=>[⟨g1,27,lZ⟩]) fun g1 a V1 hgg1 S=>?_
 refine hK1 _ _ ?_
 refine wp_seq_k fun K2 hK2=>?_
 obtain⟨W1,hW1⟩:∃W,W=V1:=⟨_,rfl⟩
 rw[←hW1]at S ⊢
 have S0:=S
 refine fr 7 [5,6,7,8,9,10,11] [IsV (.func (.func f0) #[] #[]),IsV ((aP b1_ x1_ y1_ b1b_ x1b_ y1b_)),Q1 K (sel s q1 (q1')),IsV (.func (.func f0) #[] #[]),IsV ((aP b2_ x2_ y2_ b2b_ x2b_ y2b_)),Q1 K' (sel s q2 (q2')),QT ((max K 1)+(max K' 1)+1) ((sel s q1 (q1')) - (sel s q2 (q2')))] S ?_ ?_
 ·refine sc (fun _ _ S _ _=>sv rfl (zab rfl (S.at 1 rfl))) ?_
  refine sc (fun _ _ S _ _=>sv rfl (zak rfl (S.at 2 rfl) (B1.at S.below) Tryz.underlying29 rfl (vs:=(lP b1_ x1_ y1_ b1b_ x1b_ y1b_)) zba rfl)) ?_
  refine sc (fun _ _ S _ hd=>sl rfl (ziN hs.en (hd.v 0 rfl rfl) (hd.v 1 rfl rfl)) (hs.tells (show P1 K (q1) (q1') ((aP b1_ x1_ y1_ b1b_ x1b_ y1b_)) _ from⟨b1_,x1_,y1_,b1b_,x1b_,y1b_,rfl,B1.q,B1.q',⟨B1.kx,B1.ky⟩,⟨B1.kx',B1.ky'⟩,⟨(S.num 0 rfl),(S.num 1 rfl)⟩,(S.num 2 rfl),(S.num 3 rfl)⟩))) ?_
  refine sc (fun _ _ S _ _=>sv rfl (zab rfl (S.at 1 rfl))) ?_
  refine sc (fun _ _ S _ _=>sv rfl (zak rfl (S.at 3 rfl) (B2.at S.below) Tryz.underlying29 rfl (vs:=(lP b2_ x2_ y2_ b2b_ x2b_ y2b_)) zba rfl)) ?_
  refine sc (fun _ _ S _ hd=>sl rfl (ziN hs.en (hd.v 3 rfl rfl) (hd.v 4 rfl rfl)) (hs.tells (show P1 K' (q2) (q2') ((aP b2_ x2_ y2_ b2b_ x2b_ y2b_)) _ from⟨b2_,x2_,y2_,b2b_,x2b_,y2b_,rfl,B2.q,B2.q',⟨B2.kx,B2.ky⟩,⟨B2.kx',B2.ky'⟩,⟨(S.num 4 rfl),(S.num 5 rfl)⟩,(S.num 6 rfl),(S.num 7 rfl)⟩))) ?_
  refine sc (fun _ _ S _ hd=>sl rfl (rc2 Tryz.func64 rfl rfl) (zss (T.keep S.below) (hd.r 2 rfl rfl) (hd.r 5 rfl rfl) (by omega) (by omega))) ?_
  exact sn
 ·intro a1 V2 S hB hf
  obtain⟨b1,x1,y1,hv1,hq1,hk1,hk2,ok1,ok2⟩:=hf.r 6 rfl rfl
  have S:=S.add hv1
  have S:=S.know ok1
  have S:=S.know ok2
  clear hf S0
  show wpList _ _ _ [_] _ _
  refine zaB S (i:=0) (vs:=(aL b1 x1 y1)) rfl (fun ht=>zaw rfl (S.at 1 rfl) (S.at 0 rfl) zas rfl (zu0 rfl) ht) (zu0 rfl) rfl rfl rfl (lb':=[⟨g1,27,(aL b1 x1 y1)⟩]) rfl (fun V3 S=>?_)
  refine hK2 _ _ ?_
  refine wp_ret ?_
  exact zaW rfl S (S.at 1 rfl) (i:=0) rfl Tryz.underlying27 rfl zas ⟨_,rfl,((show QT ((max K 1)+(max K' 1)+1) ((sel s q1 (q1')) - (sel s q2 (q2'))) ((aG b1 x1 y1)) _ from⟨b1,x1,y1,rfl,hq1,hk1,hk2,(S.num 1 rfl),(S.num 0 rfl)⟩)).to rfl (by omega),S.below⟩
theorem zuI {K K':Nat}{q1 q1' q2 q2':Rat}{v1 v2:Value}{V:World}(T:TT V)(h1:P1 K (q1) (q1') v1 V)(h2:P1 K' (q2) (q2') v2 V)(hK0:K≤400)(hK1:K'≤400):
  Calls Tryz.prog 39 #[v1,v2] V (zaj V (PT (max K 1+max K' 1+1) (q1 - q2) (q1' - q2'))):=by
 obtain⟨b1,x1,y1,b2,x2,y2,rfl,hq1,hq2,⟨hk1,hk2⟩,⟨hk3,hk4⟩,⟨ok1,ok2⟩,ok3,ok4⟩:=h1
 obtain⟨b3,x3,y3,b4,x4,y4,rfl,hq3,hq4,⟨hk5,hk6⟩,⟨hk7,hk8⟩,⟨ok5,ok6⟩,ok7,ok8⟩:=h2
 refine fb Tryz.func39 Tryz.ntmps39 (zaa ok5 (zaa ok6 (zaa ok7 (zaa ok8 (zaa ok1 (zaa ok2 (zaa ok3 (zaa ok4 zaC)))))))) (fun a S=>?_)
 refine wsp fun K1 hK1=>?_
 refine tb S 0 (lP b1 x1 y1 b2 x2 y2) fun g1 a V1 hgg1 S=>?_
 refine tb S 2 (lP b3 x3 y3 b4 x4 y4) fun g2 a V2 hgg2 S=>?_
 refine ti S (cs:=lY) (zay rfl (Tryz.zeroValue29 _) rfl) (fun g3=>[⟨g1,29,(lP b1 x1 y1 b2 x2 y2)⟩,⟨g2,29,(lP b3 x3 y3 b4 x4 y4)⟩,⟨g3,29,lY⟩]) fun g3 a V3 hgg3 S=>?_
 refine hK1 _ _ ?_
 refine wsp fun K2 hK2=>?_
 refine tv S (zoO rfl (S.at 2 rfl) (S.at 1 rfl)) fun a S=>?_
 have hB1:=(PtAt.mk (V:=V3) (S.bx 0 rfl) hq1 hq2 hk1 hk2 hk3 hk4 (S.num 4 rfl) (S.num 5 rfl) (S.num 6 rfl) (S.num 7 rfl))
 have hB2:=(PtAt.mk (V:=V3) (S.bx 1 rfl) hq3 hq4 hk5 hk6 hk7 hk8 (S.num 0 rfl) (S.num 1 rfl) (S.num 2 rfl) (S.num 3 rfl))
 refine tc S (F:=PT (max K 1+max K' 1+1) ((q1 - q2)) ((q1' - q2'))) (rc1 Tryz.func66 (S.at 0 rfl)) (zoP (q:=(q1 - q2)) (q':=(q1' - q2')) (enters_of Tryz.func67 (by kernel_rfl) rfl) (fun W hW=>zsF ((T.keep S.below).keep hW) zuU (hB1.keep hW) (hB2.keep hW) (by omega) (by omega)) (fun W hW=>zsF ((T.keep S.below).keep hW) zuV (hB1.keep hW) (hB2.keep hW) (by omega) (by omega))) fun v a V4 hF hb S=>?_
 obtain⟨b5,x5,y5,b6,x6,y6,rfl,hq5,hq6,⟨hk9,hk10⟩,⟨hk11,hk12⟩,⟨ok9,ok10⟩,ok11,ok12⟩:=hF
 have S:=S.know ok9
 have S:=S.know ok10
 have S:=S.know ok11
 have S:=S.know ok12
 refine zaB S (i:=2) (vs:=(lP b5 x5 y5 b6 x6 y6)) rfl (fun ht=>zaw rfl (S.at 2 rfl) (S.at 0 rfl) zba rfl (zu0 rfl) ht) (zu0 rfl) rfl rfl rfl (lb':=[⟨g1,29,(lP b1 x1 y1 b2 x2 y2)⟩,⟨g2,29,(lP b3 x3 y3 b4 x4 y4)⟩,⟨g3,29,(lP b5 x5 y5 b6 x6 y6)⟩]) rfl (fun V5 S=>?_)
 refine hK2 _ _ ?_
 refine wp_ret ?_
 exact zaW rfl S (S.at 2 rfl) (i:=2) rfl Tryz.underlying29 rfl zba ⟨_,rfl,((show PT (max K 1+max K' 1+1) ((q1 - q2)) ((q1' - q2')) ((aP b5 x5 y5 b6 x6 y6)) _ from⟨b5,x5,y5,b6,x6,y6,rfl,hq5,hq6,⟨hk9,hk10⟩,⟨hk11,hk12⟩,⟨(S.num 3 rfl),(S.num 2 rfl)⟩,(S.num 1 rfl),(S.num 0 rfl)⟩)).to rfl rfl (by omega),S.below⟩
section
variable (T : TT V)
include T
end
def zaQ (q1 q1' q2 q2':Rat):Int:=if zag q1 q2=0 then zag q1' q2' else zag q1 q2
theorem zq5 (h:(!decide (zag q1 q2=0))=true):zag q1 q2=zaQ q1 q1' q2 q2':=by
 unfold zaQ;rw[if_neg];simpa using h
theorem zq6 (h:(!decide (zag q1 q2=0))=false):zag q1' q2'=zaQ q1 q1' q2 q2':=by
 unfold zaQ;rw[if_pos];simpa using h
theorem zsi (h:decide (zag q1 q2=0)=true):decide (zag q1' q2'=0)=decide (zaQ q1 q1' q2 q2'=0):=by
 unfold zaQ;rw[if_pos (of_decide_eq_true h)]
theorem zsj (h:decide (zag q1 q2=0)=false):false=decide (zaQ q1 q1' q2 q2'=0):=by
 unfold zaQ;rw[if_neg (of_decide_eq_false h),h]
theorem ztU {K K':Nat}{q1 q1' q2 q2':Rat}{v1 v2:Value}{V:World}(T:TT V)(h1:P1 K (q1) (q1') v1 V)(h2:P1 K' (q2) (q2') v2 V)(hK0:K≤300)(hK1:K'≤300):
  Calls Tryz.prog 38 #[v1,v2] V (zaj V (QT (4*max (max K K') 1+1) (q1*q2' - q1'*q2))):=by
 obtain⟨b1,x1,y1,b2,x2,y2,rfl,hq1,hq2,⟨hk1,hk2⟩,⟨hk3,hk4⟩,⟨ok1,ok2⟩,ok3,ok4⟩:=h1
 obtain⟨b3,x3,y3,b4,x4,y4,rfl,hq3,hq4,⟨hk5,hk6⟩,⟨hk7,hk8⟩,⟨ok5,ok6⟩,ok7,ok8⟩:=h2
 refine fb Tryz.func38 Tryz.ntmps38 (zaa ok5 (zaa ok6 (zaa ok7 (zaa ok8 (zaa ok1 (zaa ok2 (zaa ok3 (zaa ok4 zaC)))))))) (fun a S=>?_)
 refine wsp fun K1 hK1=>?_
 refine tb S 0 (lP b1 x1 y1 b2 x2 y2) fun g1 a V1 hgg1 S=>?_
 refine tb S 2 (lP b3 x3 y3 b4 x4 y4) fun g2 a V2 hgg2 S=>?_
 refine ti S (cs:=lZ) (zay rfl (Tryz.zeroValue27 _) rfl) (fun g3=>[⟨g1,29,(lP b1 x1 y1 b2 x2 y2)⟩,⟨g2,29,(lP b3 x3 y3 b4 x4 y4)⟩,⟨g3,27,lZ⟩]) fun g3 a V3 hgg3 S=>?_
 refine hK1 _ _ ?_
 refine wp_seq_k fun K2 hK2=>?_
 obtain⟨W1,hW1⟩:∃W,W=V3:=⟨_,rfl⟩
 rw[←hW1]at S ⊢
 have S0:=S
 refine fr 13 [5,6,7,8,9,10,11,12,13,14,15,16,17] [IsV (pT g1 0),IsV ((aG b1 x1 y1)),IsV (pT g2 3),IsV ((aG b4 x4 y4)),QL (max K K') 6 ([q1,q2']),QT (2*(max (max K K') 1)) (q1*(q2')),IsV (pT g1 3),IsV ((aG b2 x2 y2)),IsV (pT g2 0),IsV ((aG b3 x3 y3)),QL (max K K') 6 ([q1',q2]),QT (2*(max (max K K') 1)) ((q1')*q2),QT ((max (2*(max (max K K') 1)) 1)+(max (2*(max (max K K') 1)) 1)+1) ((q1*(q2')) - ((q1')*q2))] S ?_ ?_
 ·refine sc (fun _ _ S _ _=>sv rfl (zae rfl (S.at 2 rfl) (zaT _))) ?_
  refine sc (fun _ _ S _ hd=>sv rfl (zak rfl (hd.v 0 rfl rfl) (S.bx 0 rfl) Tryz.underlying27 rfl (vs:=(aL b1 x1 y1)) zas rfl)) ?_
  refine sc (fun _ _ S _ _=>sv rfl (zae rfl (S.at 1 rfl) (za8 _))) ?_
  refine sc (fun _ _ S _ hd=>sv rfl (zak rfl (hd.v 2 rfl rfl) (S.bx 1 rfl) Tryz.underlying27 rfl (vs:=(aL b4 x4 y4)) zas rfl)) ?_
  refine sc (fun _ _ S _ hd=>sy rfl (zet rfl (hd.v 1 rfl rfl) (hd.v 3 rfl rfl) (((q2m S 4 hq1 hk1 hk2)).to rfl (by omega)) (((q2m S 2 hq4 hk7 hk8)).to rfl (by omega)))) ?_
  refine sc (fun _ _ S _ hd=>sl rfl (rc1 Tryz.func65 rfl) (zsE (T.keep S.below) ((hd.r 4 rfl rfl)).row (by omega))) ?_
  refine sc (fun _ _ S _ _=>sv rfl (zae rfl (S.at 2 rfl) (za8 _))) ?_
  refine sc (fun _ _ S _ hd=>sv rfl (zak rfl (hd.v 6 rfl rfl) (S.bx 0 rfl) Tryz.underlying27 rfl (vs:=(aL b2 x2 y2)) zas rfl)) ?_
  refine sc (fun _ _ S _ _=>sv rfl (zae rfl (S.at 1 rfl) (zaT _))) ?_
  refine sc (fun _ _ S _ hd=>sv rfl (zak rfl (hd.v 8 rfl rfl) (S.bx 1 rfl) Tryz.underlying27 rfl (vs:=(aL b3 x3 y3)) zas rfl)) ?_
  refine sc (fun _ _ S _ hd=>sy rfl (zet rfl (hd.v 7 rfl rfl) (hd.v 9 rfl rfl) (((q2m S 6 hq2 hk3 hk4)).to rfl (by omega)) (((q2m S 0 hq3 hk5 hk6)).to rfl (by omega)))) ?_
  refine sc (fun _ _ S _ hd=>sl rfl (rc1 Tryz.func65 rfl) (zsE (T.keep S.below) ((hd.r 10 rfl rfl)).row (by omega))) ?_
  refine sc (fun _ _ S _ hd=>sl rfl (rc2 Tryz.func64 rfl rfl) (zss (T.keep S.below) ((hd.r 5 rfl rfl)).any ((hd.r 11 rfl rfl)).any (by omega) (by omega))) ?_
  exact sn
 ·intro a1 V4 S hB hf
  obtain⟨b5,x5,y5,hv1,hq5,hk9,hk10,ok9,ok10⟩:=hf.r 12 rfl rfl
  have S:=S.add hv1
  have S:=S.know ok9
  have S:=S.know ok10
  clear hf S0
  show wpList _ _ _ [_] _ _
  refine zaB S (i:=2) (vs:=(aL b5 x5 y5)) rfl (fun ht=>zaw rfl (S.at 1 rfl) (S.at 0 rfl) zas rfl (zu0 rfl) ht) (zu0 rfl) rfl rfl rfl (lb':=[⟨g1,29,(lP b1 x1 y1 b2 x2 y2)⟩,⟨g2,29,(lP b3 x3 y3 b4 x4 y4)⟩,⟨g3,27,(aL b5 x5 y5)⟩]) rfl (fun V5 S=>?_)
  refine hK2 _ _ ?_
  refine wp_ret ?_
  exact zaW rfl S (S.at 1 rfl) (i:=2) rfl Tryz.underlying27 rfl zas ⟨_,rfl,((show QT ((max (2*(max (max K K') 1)) 1)+(max (2*(max (max K K') 1)) 1)+1) ((q1*(q2')) - ((q1')*q2)) ((aG b5 x5 y5)) _ from⟨b5,x5,y5,rfl,hq5,hk9,hk10,(S.num 1 rfl),(S.num 0 rfl)⟩)).to rfl (by omega),S.below⟩
section
variable (T : TT V)
include T
theorem zsk (h1:P1 K q1 q1' v1 V)(h2:P1 K' q2 q2' v2 V)(b:K≤300)(b':K'≤300):Calls Tryz.prog 38 #[v1,v2] V (zaj V (QT (2*(max K 1+max K' 1)+1) (q1*q2' - q1'*q2))):=
 zbA (ztU T h1 h2 b b') (fun _ _ h=>h.smk (((h1.sm.1.mul h2.sm.2).sub (h1.sm.2.mul h2.sm.1)).mono (by omega)))
end
theorem zuJ {K K':Nat}{q1 q1' q2 q2':Rat}{v1 v2:Value}{V:World}(T:TT V)(h1:P1 K (q1) (q1') v1 V)(h2:P1 K' (q2) (q2') v2 V)(hK0:K≤400)(hK1:K'≤400):
  Calls Tryz.prog 71 #[v1,v2] V (zaj V (fun v _=>v= .int .i64 (zaQ q1 q1' q2 q2'))):=by
 obtain⟨b1,x1,y1,b2,x2,y2,rfl,hq1,hq2,⟨hk1,hk2⟩,⟨hk3,hk4⟩,⟨ok1,ok2⟩,ok3,ok4⟩:=h1
 obtain⟨b3,x3,y3,b4,x4,y4,rfl,hq3,hq4,⟨hk5,hk6⟩,⟨hk7,hk8⟩,⟨ok5,ok6⟩,ok7,ok8⟩:=h2
 refine fb Tryz.func71 Tryz.ntmps71 (zaa ok5 (zaa ok6 (zaa ok7 (zaa ok8 (zaa ok1 (zaa ok2 (zaa ok3 (zaa ok4 zaC)))))))) (fun a S=>?_)
 refine wsp fun K1 hK1=>?_
 refine tb S 0 (lP b1 x1 y1 b2 x2 y2) fun g1 a V1 hgg1 S=>?_
 refine tb S 2 (lP b3 x3 y3 b4 x4 y4) fun g2 a V2 hgg2 S=>?_
 refine ac S fun a S=>?_
 refine hK1 _ _ ?_
 refine wp_seq_k fun K2 hK2=>?_
 refine wsp fun K3 hK3=>?_
 refine tv S (zae rfl (S.at 2 rfl) (zaT _)) fun a S=>?_
 refine tv S (zak rfl (S.at 0 rfl) (S.bx 0 rfl) Tryz.underlying27 rfl (vs:=(aL b1 x1 y1)) zas rfl) fun a S=>?_
 refine tv S (zae rfl (S.at 3 rfl) (zaT _)) fun a S=>?_
 refine tv S (zak rfl (S.at 0 rfl) (S.bx 1 rfl) Tryz.underlying27 rfl (vs:=(aL b3 x3 y3)) zas rfl) fun a S=>?_
 refine tc S (rc2 Tryz.func49 (S.at 2 rfl) (S.at 0 rfl)) (zgn (T.keep S.below) (q2m S 4 hq1 hk1 hk2) (q2m S 0 hq3 hk5 hk6) (by omega) (by omega)) fun v a V3 hF hb S=>?_
 subst hF
 refine tv S (zac rfl (S.at 0 rfl)) fun a S=>?_
 refine hK3 _ _ ?_
 refine wsp fun K4 hK4=>?_
 refine mv S 0 fun a S=>?_
 refine tv S (zd6 _ (by decide) rfl (S.at 0 rfl) rfl) fun a S=>?_
 refine hK4 _ _ ?_
 rcases zva (!decide (zag q1 q2=0))with hc12|hc12
 ·refine wp_cond_true ((S.at 0 rfl).trans (congrArg Value.bool hc12)) ?_
  refine wsp fun K5 hK5=>?_
  refine mv S 2 fun a S=>?_
  refine zav S (v:= .int .i64 (zag q1 q2)) (zac rfl (S.at 0 rfl)) rfl rfl (by decide) (ls':=[(13,.int .i64 (zag q1 q2)),(12,.bool (!decide (zag q1 q2=0))),(11,.int .i64 (zag q1 q2)),(5,.int .i64 (zag q1 q2)),(10,.int .i64 (zag q1 q2)),(9,(aG b3 x3 y3)),(8,pT g2 0),(7,(aG b1 x1 y1)),(6,pT g1 0),(3,pT g2 0),(2,pT g1 0),(0,(aP b1 x1 y1 b2 x2 y2)),(1,(aP b3 x3 y3 b4 x4 y4))]) rfl (fun a S=>?_)
  refine hK5 _ _ ?_
  refine wp_ret ?_
  exact zao rfl S (S.at 0 rfl) ⟨_,rfl,congrArg (Value.int .i64) (zq5 hc12),S.below⟩
 ·refine wp_cond_false ((S.at 0 rfl).trans (congrArg Value.bool hc12)) ?_
  refine wp_skip ?_
  refine hK2 _ _ ?_
  refine wsp fun K6 hK6=>?_
  refine tv S (zae rfl (S.at 10 rfl) (za8 _)) fun a S=>?_
  refine tv S (zak rfl (S.at 0 rfl) (S.bx 0 rfl) Tryz.underlying27 rfl (vs:=(aL b2 x2 y2)) zas rfl) fun a S=>?_
  refine tv S (zae rfl (S.at 11 rfl) (za8 _)) fun a S=>?_
  refine tv S (zak rfl (S.at 0 rfl) (S.bx 1 rfl) Tryz.underlying27 rfl (vs:=(aL b4 x4 y4)) zas rfl) fun a S=>?_
  refine tc S (rc2 Tryz.func49 (S.at 2 rfl) (S.at 0 rfl)) (zgn (T.keep S.below) (q2m S 6 hq2 hk3 hk4) (q2m S 2 hq4 hk7 hk8) (by omega) (by omega)) fun v a V4 hF hb S=>?_
  subst hF
  refine zav S (v:= .int .i64 (zag (q1') (q2'))) (zac rfl (S.at 0 rfl)) rfl rfl (by decide) (ls':=[(18,.int .i64 (zag (q1') (q2'))),(17,(aG b4 x4 y4)),(16,pT g2 3),(15,(aG b2 x2 y2)),(14,pT g1 3),(12,.bool (!decide (zag q1 q2=0))),(11,.int .i64 (zag q1 q2)),(5,.int .i64 (zag q1 q2)),(10,.int .i64 (zag q1 q2)),(9,(aG b3 x3 y3)),(8,pT g2 0),(7,(aG b1 x1 y1)),(6,pT g1 0),(3,pT g2 0),(2,pT g1 0),(0,(aP b1 x1 y1 b2 x2 y2)),(1,(aP b3 x3 y3 b4 x4 y4))]) rfl (fun a S=>?_)
  refine hK6 _ _ ?_
  refine wp_ret ?_
  exact zao rfl S (S.at 0 rfl) ⟨_,rfl,congrArg (Value.int .i64) (zq6 hc12),S.below⟩
theorem zuK {K K':Nat}{q1 q1' q2 q2':Rat}{v1 v2:Value}{V:World}(T:TT V)(h1:P1 K (q1) (q1') v1 V)(h2:P1 K' (q2) (q2') v2 V)(hK0:K≤400)(hK1:K'≤400):
  Calls Tryz.prog 48 #[v1,v2] V (zaj V (fun v _=>v= .bool (decide (zaQ q1 q1' q2 q2'=0)))):=by
 obtain⟨b1,x1,y1,b2,x2,y2,rfl,hq1,hq2,⟨hk1,hk2⟩,⟨hk3,hk4⟩,⟨ok1,ok2⟩,ok3,ok4⟩:=h1
 obtain⟨b3,x3,y3,b4,x4,y4,rfl,hq3,hq4,⟨hk5,hk6⟩,⟨hk7,hk8⟩,⟨ok5,ok6⟩,ok7,ok8⟩:=h2
 refine fb Tryz.func48 Tryz.ntmps48 (zaa ok5 (zaa ok6 (zaa ok7 (zaa ok8 (zaa ok1 (zaa ok2 (zaa ok3 (zaa ok4 zaC)))))))) (fun a S=>?_)
 refine wsp fun K1 hK1=>?_
 refine tb S 0 (lP b1 x1 y1 b2 x2 y2) fun g1 a V1 hgg1 S=>?_
 refine tb S 2 (lP b3 x3 y3 b4 x4 y4) fun g2 a V2 hgg2 S=>?_
 refine ac S fun a S=>?_
 refine hK1 _ _ ?_
 refine wp_seq_k fun K2 hK2=>?_
 rcases zva (decide (zag q1 q2=0))with hs1|hs1
 ·skip
  refine zam ?_
  refine tv S (zae rfl (S.at 2 rfl) (zaT _)) fun a S=>?_
  refine tv S (zak rfl (S.at 0 rfl) (S.bx 0 rfl) Tryz.underlying27 rfl (vs:=(aL b1 x1 y1)) zas rfl) fun a S=>?_
  refine tv S (zae rfl (S.at 3 rfl) (zaT _)) fun a S=>?_
  refine tv S (zak rfl (S.at 0 rfl) (S.bx 1 rfl) Tryz.underlying27 rfl (vs:=(aL b3 x3 y3)) zas rfl) fun a S=>?_
  refine tc S (F:=(fun v _=>v= .bool true)) (rc2 Tryz.func72 (S.at 2 rfl) (S.at 0 rfl)) (zbA (zlB (T.keep S.below) (q2m S 4 hq1 hk1 hk2) (q2m S 0 hq3 hk5 hk6) (by omega) (by omega)) (fun _ _ h=>h.trans (congrArg Value.bool (show(decide (zag q1 q2=0))=true from hs1)))) fun v a V3 hF hb S=>?_
  subst hF
  refine mv S 0 fun a S=>?_
  refine tvg S (S.at 0 rfl) (zae rfl (S.at 8 rfl) (za8 _)) fun a S=>?_
  refine tvg S (S.at 1 rfl) (zak rfl (S.at 0 rfl) (S.bx 0 rfl) Tryz.underlying27 rfl (vs:=(aL b2 x2 y2)) zas rfl) fun a S=>?_
  refine tvg S (S.at 2 rfl) (zae rfl (S.at 9 rfl) (za8 _)) fun a S=>?_
  refine tvg S (S.at 3 rfl) (zak rfl (S.at 0 rfl) (S.bx 1 rfl) Tryz.underlying27 rfl (vs:=(aL b4 x4 y4)) zas rfl) fun a S=>?_
  refine tcg S (S.at 4 rfl) (rc2 Tryz.func72 (S.at 2 rfl) (S.at 0 rfl)) (zlB (T.keep S.below) (q2m S 6 hq2 hk3 hk4) (q2m S 2 hq4 hk7 hk8) (by omega) (by omega)) fun v a V4 hF hb S=>?_
  subst hF
  refine tv S (zap true rfl (S.at 5 rfl) (S.at 0 rfl)) fun a S=>?_
  refine zav S (v:= .bool (decide (zag (q1') (q2')=0))) (zac rfl (S.at 0 rfl)) rfl rfl (by decide) (ls':=[(16,.bool (decide (zag (q1') (q2')=0))),(15,.bool (decide (zag (q1') (q2')=0))),(14,(aG b4 x4 y4)),(13,pT g2 3),(12,(aG b2 x2 y2)),(11,pT g1 3),(10,.bool true),(9,.bool true),(8,(aG b3 x3 y3)),(7,pT g2 0),(6,(aG b1 x1 y1)),(5,pT g1 0),(3,pT g2 0),(2,pT g1 0),(0,(aP b1 x1 y1 b2 x2 y2)),(1,(aP b3 x3 y3 b4 x4 y4))]) rfl (fun a S=>?_)
  refine hK2 _ _ ?_
  refine wp_ret ?_
  exact zao rfl S (S.at 0 rfl) ⟨_,rfl,congrArg Value.bool (zsi hs1),S.below⟩
 ·skip
  refine zam ?_
  refine tv S (zae rfl (S.at 2 rfl) (zaT _)) fun a S=>?_
  refine tv S (zak rfl (S.at 0 rfl) (S.bx 0 rfl) Tryz.underlying27 rfl (vs:=(aL b1 x1 y1)) zas rfl) fun a S=>?_
  refine tv S (zae rfl (S.at 3 rfl) (zaT _)) fun a S=>?_
  refine tv S (zak rfl (S.at 0 rfl) (S.bx 1 rfl) Tryz.underlying27 rfl (vs:=(aL b3 x3 y3)) zas rfl) fun a S=>?_
  refine tc S (F:=(fun v _=>v= .bool false)) (rc2 Tryz.func72 (S.at 2 rfl) (S.at 0 rfl)) (zbA (zlB (T.keep S.below) (q2m S 4 hq1 hk1 hk2) (q2m S 0 hq3 hk5 hk6) (by omega) (by omega)) (fun _ _ h=>h.trans (congrArg Value.bool (show(decide (zag q1 q2=0))=false from hs1)))) fun v a V5 hF hb S=>?_
  subst hF
  refine mv S 0 fun a S=>?_
  refine tk S (S.at 0 rfl) fun a S=>?_
  refine tk S (S.at 1 rfl) fun a S=>?_
  refine tk S (S.at 2 rfl) fun a S=>?_
  refine tk S (S.at 3 rfl) fun a S=>?_
  refine tk S (S.at 4 rfl) fun a S=>?_
  refine tv S (zap false rfl (S.at 5 rfl) rfl) fun a S=>?_
  refine zav S (v:= .bool false) (zac rfl (S.at 0 rfl)) rfl rfl (by decide) (ls':=[(16,.bool false),(15,undef),(14,undef),(13,undef),(12,undef),(11,undef),(10,.bool false),(9,.bool false),(8,(aG b3 x3 y3)),(7,pT g2 0),(6,(aG b1 x1 y1)),(5,pT g1 0),(3,pT g2 0),(2,pT g1 0),(0,(aP b1 x1 y1 b2 x2 y2)),(1,(aP b3 x3 y3 b4 x4 y4))]) rfl (fun a S=>?_)
  refine hK2 _ _ ?_
  refine wp_ret ?_
  exact zao rfl S (S.at 0 rfl) ⟨_,rfl,congrArg Value.bool (zsj hs1),S.below⟩
end
theorem zmo {n m:Int}{V:World}(hn:(-9223372036854775808≤n∧n≤9223372036854775807)∧ -9223372036854775808≤m∧m≤9223372036854775807):
  Calls Tryz.prog 34 #[.int .i64 n,.int .i64 m] V (zaj V (PT 2 ((n:Int):Rat) ((m:Int):Rat))):=by
 refine fb Tryz.func34 Tryz.ntmps34 zaC (fun a S=>?_)
 refine wsp fun K1 hK1=>?_
 refine ti S (cs:=lY) (zay rfl (Tryz.zeroValue29 _) rfl) (fun g1=>[⟨g1,29,lY⟩]) fun g1 a V1 hgg1 S=>?_
 refine hK1 _ _ ?_
 refine wsp fun K2 hK2=>?_
 refine mv S 1 fun a S=>?_
 refine tc S (F:=QT 2 ((n:Int))) (rc1 Tryz.func32 (S.at 0 rfl)) (zrQ (n:=n) (by omega)) fun v a V2 hF hb S=>?_
 obtain⟨b1,x1,y1,rfl,hq1,hk1,hk2,ok1,ok2⟩:=hF
 have S:=S.know ok1
 have S:=S.know ok2
 refine mv S 4 fun a S=>?_
 refine tc S (F:=QT 2 ((m:Int))) (rc1 Tryz.func32 (S.at 0 rfl)) (zrQ (n:=m) (by omega)) fun v a V3 hF hb S=>?_
 obtain⟨b2,x2,y2,rfl,hq2,hk3,hk4,ok3,ok4⟩:=hF
 have S:=S.know ok3
 have S:=S.know ok4
 refine tv S (zbo rfl (S.at 2 rfl) (S.at 0 rfl) (zq4 _ _ _ _ _ _ _ _ _ _ _ _ _ _)) fun a S=>?_
 refine zaB S (i:=0) (vs:=(lP b1 x1 y1 b2 x2 y2)) rfl (fun ht=>zaw rfl (S.at 5 rfl) (S.at 0 rfl) zba rfl (zu0 rfl) ht) (zu0 rfl) rfl rfl rfl (lb':=[⟨g1,29,(lP b1 x1 y1 b2 x2 y2)⟩]) rfl (fun V4 S=>?_)
 refine hK2 _ _ ?_
 refine wp_ret ?_
 exact zaW rfl S (S.at 5 rfl) (i:=0) rfl Tryz.underlying29 rfl zba ⟨_,rfl,((show PT 2 ((n:Int)) ((m:Int)) ((aP b1 x1 y1 b2 x2 y2)) _ from⟨b1,x1,y1,b2,x2,y2,rfl,hq1,hq2,⟨hk1,hk2⟩,⟨hk3,hk4⟩,⟨(S.num 3 rfl),(S.num 2 rfl)⟩,(S.num 1 rfl),(S.num 0 rfl)⟩)).to rfl rfl (by omega),S.below⟩
section
variable {q q' q1 q1' q2 q2' q3 q3' r:Rat}
theorem zcW {a b:Rat}:zag a b=0↔a=b:=⟨fun h=>by have:=zcE.1 h;grind,fun h=>zcE.2 (by grind)⟩
theorem zk9:zaQ q1 q1' q2 q2'=0↔q1=q2∧q1'=q2':=by
 unfold zaQ
 by_cases h:zag q1 q2=0
 ·rw[if_pos h,zcW];exact⟨fun h2=>⟨zcW.1 h,h2⟩,fun h2=>h2.2⟩
 ·rw[if_neg h];exact⟨fun h2=>absurd h2 h,fun h2=>absurd (zcW.2 h2.1) h⟩
end
def pv (p:PEl):Rat×Rat:=(qOf p.1 p.2.1.N p.2.2.1.N,qOf p.2.2.2.1 p.2.2.2.2.1.N p.2.2.2.2.2.N)
def zbX (K:Nat)(p:PEl):Prop:=(p.2.1.n≤K∧p.2.2.1.n≤K)∧p.2.2.2.2.1.n≤K∧p.2.2.2.2.2.n≤K
def PRow (K:Nat)(qs:List (Rat×Rat))(v:Value)(V:World):Prop:=∃(A:Option Addr) (c:Nat) (l:List PEl),v= .slice A l.length c∧PRds V V.heap.size A l∧l.map pv=qs∧(∀p∈l,zbX K p)∧l.length≤1000∧l.length≤c∧c≤maxLen
def zsG (K:Nat)(q:Rat×Rat)(p:PEl):Prop:=IsQ q.1 p.1 p.2.1 p.2.2.1∧IsQ q.2 p.2.2.2.1 p.2.2.2.2.1 p.2.2.2.2.2∧zbX K p
def TolD (K:Nat)(qs:List (Rat×Rat))(l:List PEl):Prop:=l.length=qs.length∧∀k (h:k<l.length) (h':k<qs.length),zsG K qs[k] l[k]
def TRow (K:Nat)(qs:List (Rat×Rat))(v:Value)(V:World):Prop:=∃(A:Option Addr) (c:Nat) (l:List PEl),v= .slice A l.length c∧PRds V V.heap.size A l∧TolD K qs l∧l.length≤1000∧l.length≤c∧c≤maxLen
section
variable {K K' n:Nat}{qs:List (Rat × Rat)}{v:Value}{V V':World}{l:List PEl}{q:Rat × Rat}{p:PEl}
theorem TolD.nil:TolD K [] []:=⟨rfl,fun _ h=>by cases h⟩
theorem TolD.pv (h:TolD K qs l):l.map pv=qs:=by
 refine List.ext_getElem (by simp[h.1]) fun k h1 h2=>?_
 rw[List.getElem_map]
 obtain⟨a,b,-⟩:=h.2 k (by simpa using h1) h2
 exact Prod.ext a.q b.q
theorem TRow.any (h:TRow K qs v V):PRow K qs v V:=by
 obtain⟨A,c,l,h1,h2,h3,h4⟩:=h
 refine⟨A,c,l,h1,h2,h3.pv,fun p hp=>?_,h4⟩
 obtain⟨k,hk,rfl⟩:=List.getElem_of_mem hp
 exact(h3.2 k hk (by rw[←h3.1];exact hk)).2.2
theorem TRow.keep (h:TRow K qs v V)(hb:Below V.heap.size V V'):TRow K qs v V':=by
 obtain⟨A,c,l,h1,h2,h3⟩:=h;exact⟨A,c,l,h1,(h2.below hb).more hb.size,h3⟩
theorem PRow.keep (h:PRow K qs v V)(hb:Below V.heap.size V V'):PRow K qs v V':=by
 obtain⟨A,c,l,h1,h2,h3⟩:=h;exact⟨A,c,l,h1,(h2.below hb).more hb.size,h3⟩
instance:Keeps (TRow K qs):=⟨fun h hb=>TRow.keep h hb⟩
instance:Keeps (PRow K qs):=⟨fun h hb=>PRow.keep h hb⟩
theorem GP.row (h:GP l v V)(hk:∀p∈l,zbX K p)(hl:l.length≤1000)(hq:l.map Go.Proofs.YtdeelcoipmdoiaaGreatDoor.pv=qs):PRow K qs v V:=by
 obtain⟨A,c,h1,h2,h3,h4,h5⟩:=h;exact⟨A,c,l,h1,h2,hq,hk,hl,h4,h5⟩
def ze8 (ps:List PEl):List Num:=(ps.reverse.map fun p=>[p.2.1,p.2.2.1,p.2.2.2.2.1,p.2.2.2.2.2]).flatten
theorem zoQ {ps:List PEl}{p:PEl}(h:p∈ps):(p.2.1∈ze8 ps∧p.2.2.1∈ze8 ps)∧p.2.2.2.2.1∈ze8 ps∧p.2.2.2.2.2∈ze8 ps:=by
 have key:∀z,z∈[p.2.1,p.2.2.1,p.2.2.2.2.1,p.2.2.2.2.2]→z∈ze8 ps:=fun z hz=>List.mem_flatten.2 ⟨_,List.mem_map.2 ⟨p,List.mem_reverse.2 h,rfl⟩,hz⟩
 exact⟨⟨key _ (by simp),key _ (by simp)⟩,key _ (by simp),key _ (by simp)⟩
def z6:PEl:=(false,⟨none,0,0,0⟩,⟨none,0,0,0⟩,false,⟨none,0,0,0⟩,⟨none,0,0,0⟩)
theorem zea (p:PEl)(l:List PEl):zaK (p::l)=zaD p++zaK l:=by simp[zaK]
theorem zdi (l l':List PEl):zaK (l++l')=zaK l++zaK l':=by simp[zaK]
theorem zeb:∀l:List PEl,(zaK l).all za1=true
 |[]=>rfl
 |p::l=>by rw[zea,List.all_append,zeb l];rfl
theorem zoR (ps rest:List PEl)(x y:PEl):zbz (zaK (ps++y::rest)) (ps.length*6) (zaD x)=zaK (ps++[x]++rest):=by
 have h:=zfW (zaD x) (zaK ps) (zaD y) (zaK rest) rfl
 rw[zcr]at h
 rw[zdi,zea,←List.append_assoc,h,zdi,zdi]
 simp[zaK]
theorem zsl:(Tryz.prog.info? 29).map (fun i=>(i.zero,i.size,i.bytes))=some (some (.agg #[.bool false,.slice none 0 0,.slice none 0 0,.bool false,.slice none 0 0,.slice none 0 0]),6,112):=by kernel_rfl
theorem zuL (n:Nat):madeCells #[.bool false,.slice none 0 0,.slice none 0 0,.bool false,.slice none 0 0,.slice none 0 0] (n*6)=(zaK (List.replicate n z6)).toArray:=by
 apply Array.ext_getElem?
 intro i
 rw[show(zaK (List.replicate n z6)).toArray[i]?=(zaK (List.replicate n z6))[i]? from by simp]
 by_cases h1:i<n*6
 ·have hk:i/6<(List.replicate n z6).length:=by rw[List.length_replicate];omega
  have e:=zhO hk (i:=i%6) (by omega)
  have ei:i/6*6+i%6=i:=by omega
  rw[ei,List.getElem_replicate]at e
  rw[e]
  have e3:(madeCells #[.bool false,.slice none 0 0,.slice none 0 0,.bool false,.slice none 0 0,.slice none 0 0] (n*6))[i]?=some (#[Value.bool false,.slice none 0 0,.slice none 0 0,.bool false,.slice none 0 0,.slice none 0 0][i%6]!):=by
   simp[madeCells,h1]
  rw[e3]
  rcases(by omega:i%6=0∨i%6=1∨i%6=2∨i%6=3∨i%6=4∨i%6=5)with h|h|h|h|h|h <;> rw[h] <;> rfl
 ·rw[Array.getElem?_eq_none (by rw[size_madeCells];omega),List.getElem?_eq_none (by rw[zcr,List.length_replicate];omega)]
end
section
variable {n:Nat}{ls:List (Tmp × Value)}{lb:List Bx}{w V:World}{e:List Num}{a:Act}{o:Oper}{t:Tmp}{v:Value}{ops:Array Oper}{Q:Exit → Act → World → Prop}{rest:List Oper}{P:Program}
end
section
variable {q q' q1 q1' q2 q2' q3 q3':Rat}
theorem zcA (q1 q1' q2 q2':Rat): -1≤zaQ q1 q1' q2 q2'∧zaQ q1 q1' q2 q2'≤1:=by
 unfold zaQ;split
 ·exact zdn _ _
 ·exact zdn _ _
theorem zla (q1 q1' q2 q2':Rat):zaQ q2 q2' q1 q1'= -zaQ q1 q1' q2 q2':=by
 unfold zaQ
 rw[zdS q1 q2,zdS q1' q2']
 by_cases h:zag q1 q2=0
 ·rw[if_pos h,if_pos (by omega)]
 ·rw[if_neg h,if_neg (by omega)]
def ElP (K:Nat)(q q':Rat)(v:Value)(V:World):Prop:=∃(A:Option Addr) (m:Nat) (b:Bool) (x y:Num) (b':Bool) (x' y':Num),v= .pointer (some (zbc A m))∧(∃ad,A=some ad∧ad.block<V.heap.size)∧ElAt V A m b x y b' x' y'∧PT K q q' (.agg #[.bool b,.slice x.A x.n x.c,.slice y.A y.n y.c,.bool b',.slice x'.A x'.n x'.c,.slice y'.A y'.n y'.c]) V
section
variable {K n:Nat}{qs:List (Rat × Rat)}{v v1:Value}{V V':World}{a:Act}{o:Oper}{t1 t2:Tmp}
theorem ElP.keep (h:ElP K q q' v V)(hb:Below V.heap.size V V'):ElP K q q' v V':=by
 obtain⟨A,m,b,x,y,b',x',y',h1,⟨ad,rfl,h2⟩,h3,h4⟩:=h
 have hc:∀ {i:Nat} {u:Value},V.cell? (zbc (some ad) i)=some u→V'.cell? (zbc (some ad) i)=some u:=fun h=>(hb.cell (by show(ad.add _).block<_;rw[zaG];exact h2)).trans h
 exact⟨_,m,b,x,y,b',x',y',h1,⟨ad,rfl,zu4 h2 hb.size⟩,⟨h3.s,hc h3.c0,hc h3.c1,hc h3.c2,hc h3.c3,hc h3.c4,hc h3.c5⟩,h4.keep hb⟩
instance:Keeps (ElP K q q'):=⟨fun h hb=>ElP.keep h hb⟩
end
end
theorem zsH (n:Nat):Builtin.zeroCells #[.bool false,.slice none 0 0,.slice none 0 0,.bool false,.slice none 0 0,.slice none 0 0] n=(zaK (List.replicate n z6)).toArray:=by
 rw[←zuL];rfl
section
variable {n:Nat}{ls:List (Tmp × Value)}{lb:List Bx}{w V:World}{e:List Num}{a:Act}{o:Oper}{t t1 t2:Tmp}{v:Value}{ops:Array Oper}{Q:Exit → Act → World → Prop}{rest:List Oper}
end
def PL1 (K:Nat)(q q':Rat)(v:Value)(V:World):Prop:=∃(g:Nat) (p:PEl),v= .slice (some ⟨g,0,none⟩) 1 1∧V.heap[g]?=some (.cells (zaD p).toArray 29 (0,0))∧zsG K (q,q') p∧(p.2.1.ok V V.heap.size∧p.2.2.1.ok V V.heap.size)∧p.2.2.2.2.1.ok V V.heap.size∧p.2.2.2.2.2.ok V V.heap.size
theorem PL1.keep {K:Nat}{q q':Rat}{v:Value}{V V':World}(h:PL1 K q q' v V)(hb:Below V.heap.size V V'):PL1 K q q' v V':=by
 obtain⟨g,p,h1,h2,h3,⟨h4,h5⟩,h6,h7⟩:=h
 exact⟨g,p,h1,(hb.block g (Array.getElem?_eq_some_iff.1 h2).1).trans h2,h3,⟨h4.later hb,h5.later hb⟩,h6.later hb,h7.later hb⟩
instance {K:Nat} {q q':Rat}:Keeps (PL1 K q q'):=⟨fun h hb=>PL1.keep h hb⟩
end Go.Proofs.YtdeelcoipmdoiaaGreatDoor
