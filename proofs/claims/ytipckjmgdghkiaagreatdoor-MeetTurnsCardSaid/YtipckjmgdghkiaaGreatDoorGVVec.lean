/- Contracts of package vec: points, part by part. -/
import Derived.Test.YtipckjmgdghkiaaGreatDoorGVPt
set_option maxHeartbeats 4000000
set_option maxRecDepth 100000
namespace Go.Proofs.YtipckjmgdghkiaaGreatDoor
open Go Go.RowKit
section
variable {v v1 v2:Value}{V V' W:World}{K K':Nat}{q q' q1 q1' q2 q2':Rat}
theorem zvU {K:Nat}{q q':Rat}{v1:Value}{V:World}(h1:P1 K (q) (q') v1 V):
  Calls Tryz.prog 128 #[v1] V (zag V (Q1 K q)):=by
 obtain⟨b1,x1,y1,b2,x2,y2,rfl,hq1,hq2,⟨hk1,hk2⟩,⟨hk3,hk4⟩,⟨ok1,ok2⟩,ok3,ok4⟩:=h1
 refine fb Tryz.func128 Tryz.ntmps128 (zaa ok1 (zaa ok2 (zaa ok3 (zaa ok4 zav)))) (fun a S=>?_)
 refine wsp fun K1 hK1=>?_
 refine tb S 0 (lP b1 x1 y1 b2 x2 y2) fun g1 a V1 hgg1 S=>?_
 refine ti S (cs:=lZ) (zam rfl (Tryz.zeroValue27 _) rfl) (fun g2=>[⟨g1,29,(lP b1 x1 y1 b2 x2 y2)⟩,⟨g2,27,lZ⟩]) fun g2 a V2 hgg2 S=>?_
 refine hK1 _ _ ?_
 refine wsp fun K2 hK2=>?_
 refine tv S (zab rfl (S.at 1 rfl) (zaS _)) fun a S=>?_
 refine tv S (zad rfl (S.at 0 rfl) (S.bx 0 rfl) Tryz.underlying27 rfl (vs:=(aL b1 x1 y1)) zak rfl) fun a S=>?_
 refine sto S 1 (fun ht=>zai rfl (S.at 2 rfl) (S.at 0 rfl) zak rfl (zv5 rfl) ht) fun V3 S=>?_
 refine hK2 _ _ ?_
 refine wp_ret ?_
 exact zas rfl S (S.at 2 rfl) (i:=1) rfl Tryz.underlying27 rfl zak ⟨_,rfl,(q2m S 0 hq1 hk1 hk2),S.below⟩
theorem zvV {K:Nat}{q q':Rat}{v1:Value}{V:World}(h1:P1 K (q) (q') v1 V):
  Calls Tryz.prog 129 #[v1] V (zag V (Q1 K q')):=by
 obtain⟨b1,x1,y1,b2,x2,y2,rfl,hq1,hq2,⟨hk1,hk2⟩,⟨hk3,hk4⟩,⟨ok1,ok2⟩,ok3,ok4⟩:=h1
 refine fb Tryz.func129 Tryz.ntmps129 (zaa ok1 (zaa ok2 (zaa ok3 (zaa ok4 zav)))) (fun a S=>?_)
 refine wsp fun K1 hK1=>?_
 refine tb S 0 (lP b1 x1 y1 b2 x2 y2) fun g1 a V1 hgg1 S=>?_
 refine ti S (cs:=lZ) (zam rfl (Tryz.zeroValue27 _) rfl) (fun g2=>[⟨g1,29,(lP b1 x1 y1 b2 x2 y2)⟩,⟨g2,27,lZ⟩]) fun g2 a V2 hgg2 S=>?_
 refine hK1 _ _ ?_
 refine wsp fun K2 hK2=>?_
 refine tv S (zab rfl (S.at 1 rfl) (za0 _)) fun a S=>?_
 refine tv S (zad rfl (S.at 0 rfl) (S.bx 0 rfl) Tryz.underlying27 rfl (vs:=(aL b2 x2 y2)) zak rfl) fun a S=>?_
 refine sto S 1 (fun ht=>zai rfl (S.at 2 rfl) (S.at 0 rfl) zak rfl (zv5 rfl) ht) fun V3 S=>?_
 refine hK2 _ _ ?_
 refine wp_ret ?_
 exact zas rfl S (S.at 2 rfl) (i:=1) rfl Tryz.underlying27 rfl zak ⟨_,rfl,(q2m S 2 hq2 hk3 hk4),S.below⟩
theorem zs8:Sel 128 false:=⟨enters_of Tryz.func128 (by kernel_rfl) rfl,fun h=>zvU h⟩
theorem zs9:Sel 129 true:=⟨enters_of Tryz.func129 (by kernel_rfl) rfl,fun h=>zvV h⟩
theorem zfj {f:FuncId}{caps:Array Value}{K:Nat}{q q':Rat}{V:World}(en:∀args w,(callFunc f args).run Tryz.prog w= .ok (.enter f args) w)(hx:∀W,Below V.heap.size V W->Calls Tryz.prog f (#[.func (.func 128) #[] #[]]++caps) W (zag W (QT K q))) (hy:∀W,Below V.heap.size V W->Calls Tryz.prog f (#[.func (.func 129) #[] #[]]++caps) W (zag W (QT K q'))):
  Calls Tryz.prog 91 #[.func (.func f) #[] caps] V (zag V (PT K q q')):=by
 refine fb Tryz.func91 Tryz.ntmps91 zav (fun a S=>?_)
 refine wsp fun K1 hK1=>?_
 refine ti S (cs:=lY) (zam rfl (Tryz.zeroValue29 _) rfl) (fun g1=>[⟨g1,29,lY⟩]) fun g1 a V1 hgg1 S=>?_
 refine hK1 _ _ ?_
 refine wsp fun K2 hK2=>?_
 refine mv S 1 fun a S=>?_
 refine tc S (F:=QT K (q)) (zja en (S.at 0 rfl)) (hx _ S.below) fun v a V2 hF hb S=>?_
 obtain⟨b1,x1,y1,rfl,hq1,hk1,hk2,ok1,ok2⟩:=hF
 have S:=S.know ok1
 have S:=S.know ok2
 refine mv S 3 fun a S=>?_
 refine tc S (F:=QT K (q')) (zja en (S.at 0 rfl)) (hy _ S.below) fun v a V3 hF hb S=>?_
 obtain⟨b2,x2,y2,rfl,hq2,hk3,hk4,ok3,ok4⟩:=hF
 have S:=S.know ok3
 have S:=S.know ok4
 refine tv S (zaW rfl (S.at 2 rfl) (S.at 0 rfl) (zlt _ _ _ _ _ _ _ _ _ _ _ _ _ _)) fun a S=>?_
 refine sto S 0 (fun ht=>zai rfl (S.at 5 rfl) (S.at 0 rfl) zbb rfl (zv5 rfl) ht) fun V4 S=>?_
 refine hK2 _ _ ?_
 refine wp_ret ?_
 exact zas rfl S (S.at 5 rfl) (i:=0) rfl Tryz.underlying29 rfl zbb ⟨_,rfl,⟨b1,x1,y1,b2,x2,y2,rfl,hq1,hq2,⟨hk1,hk2⟩,⟨hk3,hk4⟩,⟨(S.num 3 rfl),(S.num 2 rfl)⟩,(S.num 1 rfl),(S.num 0 rfl)⟩,S.below⟩
structure PtAt (V:World) (g K:Nat) (q q':Rat) (b:Bool) (x y:Num) (b':Bool) (x' y':Num):Prop where
 cell:V.heap[g]?=some (.cells [.bool b,.slice x.A x.n x.c,.slice y.A y.n y.c,.bool b',.slice x'.A x'.n x'.c,.slice y'.A y'.n y'.c].toArray 29 (0,0))
 q:qOf b x.N y.N=q
 q':qOf b' x'.N y'.N=q'
 kx:x.n<=K
 ky:y.n<=K
 kx':x'.n<=K
 ky':y'.n<=K
 ox:x.ok V V.heap.size
 oy:y.ok V V.heap.size
 ox':x'.ok V V.heap.size
 oy':y'.ok V V.heap.size
structure RtAt (V:World) (g K:Nat) (q:Rat) (b:Bool) (x y:Num):Prop where
 cell:V.heap[g]?=some (.cells [.bool b,.slice x.A x.n x.c,.slice y.A y.n y.c].toArray 27 (0,0))
 q:qOf b x.N y.N=q
 kx:x.n<=K
 ky:y.n<=K
 ox:x.ok V V.heap.size
 oy:y.ok V V.heap.size
section
variable {g:Nat}{b b':Bool}{x y x' y':Num}
theorem PtAt.at (h:PtAt V g K q q' b x y b' x' y')(hb:Below V.heap.size V W):W.heap[g]?=some (.cells [.bool b,.slice x.A x.n x.c,.slice y.A y.n y.c,.bool b',.slice x'.A x'.n x'.c,.slice y'.A y'.n y'.c].toArray 29 (0,0)):=
 (hb.block g (Array.getElem?_eq_some_iff.1 h.cell).1).trans h.cell
theorem RtAt.at (h:RtAt V g K q b x y)(hb:Below V.heap.size V W):W.heap[g]?=some (.cells [.bool b,.slice x.A x.n x.c,.slice y.A y.n y.c].toArray 27 (0,0)):=
 (hb.block g (Array.getElem?_eq_some_iff.1 h.cell).1).trans h.cell
theorem PtAt.keep (h:PtAt V g K q q' b x y b' x' y')(hb:Below V.heap.size V W):PtAt W g K q q' b x y b' x' y':=
 ⟨h.at hb,h.q,h.q',h.kx,h.ky,h.kx',h.ky',h.ox.later hb,h.oy.later hb,h.ox'.later hb,h.oy'.later hb⟩
theorem RtAt.keep (h:RtAt V g K q b x y)(hb:Below V.heap.size V W):RtAt W g K q b x y:=⟨h.at hb,h.q,h.kx,h.ky,h.ox.later hb,h.oy.later hb⟩
end
theorem zrP {K:Nat}{q1 q1':Rat}{f0:FuncId}{s:Bool}{g1_:Nat}{b1_ b1b_:Bool}{x1_ y1_ x1b_ y1b_:Num}{V:World}(T:TT V)(hs:Sel f0 s)(B1:PtAt V g1_ K q1 q1' b1_ x1_ y1_ b1b_ x1b_ y1b_)(hK0:K<=400):
  Calls Tryz.prog 168 #[.func (.func f0) #[] #[],pT g1_ 0] V (zag V (QT (max K 1) (sel s q1 q1'))):=by
 refine fb Tryz.func168 Tryz.ntmps168 (zaa B1.ox (zaa B1.oy (zaa B1.ox' (zaa B1.oy' zav)))) (fun a S=>?_)
 refine wsp fun K1 hK1=>?_
 refine ti S (cs:=lZ) (zam rfl (Tryz.zeroValue27 _) rfl) (fun g1=>[⟨g1,27,lZ⟩]) fun g1 a V1 hgg1 S=>?_
 refine hK1 _ _ ?_
 refine wsp fun K2 hK2=>?_
 refine mv S 1 fun a S=>?_
 refine tv S (zad rfl (S.at 3 rfl) (B1.at S.below) Tryz.underlying29 rfl (vs:=(lP b1_ x1_ y1_ b1b_ x1b_ y1b_)) zbb rfl) fun a S=>?_
 refine tc S (F:=Q1 K (sel s q1 (q1'))) (zdr hs.en (S.at 1 rfl) (S.at 0 rfl)) (hs.tells (zdC S 0 B1.q B1.q' B1.kx B1.ky B1.kx' B1.ky')) fun v a V2 hF hb S=>?_
 obtain⟨b1,x1,y1,rfl,hq1,hk1,hk2,ok1,ok2⟩:=hF
 have S:=S.know ok1
 have S:=S.know ok2
 refine tc S (F:=QT (max K 1) (sel s q1 (q1'))) (rc1 Tryz.func169 (S.at 0 rfl)) (zua (T.keep S.below) (show Q1 K (sel s q1 (q1')) ((aG b1 x1 y1)) _ from⟨b1,x1,y1,rfl,hq1,hk1,hk2,(S.num 1 rfl),(S.num 0 rfl)⟩) (by omega)) fun v a V3 hF hb S=>?_
 obtain⟨b2,x2,y2,rfl,hq2,hk3,hk4,ok3,ok4⟩:=hF
 have S:=S.know ok3
 have S:=S.know ok4
 refine sto S 0 (fun ht=>zai rfl (S.at 4 rfl) (S.at 0 rfl) zak rfl (zv5 rfl) ht) fun V4 S=>?_
 refine hK2 _ _ ?_
 refine wp_ret ?_
 exact zas rfl S (S.at 4 rfl) (i:=0) rfl Tryz.underlying27 rfl zak ⟨_,rfl,((show QT (max K 1) (sel s q1 (q1')) ((aG b2 x2 y2)) _ from⟨b2,x2,y2,rfl,hq2,hk3,hk4,(S.num 1 rfl),(S.num 0 rfl)⟩)).to rfl (by omega),S.below⟩
theorem ztI {K K':Nat}{q1 q1' q2 q2':Rat}{f0:FuncId}{s:Bool}{g1_:Nat}{b1_ b1b_:Bool}{x1_ y1_ x1b_ y1b_:Num}{g2_:Nat}{b2_ b2b_:Bool}{x2_ y2_ x2b_ y2b_:Num}{V:World}(T:TT V)(hs:Sel f0 s)(B1:PtAt V g1_ K q1 q1' b1_ x1_ y1_ b1b_ x1b_ y1b_)(B2:PtAt V g2_ K' q2 q2' b2_ x2_ y2_ b2b_ x2b_ y2b_)(hK0:K<=400)(hK1:K'<=400):
  Calls Tryz.prog 93 #[.func (.func f0) #[] #[],pT g1_ 0,pT g2_ 0] V (zag V (QT (2*max (max K K') 1+1) (sel s q1 q1'+sel s q2 q2'))):=by
 refine fb Tryz.func93 Tryz.ntmps93 (zaa B1.ox (zaa B1.oy (zaa B1.ox' (zaa B1.oy' (zaa B2.ox (zaa B2.oy (zaa B2.ox' (zaa B2.oy' zav)))))))) (fun a S=>?_)
 refine wsp fun K1 hK1=>?_
 refine ti S (cs:=lZ) (zam rfl (Tryz.zeroValue27 _) rfl) (fun g1=>[⟨g1,27,lZ⟩]) fun g1 a V1 hgg1 S=>?_
 refine hK1 _ _ ?_
 refine wp_seq_k fun K2 hK2=>?_
 obtain⟨W1,hW1⟩:∃W,W=V1:=⟨_,rfl⟩
 rw[<-hW1]at S ⊢
 have S0:=S
 refine fr 8 [5,6,7,8,9,10,11,12] [IsV (.func (.func f0) #[] #[]),IsV ((aP b1_ x1_ y1_ b1b_ x1b_ y1b_)),Q1 K (sel s q1 (q1')),IsV (.func (.func f0) #[] #[]),IsV ((aP b2_ x2_ y2_ b2b_ x2b_ y2b_)),Q1 K' (sel s q2 (q2')),QL (max K K') 6 ([sel s q1 (q1'),sel s q2 (q2')]),QT (2*(max (max K K') 1)+1) ((sel s q1 (q1'))+(sel s q2 (q2')))] S ?_ ?_
 ·refine sc (fun _ _ S _ _=>sv rfl (zan rfl (S.at 1 rfl))) ?_
  refine sc (fun _ _ S _ _=>sv rfl (zad rfl (S.at 2 rfl) (B1.at S.below) Tryz.underlying29 rfl (vs:=(lP b1_ x1_ y1_ b1b_ x1b_ y1b_)) zbb rfl)) ?_
  refine sc (fun _ _ S _ hd=>sl rfl (zdr hs.en (hd.v 0 rfl rfl) (hd.v 1 rfl rfl)) (hs.tells (zdC S 0 B1.q B1.q' B1.kx B1.ky B1.kx' B1.ky'))) ?_
  refine sc (fun _ _ S _ _=>sv rfl (zan rfl (S.at 1 rfl))) ?_
  refine sc (fun _ _ S _ _=>sv rfl (zad rfl (S.at 3 rfl) (B2.at S.below) Tryz.underlying29 rfl (vs:=(lP b2_ x2_ y2_ b2b_ x2b_ y2b_)) zbb rfl)) ?_
  refine sc (fun _ _ S _ hd=>sl rfl (zdr hs.en (hd.v 3 rfl rfl) (hd.v 4 rfl rfl)) (hs.tells (zdC S 4 B2.q B2.q' B2.kx B2.ky B2.kx' B2.ky'))) ?_
  refine sc (fun _ _ _ _ hd=>sy rfl (zcq rfl rfl rfl (((hd.r 2 rfl rfl)).to rfl (by omega)) (((hd.r 5 rfl rfl)).to rfl (by omega)))) ?_
  refine sc (fun _ _ S _ hd=>sl rfl (rc1 Tryz.func39 rfl) (ztH (T.keep S.below) ((hd.r 6 rfl rfl)).row)) ?_
  exact sn
 ·intro a1 V2 S hB hf
  obtain⟨b1,x1,y1,hv1,hq1,hk1,hk2,ok1,ok2⟩:=hf.r 7 rfl rfl
  have S:=S.add hv1
  have S:=S.know ok1
  have S:=S.know ok2
  clear hf S0
  show wpList _ _ _ [_] _ _
  refine sto S 0 (fun ht=>zai rfl (S.at 1 rfl) (S.at 0 rfl) zak rfl (zv5 rfl) ht) fun V3 S=>?_
  refine hK2 _ _ ?_
  refine wp_ret ?_
  exact zas rfl S (S.at 1 rfl) (i:=0) rfl Tryz.underlying27 rfl zak ⟨_,rfl,((show QT (2*(max (max K K') 1)+1) ((sel s q1 (q1'))+(sel s q2 (q2'))) ((aG b1 x1 y1)) _ from⟨b1,x1,y1,rfl,hq1,hk1,hk2,(S.num 1 rfl),(S.num 0 rfl)⟩)).to rfl (by omega),S.below⟩
theorem ztJ {K K':Nat}{q1 q1' q2 q2':Rat}{f0:FuncId}{s:Bool}{g1_:Nat}{b1_ b1b_:Bool}{x1_ y1_ x1b_ y1b_:Num}{g2_:Nat}{b2_ b2b_:Bool}{x2_ y2_ x2b_ y2b_:Num}{V:World}(T:TT V)(hs:Sel f0 s)(B1:PtAt V g1_ K q1 q1' b1_ x1_ y1_ b1b_ x1b_ y1b_)(B2:PtAt V g2_ K' q2 q2' b2_ x2_ y2_ b2b_ x2b_ y2b_)(hK0:K<=400)(hK1:K'<=400):
  Calls Tryz.prog 92 #[.func (.func f0) #[] #[],pT g1_ 0,pT g2_ 0] V (zag V (QT (max K 1+max K' 1+1) (sel s q1 q1' - sel s q2 q2'))):=by
 refine fb Tryz.func92 Tryz.ntmps92 (zaa B1.ox (zaa B1.oy (zaa B1.ox' (zaa B1.oy' (zaa B2.ox (zaa B2.oy (zaa B2.ox' (zaa B2.oy' zav)))))))) (fun a S=>?_)
 refine wsp fun K1 hK1=>?_
 refine ti S (cs:=lZ) (zam rfl (Tryz.zeroValue27 _) rfl) (fun g1=>[⟨g1,27,lZ⟩]) fun g1 a V1 hgg1 S=>?_
 refine hK1 _ _ ?_
 refine wp_seq_k fun K2 hK2=>?_
 obtain⟨W1,hW1⟩:∃W,W=V1:=⟨_,rfl⟩
 rw[<-hW1]at S ⊢
 have S0:=S
 refine fr 7 [5,6,7,8,9,10,11] [IsV (.func (.func f0) #[] #[]),IsV ((aP b1_ x1_ y1_ b1b_ x1b_ y1b_)),Q1 K (sel s q1 (q1')),IsV (.func (.func f0) #[] #[]),IsV ((aP b2_ x2_ y2_ b2b_ x2b_ y2b_)),Q1 K' (sel s q2 (q2')),QT ((max K 1)+(max K' 1)+1) ((sel s q1 (q1')) - (sel s q2 (q2')))] S ?_ ?_
 ·refine sc (fun _ _ S _ _=>sv rfl (zan rfl (S.at 1 rfl))) ?_
  refine sc (fun _ _ S _ _=>sv rfl (zad rfl (S.at 2 rfl) (B1.at S.below) Tryz.underlying29 rfl (vs:=(lP b1_ x1_ y1_ b1b_ x1b_ y1b_)) zbb rfl)) ?_
  refine sc (fun _ _ S _ hd=>sl rfl (zdr hs.en (hd.v 0 rfl rfl) (hd.v 1 rfl rfl)) (hs.tells (zdC S 0 B1.q B1.q' B1.kx B1.ky B1.kx' B1.ky'))) ?_
  refine sc (fun _ _ S _ _=>sv rfl (zan rfl (S.at 1 rfl))) ?_
  refine sc (fun _ _ S _ _=>sv rfl (zad rfl (S.at 3 rfl) (B2.at S.below) Tryz.underlying29 rfl (vs:=(lP b2_ x2_ y2_ b2b_ x2b_ y2b_)) zbb rfl)) ?_
  refine sc (fun _ _ S _ hd=>sl rfl (zdr hs.en (hd.v 3 rfl rfl) (hd.v 4 rfl rfl)) (hs.tells (zdC S 4 B2.q B2.q' B2.kx B2.ky B2.kx' B2.ky'))) ?_
  refine sc (fun _ _ S _ hd=>sl rfl (rc2 Tryz.func37 rfl rfl) (zkW (T.keep S.below) (hd.r 2 rfl rfl) (hd.r 5 rfl rfl))) ?_
  exact sn
 ·intro a1 V2 S hB hf
  obtain⟨b1,x1,y1,hv1,hq1,hk1,hk2,ok1,ok2⟩:=hf.r 6 rfl rfl
  have S:=S.add hv1
  have S:=S.know ok1
  have S:=S.know ok2
  clear hf S0
  show wpList _ _ _ [_] _ _
  refine sto S 0 (fun ht=>zai rfl (S.at 1 rfl) (S.at 0 rfl) zak rfl (zv5 rfl) ht) fun V3 S=>?_
  refine hK2 _ _ ?_
  refine wp_ret ?_
  exact zas rfl S (S.at 1 rfl) (i:=0) rfl Tryz.underlying27 rfl zak ⟨_,rfl,((show QT ((max K 1)+(max K' 1)+1) ((sel s q1 (q1')) - (sel s q2 (q2'))) ((aG b1 x1 y1)) _ from⟨b1,x1,y1,rfl,hq1,hk1,hk2,(S.num 1 rfl),(S.num 0 rfl)⟩)).to rfl (by omega),S.below⟩
theorem znF {K K':Nat}{q1 q1' q2:Rat}{f0:FuncId}{s:Bool}{g1_:Nat}{b1_ b1b_:Bool}{x1_ y1_ x1b_ y1b_:Num}{g2_:Nat}{b2_:Bool}{x2_ y2_:Num}{V:World}(T:TT V)(hs:Sel f0 s)(B1:PtAt V g1_ K q1 q1' b1_ x1_ y1_ b1b_ x1b_ y1b_)(B2:RtAt V g2_ K' q2 b2_ x2_ y2_)(hK0:K<=400)(hK1:K'<=400):
  Calls Tryz.prog 94 #[.func (.func f0) #[] #[],pT g1_ 0,pT g2_ 0] V (zag V (QT (2*max (max K K') 1) (sel s q1 q1'*q2))):=by
 refine fb Tryz.func94 Tryz.ntmps94 (zaa B1.ox (zaa B1.oy (zaa B1.ox' (zaa B1.oy' (zaa B2.ox (zaa B2.oy zav)))))) (fun a S=>?_)
 refine wsp fun K1 hK1=>?_
 refine ti S (cs:=lZ) (zam rfl (Tryz.zeroValue27 _) rfl) (fun g1=>[⟨g1,27,lZ⟩]) fun g1 a V1 hgg1 S=>?_
 refine hK1 _ _ ?_
 refine wp_seq_k fun K2 hK2=>?_
 obtain⟨W1,hW1⟩:∃W,W=V1:=⟨_,rfl⟩
 rw[<-hW1]at S ⊢
 have S0:=S
 refine fr 6 [5,6,7,8,9,10] [IsV (.func (.func f0) #[] #[]),IsV ((aP b1_ x1_ y1_ b1b_ x1b_ y1b_)),Q1 K (sel s q1 (q1')),IsV ((aG b2_ x2_ y2_)),QL (max K K') 6 ([sel s q1 (q1'),q2]),QT (2*(max (max K K') 1)) ((sel s q1 (q1'))*q2)] S ?_ ?_
 ·refine sc (fun _ _ S _ _=>sv rfl (zan rfl (S.at 1 rfl))) ?_
  refine sc (fun _ _ S _ _=>sv rfl (zad rfl (S.at 2 rfl) (B1.at S.below) Tryz.underlying29 rfl (vs:=(lP b1_ x1_ y1_ b1b_ x1b_ y1b_)) zbb rfl)) ?_
  refine sc (fun _ _ S _ hd=>sl rfl (zdr hs.en (hd.v 0 rfl rfl) (hd.v 1 rfl rfl)) (hs.tells (zdC S 0 B1.q B1.q' B1.kx B1.ky B1.kx' B1.ky'))) ?_
  refine sc (fun _ _ S _ _=>sv rfl (zad rfl (S.at 3 rfl) (B2.at S.below) Tryz.underlying27 rfl (vs:=(aL b2_ x2_ y2_)) zak rfl)) ?_
  refine sc (fun _ _ S _ hd=>sy rfl (zcq rfl rfl (hd.v 3 rfl rfl) (((hd.r 2 rfl rfl)).to rfl (by omega)) (((q2m S 4 B2.q B2.kx B2.ky)).to rfl (by omega)))) ?_
  refine sc (fun _ _ S _ hd=>sl rfl (rc1 Tryz.func40 rfl) (znB (T.keep S.below) ((hd.r 4 rfl rfl)).row)) ?_
  exact sn
 ·intro a1 V2 S hB hf
  obtain⟨b1,x1,y1,hv1,hq1,hk1,hk2,ok1,ok2⟩:=hf.r 5 rfl rfl
  have S:=S.add hv1
  have S:=S.know ok1
  have S:=S.know ok2
  clear hf S0
  show wpList _ _ _ [_] _ _
  refine sto S 0 (fun ht=>zai rfl (S.at 1 rfl) (S.at 0 rfl) zak rfl (zv5 rfl) ht) fun V3 S=>?_
  refine hK2 _ _ ?_
  refine wp_ret ?_
  exact zas rfl S (S.at 1 rfl) (i:=0) rfl Tryz.underlying27 rfl zak ⟨_,rfl,((show QT (2*(max (max K K') 1)) ((sel s q1 (q1'))*q2) ((aG b1 x1 y1)) _ from⟨b1,x1,y1,rfl,hq1,hk1,hk2,(S.num 1 rfl),(S.num 0 rfl)⟩)).to rfl (by omega),S.below⟩
theorem zvW {K K':Nat}{q1 q1' q2 q2':Rat}{v1 v2:Value}{V:World}(T:TT V)(h1:P1 K (q1) (q1') v1 V)(h2:P1 K' (q2) (q2') v2 V)(hK0:K<=400)(hK1:K'<=400):
  Calls Tryz.prog 48 #[v1,v2] V (zag V (PT (2*max (max K K') 1+1) (q1+q2) (q1'+q2'))):=by
 obtain⟨b1,x1,y1,b2,x2,y2,rfl,hq1,hq2,⟨hk1,hk2⟩,⟨hk3,hk4⟩,⟨ok1,ok2⟩,ok3,ok4⟩:=h1
 obtain⟨b3,x3,y3,b4,x4,y4,rfl,hq3,hq4,⟨hk5,hk6⟩,⟨hk7,hk8⟩,⟨ok5,ok6⟩,ok7,ok8⟩:=h2
 refine fb Tryz.func48 Tryz.ntmps48 (zaa ok5 (zaa ok6 (zaa ok7 (zaa ok8 (zaa ok1 (zaa ok2 (zaa ok3 (zaa ok4 zav)))))))) (fun a S=>?_)
 refine wsp fun K1 hK1=>?_
 refine tb S 0 (lP b1 x1 y1 b2 x2 y2) fun g1 a V1 hgg1 S=>?_
 refine tb S 2 (lP b3 x3 y3 b4 x4 y4) fun g2 a V2 hgg2 S=>?_
 refine ti S (cs:=lY) (zam rfl (Tryz.zeroValue29 _) rfl) (fun g3=>[⟨g1,29,(lP b1 x1 y1 b2 x2 y2)⟩,⟨g2,29,(lP b3 x3 y3 b4 x4 y4)⟩,⟨g3,29,lY⟩]) fun g3 a V3 hgg3 S=>?_
 refine hK1 _ _ ?_
 refine wsp fun K2 hK2=>?_
 refine tv S (zgK rfl (S.at 2 rfl) (S.at 1 rfl)) fun a S=>?_
 have hB1:=(PtAt.mk (V:=V3) (S.bx 0 rfl) hq1 hq2 hk1 hk2 hk3 hk4 (S.num 4 rfl) (S.num 5 rfl) (S.num 6 rfl) (S.num 7 rfl))
 have hB2:=(PtAt.mk (V:=V3) (S.bx 1 rfl) hq3 hq4 hk5 hk6 hk7 hk8 (S.num 0 rfl) (S.num 1 rfl) (S.num 2 rfl) (S.num 3 rfl))
 refine tc S (F:=PT (2*max (max K K') 1+1) ((q1+q2)) ((q1'+q2'))) (rc1 Tryz.func91 (S.at 0 rfl)) (zfj (q:=(q1+q2)) (q':=(q1'+q2')) (enters_of Tryz.func93 (by kernel_rfl) rfl) (fun W hW=>ztI ((T.keep S.below).keep hW) zs8 (hB1.keep hW) (hB2.keep hW) (by omega) (by omega)) (fun W hW=>ztI ((T.keep S.below).keep hW) zs9 (hB1.keep hW) (hB2.keep hW) (by omega) (by omega))) fun v a V4 hF hb S=>?_
 obtain⟨b5,x5,y5,b6,x6,y6,rfl,hq5,hq6,⟨hk9,hk10⟩,⟨hk11,hk12⟩,⟨ok9,ok10⟩,ok11,ok12⟩:=hF
 have S:=S.know ok9
 have S:=S.know ok10
 have S:=S.know ok11
 have S:=S.know ok12
 refine sto S 2 (fun ht=>zai rfl (S.at 2 rfl) (S.at 0 rfl) zbb rfl (zv5 rfl) ht) fun V5 S=>?_
 refine hK2 _ _ ?_
 refine wp_ret ?_
 exact zas rfl S (S.at 2 rfl) (i:=2) rfl Tryz.underlying29 rfl zbb ⟨_,rfl,((zcz S 0 hq5 hq6 hk9 hk10 hk11 hk12)).to rfl rfl (by omega),S.below⟩
theorem zrQ {K K':Nat}{q1 q1' q2 q2':Rat}{v1 v2:Value}{V:World}(T:TT V)(h1:P1 K (q1) (q1') v1 V)(h2:P1 K' (q2) (q2') v2 V)(hK0:K<=400:=by omega)(hK1:K'<=400:=by omega):
  Calls Tryz.prog 45 #[v1,v2] V (zag V (PT (max K 1+max K' 1+1) (q1 - q2) (q1' - q2'))):=by
 obtain⟨b1,x1,y1,b2,x2,y2,rfl,hq1,hq2,⟨hk1,hk2⟩,⟨hk3,hk4⟩,⟨ok1,ok2⟩,ok3,ok4⟩:=h1
 obtain⟨b3,x3,y3,b4,x4,y4,rfl,hq3,hq4,⟨hk5,hk6⟩,⟨hk7,hk8⟩,⟨ok5,ok6⟩,ok7,ok8⟩:=h2
 refine fb Tryz.func45 Tryz.ntmps45 (zaa ok5 (zaa ok6 (zaa ok7 (zaa ok8 (zaa ok1 (zaa ok2 (zaa ok3 (zaa ok4 zav)))))))) (fun a S=>?_)
 refine wsp fun K1 hK1=>?_
 refine tb S 0 (lP b1 x1 y1 b2 x2 y2) fun g1 a V1 hgg1 S=>?_
 refine tb S 2 (lP b3 x3 y3 b4 x4 y4) fun g2 a V2 hgg2 S=>?_
 refine ti S (cs:=lY) (zam rfl (Tryz.zeroValue29 _) rfl) (fun g3=>[⟨g1,29,(lP b1 x1 y1 b2 x2 y2)⟩,⟨g2,29,(lP b3 x3 y3 b4 x4 y4)⟩,⟨g3,29,lY⟩]) fun g3 a V3 hgg3 S=>?_
 refine hK1 _ _ ?_
 refine wsp fun K2 hK2=>?_
 refine tv S (zgK rfl (S.at 2 rfl) (S.at 1 rfl)) fun a S=>?_
 have hB1:=(PtAt.mk (V:=V3) (S.bx 0 rfl) hq1 hq2 hk1 hk2 hk3 hk4 (S.num 4 rfl) (S.num 5 rfl) (S.num 6 rfl) (S.num 7 rfl))
 have hB2:=(PtAt.mk (V:=V3) (S.bx 1 rfl) hq3 hq4 hk5 hk6 hk7 hk8 (S.num 0 rfl) (S.num 1 rfl) (S.num 2 rfl) (S.num 3 rfl))
 refine tc S (F:=PT (max K 1+max K' 1+1) ((q1 - q2)) ((q1' - q2'))) (rc1 Tryz.func91 (S.at 0 rfl)) (zfj (q:=(q1 - q2)) (q':=(q1' - q2')) (enters_of Tryz.func92 (by kernel_rfl) rfl) (fun W hW=>ztJ ((T.keep S.below).keep hW) zs8 (hB1.keep hW) (hB2.keep hW) (by omega) (by omega)) (fun W hW=>ztJ ((T.keep S.below).keep hW) zs9 (hB1.keep hW) (hB2.keep hW) (by omega) (by omega))) fun v a V4 hF hb S=>?_
 obtain⟨b5,x5,y5,b6,x6,y6,rfl,hq5,hq6,⟨hk9,hk10⟩,⟨hk11,hk12⟩,⟨ok9,ok10⟩,ok11,ok12⟩:=hF
 have S:=S.know ok9
 have S:=S.know ok10
 have S:=S.know ok11
 have S:=S.know ok12
 refine sto S 2 (fun ht=>zai rfl (S.at 2 rfl) (S.at 0 rfl) zbb rfl (zv5 rfl) ht) fun V5 S=>?_
 refine hK2 _ _ ?_
 refine wp_ret ?_
 exact zas rfl S (S.at 2 rfl) (i:=2) rfl Tryz.underlying29 rfl zbb ⟨_,rfl,((zcz S 0 hq5 hq6 hk9 hk10 hk11 hk12)).to rfl rfl (by omega),S.below⟩
theorem zuL {K K':Nat}{q1 q1' q2:Rat}{v1 v2:Value}{V:World}(T:TT V)(h1:P1 K (q1) (q1') v1 V)(h2:Q1 K' (q2) v2 V)(hK0:K<=400)(hK1:K'<=400):
  Calls Tryz.prog 49 #[v1,v2] V (zag V (PT (2*max (max K K') 1) (q1*q2) (q1'*q2))):=by
 obtain⟨b1,x1,y1,b2,x2,y2,rfl,hq1,hq2,⟨hk1,hk2⟩,⟨hk3,hk4⟩,⟨ok1,ok2⟩,ok3,ok4⟩:=h1
 obtain⟨b3,x3,y3,rfl,hq3,hk5,hk6,ok5,ok6⟩:=h2
 refine fb Tryz.func49 Tryz.ntmps49 (zaa ok5 (zaa ok6 (zaa ok1 (zaa ok2 (zaa ok3 (zaa ok4 zav)))))) (fun a S=>?_)
 refine wsp fun K1 hK1=>?_
 refine tb S 0 (lP b1 x1 y1 b2 x2 y2) fun g1 a V1 hgg1 S=>?_
 refine tb S 2 (aL b3 x3 y3) fun g2 a V2 hgg2 S=>?_
 refine ti S (cs:=lY) (zam rfl (Tryz.zeroValue29 _) rfl) (fun g3=>[⟨g1,29,(lP b1 x1 y1 b2 x2 y2)⟩,⟨g2,27,(aL b3 x3 y3)⟩,⟨g3,29,lY⟩]) fun g3 a V3 hgg3 S=>?_
 refine hK1 _ _ ?_
 refine wsp fun K2 hK2=>?_
 refine tv S (zgK rfl (S.at 2 rfl) (S.at 1 rfl)) fun a S=>?_
 have hB1:=(PtAt.mk (V:=V3) (S.bx 0 rfl) hq1 hq2 hk1 hk2 hk3 hk4 (S.num 2 rfl) (S.num 3 rfl) (S.num 4 rfl) (S.num 5 rfl))
 have hB2:=(RtAt.mk (V:=V3) (S.bx 1 rfl) hq3 hk5 hk6 (S.num 0 rfl) (S.num 1 rfl))
 refine tc S (F:=PT (2*max (max K K') 1) ((q1*q2)) ((q1'*q2))) (rc1 Tryz.func91 (S.at 0 rfl)) (zfj (q:=(q1*q2)) (q':=(q1'*q2)) (enters_of Tryz.func94 (by kernel_rfl) rfl) (fun W hW=>znF ((T.keep S.below).keep hW) zs8 (hB1.keep hW) (hB2.keep hW) (by omega) (by omega)) (fun W hW=>znF ((T.keep S.below).keep hW) zs9 (hB1.keep hW) (hB2.keep hW) (by omega) (by omega))) fun v a V4 hF hb S=>?_
 obtain⟨b4,x4,y4,b5,x5,y5,rfl,hq4,hq5,⟨hk7,hk8⟩,⟨hk9,hk10⟩,⟨ok7,ok8⟩,ok9,ok10⟩:=hF
 have S:=S.know ok7
 have S:=S.know ok8
 have S:=S.know ok9
 have S:=S.know ok10
 refine sto S 2 (fun ht=>zai rfl (S.at 2 rfl) (S.at 0 rfl) zbb rfl (zv5 rfl) ht) fun V5 S=>?_
 refine hK2 _ _ ?_
 refine wp_ret ?_
 exact zas rfl S (S.at 2 rfl) (i:=2) rfl Tryz.underlying29 rfl zbb ⟨_,rfl,((zcz S 0 hq4 hq5 hk7 hk8 hk9 hk10)).to rfl rfl (by omega),S.below⟩
theorem vOf {n m:Int}{V:World}(hn:(-9223372036854775808<=n/\n<=9223372036854775807)/\ -9223372036854775808<=m/\m<=9223372036854775807):
  Calls Tryz.prog 47 #[.int .i64 n,.int .i64 m] V (zag V (PT 2 ((n:Int):Rat) ((m:Int):Rat))):=by
 refine fb Tryz.func47 Tryz.ntmps47 zav (fun a S=>?_)
 refine wsp fun K1 hK1=>?_
 refine ti S (cs:=lY) (zam rfl (Tryz.zeroValue29 _) rfl) (fun g1=>[⟨g1,29,lY⟩]) fun g1 a V1 hgg1 S=>?_
 refine hK1 _ _ ?_
 refine wsp fun K2 hK2=>?_
 refine mv S 1 fun a S=>?_
 refine tc S (F:=QT 2 ((n:Int))) (rc1 Tryz.func38 (S.at 0 rfl)) (zt9 (n:=n) (by omega)) fun v a V2 hF hb S=>?_
 obtain⟨b1,x1,y1,rfl,hq1,hk1,hk2,ok1,ok2⟩:=hF
 have S:=S.know ok1
 have S:=S.know ok2
 refine mv S 4 fun a S=>?_
 refine tc S (F:=QT 2 ((m:Int))) (rc1 Tryz.func38 (S.at 0 rfl)) (zt9 (n:=m) (by omega)) fun v a V3 hF hb S=>?_
 obtain⟨b2,x2,y2,rfl,hq2,hk3,hk4,ok3,ok4⟩:=hF
 have S:=S.know ok3
 have S:=S.know ok4
 refine tv S (zaW rfl (S.at 2 rfl) (S.at 0 rfl) (zlt _ _ _ _ _ _ _ _ _ _ _ _ _ _)) fun a S=>?_
 refine sto S 0 (fun ht=>zai rfl (S.at 5 rfl) (S.at 0 rfl) zbb rfl (zv5 rfl) ht) fun V4 S=>?_
 refine hK2 _ _ ?_
 refine wp_ret ?_
 exact zas rfl S (S.at 5 rfl) (i:=0) rfl Tryz.underlying29 rfl zbb ⟨_,rfl,((zcz S 0 hq1 hq2 hk1 hk2 hk3 hk4)).to rfl rfl (by omega),S.below⟩
section
variable (T : TT V)
include T
theorem zvJ (h1:P1 K q1 q1' v1 V)(h2:P1 K' q2 q2' v2 V)(b:K<=400)(b':K'<=400):Calls Tryz.prog 48 #[v1,v2] V (zag V (PT (max K 1+max K' 1+1) (q1+q2) (q1'+q2'))):=
 zcS (zvW T h1 h2 b b') (fun _ _ h=>h.sml (h1.sm.1.add h2.sm.1) (h1.sm.2.add h2.sm.2))
theorem zta (h1:P1 K q1 q1' v1 V)(h2:Q1 K' q2 v2 V)(b:K<=400)(b':K'<=400):Calls Tryz.prog 49 #[v1,v2] V (zag V (PT (max K 1+max K' 1) (q1*q2) (q1'*q2))):=
 zcS (zuL T h1 h2 b b') (fun _ _ h=>h.sml (h1.sm.1.mul h2.sm) (h1.sm.2.mul h2.sm))
end
def za8 (q1 q1' q2 q2':Rat):Int:=if zaq q1 q2=0 then zaq q1' q2' else zaq q1 q2
theorem zuM (h:(!decide (zaq q1 q2=0))=true):zaq q1 q2=za8 q1 q1' q2 q2':=by
 unfold za8;rw[if_neg];simpa using h
theorem zuN (h:(!decide (zaq q1 q2=0))=false):zaq q1' q2'=za8 q1 q1' q2 q2':=by
 unfold za8;rw[if_pos];simpa using h
theorem ztb (h:decide (zaq q1 q2=0)=true):decide (zaq q1' q2'=0)=decide (za8 q1 q1' q2 q2'=0):=by
 unfold za8;rw[if_pos (of_decide_eq_true h)]
theorem ztc (h:decide (zaq q1 q2=0)=false):false=decide (za8 q1 q1' q2 q2'=0):=by
 unfold za8;rw[if_neg (of_decide_eq_false h),h]
theorem zuO {K K':Nat}{q1 q1' q2 q2':Rat}{v1 v2:Value}{V:World}(T:TT V)(h1:P1 K (q1) (q1') v1 V)(h2:P1 K' (q2) (q2') v2 V)(hK0:K<=300)(hK1:K'<=300):
  Calls Tryz.prog 46 #[v1,v2] V (zag V (QT (4*max (max K K') 1+1) (q1*q2' - q1'*q2))):=by
 obtain⟨b1,x1,y1,b2,x2,y2,rfl,hq1,hq2,⟨hk1,hk2⟩,⟨hk3,hk4⟩,⟨ok1,ok2⟩,ok3,ok4⟩:=h1
 obtain⟨b3,x3,y3,b4,x4,y4,rfl,hq3,hq4,⟨hk5,hk6⟩,⟨hk7,hk8⟩,⟨ok5,ok6⟩,ok7,ok8⟩:=h2
 refine fb Tryz.func46 Tryz.ntmps46 (zaa ok5 (zaa ok6 (zaa ok7 (zaa ok8 (zaa ok1 (zaa ok2 (zaa ok3 (zaa ok4 zav)))))))) (fun a S=>?_)
 refine wsp fun K1 hK1=>?_
 refine tb S 0 (lP b1 x1 y1 b2 x2 y2) fun g1 a V1 hgg1 S=>?_
 refine tb S 2 (lP b3 x3 y3 b4 x4 y4) fun g2 a V2 hgg2 S=>?_
 refine ti S (cs:=lZ) (zam rfl (Tryz.zeroValue27 _) rfl) (fun g3=>[⟨g1,29,(lP b1 x1 y1 b2 x2 y2)⟩,⟨g2,29,(lP b3 x3 y3 b4 x4 y4)⟩,⟨g3,27,lZ⟩]) fun g3 a V3 hgg3 S=>?_
 refine hK1 _ _ ?_
 refine wp_seq_k fun K2 hK2=>?_
 obtain⟨W1,hW1⟩:∃W,W=V3:=⟨_,rfl⟩
 rw[<-hW1]at S ⊢
 have S0:=S
 refine fr 13 [5,6,7,8,9,10,11,12,13,14,15,16,17] [IsV (pT g1 0),IsV ((aG b1 x1 y1)),IsV (pT g2 3),IsV ((aG b4 x4 y4)),QL (max K K') 6 ([q1,q2']),QT (2*(max (max K K') 1)) (q1*(q2')),IsV (pT g1 3),IsV ((aG b2 x2 y2)),IsV (pT g2 0),IsV ((aG b3 x3 y3)),QL (max K K') 6 ([q1',q2]),QT (2*(max (max K K') 1)) ((q1')*q2),QT ((max (2*(max (max K K') 1)) 1)+(max (2*(max (max K K') 1)) 1)+1) ((q1*(q2')) - ((q1')*q2))] S ?_ ?_
 ·refine sc (fun _ _ S _ _=>sv rfl (zab rfl (S.at 2 rfl) (zaS _))) ?_
  refine sc (fun _ _ S _ hd=>sv rfl (zad rfl (hd.v 0 rfl rfl) (S.bx 0 rfl) Tryz.underlying27 rfl (vs:=(aL b1 x1 y1)) zak rfl)) ?_
  refine sc (fun _ _ S _ _=>sv rfl (zab rfl (S.at 1 rfl) (za0 _))) ?_
  refine sc (fun _ _ S _ hd=>sv rfl (zad rfl (hd.v 2 rfl rfl) (S.bx 1 rfl) Tryz.underlying27 rfl (vs:=(aL b4 x4 y4)) zak rfl)) ?_
  refine sc (fun _ _ S _ hd=>sy rfl (zcq rfl (hd.v 1 rfl rfl) (hd.v 3 rfl rfl) (((q2m S 4 hq1 hk1 hk2)).to rfl (by omega)) (((q2m S 2 hq4 hk7 hk8)).to rfl (by omega)))) ?_
  refine sc (fun _ _ S _ hd=>sl rfl (rc1 Tryz.func40 rfl) (znB (T.keep S.below) ((hd.r 4 rfl rfl)).row)) ?_
  refine sc (fun _ _ S _ _=>sv rfl (zab rfl (S.at 2 rfl) (za0 _))) ?_
  refine sc (fun _ _ S _ hd=>sv rfl (zad rfl (hd.v 6 rfl rfl) (S.bx 0 rfl) Tryz.underlying27 rfl (vs:=(aL b2 x2 y2)) zak rfl)) ?_
  refine sc (fun _ _ S _ _=>sv rfl (zab rfl (S.at 1 rfl) (zaS _))) ?_
  refine sc (fun _ _ S _ hd=>sv rfl (zad rfl (hd.v 8 rfl rfl) (S.bx 1 rfl) Tryz.underlying27 rfl (vs:=(aL b3 x3 y3)) zak rfl)) ?_
  refine sc (fun _ _ S _ hd=>sy rfl (zcq rfl (hd.v 7 rfl rfl) (hd.v 9 rfl rfl) (((q2m S 6 hq2 hk3 hk4)).to rfl (by omega)) (((q2m S 0 hq3 hk5 hk6)).to rfl (by omega)))) ?_
  refine sc (fun _ _ S _ hd=>sl rfl (rc1 Tryz.func40 rfl) (znB (T.keep S.below) ((hd.r 10 rfl rfl)).row)) ?_
  refine sc (fun _ _ S _ hd=>sl rfl (rc2 Tryz.func37 rfl rfl) (zkW (T.keep S.below) ((hd.r 5 rfl rfl)).any ((hd.r 11 rfl rfl)).any)) ?_
  exact sn
 ·intro a1 V4 S hB hf
  obtain⟨b5,x5,y5,hv1,hq5,hk9,hk10,ok9,ok10⟩:=hf.r 12 rfl rfl
  have S:=S.add hv1
  have S:=S.know ok9
  have S:=S.know ok10
  clear hf S0
  show wpList _ _ _ [_] _ _
  refine sto S 2 (fun ht=>zai rfl (S.at 1 rfl) (S.at 0 rfl) zak rfl (zv5 rfl) ht) fun V5 S=>?_
  refine hK2 _ _ ?_
  refine wp_ret ?_
  exact zas rfl S (S.at 1 rfl) (i:=2) rfl Tryz.underlying27 rfl zak ⟨_,rfl,((show QT ((max (2*(max (max K K') 1)) 1)+(max (2*(max (max K K') 1)) 1)+1) ((q1*(q2')) - ((q1')*q2)) ((aG b5 x5 y5)) _ from⟨b5,x5,y5,rfl,hq5,hk9,hk10,(S.num 1 rfl),(S.num 0 rfl)⟩)).to rfl (by omega),S.below⟩
section
variable (T : TT V)
include T
theorem zj4 (h1:P1 K q1 q1' v1 V)(h2:P1 K' q2 q2' v2 V)(b:K<=300)(b':K'<=300):Calls Tryz.prog 46 #[v1,v2] V (zag V (QT (2*(max K 1+max K' 1)+1) (q1*q2' - q1'*q2))):=
 zcS (zuO T h1 h2 b b') (fun _ _ h=>h.smk (((h1.sm.1.mul h2.sm.2).sub (h1.sm.2.mul h2.sm.1)).mono (by omega)))
end
theorem ztd {K K':Nat}{q1 q1' q2 q2':Rat}{v1 v2:Value}{V:World}(T:TT V)(h1:P1 K (q1) (q1') v1 V)(h2:P1 K' (q2) (q2') v2 V)(hK0:K<=400:=by omega)(hK1:K'<=400:=by omega):
  Calls Tryz.prog 63 #[v1,v2] V (zag V (fun v _=>v= .int .i64 (za8 q1 q1' q2 q2'))):=by
 obtain⟨b1,x1,y1,b2,x2,y2,rfl,hq1,hq2,⟨hk1,hk2⟩,⟨hk3,hk4⟩,⟨ok1,ok2⟩,ok3,ok4⟩:=h1
 obtain⟨b3,x3,y3,b4,x4,y4,rfl,hq3,hq4,⟨hk5,hk6⟩,⟨hk7,hk8⟩,⟨ok5,ok6⟩,ok7,ok8⟩:=h2
 refine fb Tryz.func63 Tryz.ntmps63 (zaa ok5 (zaa ok6 (zaa ok7 (zaa ok8 (zaa ok1 (zaa ok2 (zaa ok3 (zaa ok4 zav)))))))) (fun a S=>?_)
 refine wsp fun K1 hK1=>?_
 refine tb S 0 (lP b1 x1 y1 b2 x2 y2) fun g1 a V1 hgg1 S=>?_
 refine tb S 2 (lP b3 x3 y3 b4 x4 y4) fun g2 a V2 hgg2 S=>?_
 refine ac S fun a S=>?_
 refine hK1 _ _ ?_
 refine wp_seq_k fun K2 hK2=>?_
 refine wsp fun K3 hK3=>?_
 refine tv S (zab rfl (S.at 2 rfl) (zaS _)) fun a S=>?_
 refine tv S (zad rfl (S.at 0 rfl) (S.bx 0 rfl) Tryz.underlying27 rfl (vs:=(aL b1 x1 y1)) zak rfl) fun a S=>?_
 refine tv S (zab rfl (S.at 3 rfl) (zaS _)) fun a S=>?_
 refine tv S (zad rfl (S.at 0 rfl) (S.bx 1 rfl) Tryz.underlying27 rfl (vs:=(aL b3 x3 y3)) zak rfl) fun a S=>?_
 refine tc S (rc2 Tryz.func105 (S.at 2 rfl) (S.at 0 rfl)) (zkV (T.keep S.below) (q2m S 4 hq1 hk1 hk2) (q2m S 0 hq3 hk5 hk6)) fun v a V3 hF hb S=>?_
 subst hF
 refine tv S (zaj rfl (S.at 0 rfl)) fun a S=>?_
 refine hK3 _ _ ?_
 refine wsp fun K4 hK4=>?_
 refine mv S 0 fun a S=>?_
 refine tv S (zgC _ (by decide) rfl (S.at 0 rfl) rfl) fun a S=>?_
 refine hK4 _ _ ?_
 rcases zwf (!decide (zaq q1 q2=0))with hc12|hc12
 ·refine wp_cond_true ((S.at 0 rfl).trans (congrArg Value.bool hc12)) ?_
  refine wsp fun K5 hK5=>?_
  refine mv S 2 fun a S=>?_
  refine av S (zaj rfl (S.at 0 rfl)) fun a S=>?_
  refine hK5 _ _ ?_
  refine wp_ret ?_
  exact zaC rfl S (S.at 0 rfl) ⟨_,rfl,congrArg (Value.int .i64) (zuM hc12),S.below⟩
 ·refine wp_cond_false ((S.at 0 rfl).trans (congrArg Value.bool hc12)) ?_
  refine wp_skip ?_
  refine hK2 _ _ ?_
  refine wsp fun K6 hK6=>?_
  refine tv S (zab rfl (S.at 10 rfl) (za0 _)) fun a S=>?_
  refine tv S (zad rfl (S.at 0 rfl) (S.bx 0 rfl) Tryz.underlying27 rfl (vs:=(aL b2 x2 y2)) zak rfl) fun a S=>?_
  refine tv S (zab rfl (S.at 11 rfl) (za0 _)) fun a S=>?_
  refine tv S (zad rfl (S.at 0 rfl) (S.bx 1 rfl) Tryz.underlying27 rfl (vs:=(aL b4 x4 y4)) zak rfl) fun a S=>?_
  refine tc S (rc2 Tryz.func105 (S.at 2 rfl) (S.at 0 rfl)) (zkV (T.keep S.below) (q2m S 6 hq2 hk3 hk4) (q2m S 2 hq4 hk7 hk8)) fun v a V4 hF hb S=>?_
  subst hF
  refine av S (zaj rfl (S.at 0 rfl)) fun a S=>?_
  refine hK6 _ _ ?_
  refine wp_ret ?_
  exact zaC rfl S (S.at 0 rfl) ⟨_,rfl,congrArg (Value.int .i64) (zuN hc12),S.below⟩
theorem zvK {K K':Nat}{q1 q1' q2 q2':Rat}{v1 v2:Value}{V:World}(T:TT V)(h1:P1 K (q1) (q1') v1 V)(h2:P1 K' (q2) (q2') v2 V)(hK0:K<=400)(hK1:K'<=400):
  Calls Tryz.prog 65 #[v1,v2] V (zag V (fun v _=>v= .bool (decide (za8 q1 q1' q2 q2'=0)))):=by
 obtain⟨b1,x1,y1,b2,x2,y2,rfl,hq1,hq2,⟨hk1,hk2⟩,⟨hk3,hk4⟩,⟨ok1,ok2⟩,ok3,ok4⟩:=h1
 obtain⟨b3,x3,y3,b4,x4,y4,rfl,hq3,hq4,⟨hk5,hk6⟩,⟨hk7,hk8⟩,⟨ok5,ok6⟩,ok7,ok8⟩:=h2
 refine fb Tryz.func65 Tryz.ntmps65 (zaa ok5 (zaa ok6 (zaa ok7 (zaa ok8 (zaa ok1 (zaa ok2 (zaa ok3 (zaa ok4 zav)))))))) (fun a S=>?_)
 refine wsp fun K1 hK1=>?_
 refine tb S 0 (lP b1 x1 y1 b2 x2 y2) fun g1 a V1 hgg1 S=>?_
 refine tb S 2 (lP b3 x3 y3 b4 x4 y4) fun g2 a V2 hgg2 S=>?_
 refine ac S fun a S=>?_
 refine hK1 _ _ ?_
 refine wp_seq_k fun K2 hK2=>?_
 rcases zwf (decide (zaq q1 q2=0))with hs1|hs1
 ·skip
  refine zaA ?_
  refine tv S (zab rfl (S.at 2 rfl) (zaS _)) fun a S=>?_
  refine tv S (zad rfl (S.at 0 rfl) (S.bx 0 rfl) Tryz.underlying27 rfl (vs:=(aL b1 x1 y1)) zak rfl) fun a S=>?_
  refine tv S (zab rfl (S.at 3 rfl) (zaS _)) fun a S=>?_
  refine tv S (zad rfl (S.at 0 rfl) (S.bx 1 rfl) Tryz.underlying27 rfl (vs:=(aL b3 x3 y3)) zak rfl) fun a S=>?_
  refine tc S (rc2 Tryz.func106 (S.at 2 rfl) (S.at 0 rfl)) (gtr (zmb (T.keep S.below) (q2m S 4 hq1 hk1 hk2) (q2m S 0 hq3 hk5 hk6)) hs1) fun v a V3 hF hb S=>?_
  subst hF
  refine mv S 0 fun a S=>?_
  refine tvg S (S.at 0 rfl) (zab rfl (S.at 8 rfl) (za0 _)) fun a S=>?_
  refine tvg S (S.at 1 rfl) (zad rfl (S.at 0 rfl) (S.bx 0 rfl) Tryz.underlying27 rfl (vs:=(aL b2 x2 y2)) zak rfl) fun a S=>?_
  refine tvg S (S.at 2 rfl) (zab rfl (S.at 9 rfl) (za0 _)) fun a S=>?_
  refine tvg S (S.at 3 rfl) (zad rfl (S.at 0 rfl) (S.bx 1 rfl) Tryz.underlying27 rfl (vs:=(aL b4 x4 y4)) zak rfl) fun a S=>?_
  refine tcg S (S.at 4 rfl) (rc2 Tryz.func106 (S.at 2 rfl) (S.at 0 rfl)) (zmb (T.keep S.below) (q2m S 6 hq2 hk3 hk4) (q2m S 2 hq4 hk7 hk8)) fun v a V4 hF hb S=>?_
  subst hF
  refine tv S (zaG true rfl (S.at 5 rfl) (S.at 0 rfl)) fun a S=>?_
  refine av S (zaj rfl (S.at 0 rfl)) fun a S=>?_
  refine hK2 _ _ ?_
  refine wp_ret ?_
  exact zaC rfl S (S.at 0 rfl) ⟨_,rfl,congrArg Value.bool (ztb hs1),S.below⟩
 ·skip
  refine zaA ?_
  refine tv S (zab rfl (S.at 2 rfl) (zaS _)) fun a S=>?_
  refine tv S (zad rfl (S.at 0 rfl) (S.bx 0 rfl) Tryz.underlying27 rfl (vs:=(aL b1 x1 y1)) zak rfl) fun a S=>?_
  refine tv S (zab rfl (S.at 3 rfl) (zaS _)) fun a S=>?_
  refine tv S (zad rfl (S.at 0 rfl) (S.bx 1 rfl) Tryz.underlying27 rfl (vs:=(aL b3 x3 y3)) zak rfl) fun a S=>?_
  refine tc S (rc2 Tryz.func106 (S.at 2 rfl) (S.at 0 rfl)) (gtr (zmb (T.keep S.below) (q2m S 4 hq1 hk1 hk2) (q2m S 0 hq3 hk5 hk6)) hs1) fun v a V5 hF hb S=>?_
  subst hF
  refine mv S 0 fun a S=>?_
  refine tk S (S.at 0 rfl) fun a S=>?_
  refine tk S (S.at 1 rfl) fun a S=>?_
  refine tk S (S.at 2 rfl) fun a S=>?_
  refine tk S (S.at 3 rfl) fun a S=>?_
  refine tk S (S.at 4 rfl) fun a S=>?_
  refine tv S (zaG false rfl (S.at 5 rfl) rfl) fun a S=>?_
  refine av S (zaj rfl (S.at 0 rfl)) fun a S=>?_
  refine hK2 _ _ ?_
  refine wp_ret ?_
  exact zaC rfl S (S.at 0 rfl) ⟨_,rfl,congrArg Value.bool (ztc hs1),S.below⟩
end
theorem zvX {n m:Int}{V:World}(hn:(-9223372036854775808<=n/\n<=9223372036854775807)/\ -9223372036854775808<=m/\m<=9223372036854775807):
  Calls Tryz.prog 50 #[.int .i64 n,.int .i64 m] V (zag V (PT 2 ((n:Int):Rat) ((m:Int):Rat))):=by
 refine fb Tryz.func50 Tryz.ntmps50 zav (fun a S=>?_)
 refine wsp fun K1 hK1=>?_
 refine ti S (cs:=lY) (zam rfl (Tryz.zeroValue29 _) rfl) (fun g1=>[⟨g1,29,lY⟩]) fun g1 a V1 hgg1 S=>?_
 refine hK1 _ _ ?_
 refine wsp fun K2 hK2=>?_
 refine mv S 1 fun a S=>?_
 refine tc S (F:=QT 2 ((n:Int))) (rc1 Tryz.func28 (S.at 0 rfl)) (zsL (n:=n) (by omega)) fun v a V2 hF hb S=>?_
 obtain⟨b1,x1,y1,rfl,hq1,hk1,hk2,ok1,ok2⟩:=hF
 have S:=S.know ok1
 have S:=S.know ok2
 refine mv S 4 fun a S=>?_
 refine tc S (F:=QT 2 ((m:Int))) (rc1 Tryz.func28 (S.at 0 rfl)) (zsL (n:=m) (by omega)) fun v a V3 hF hb S=>?_
 obtain⟨b2,x2,y2,rfl,hq2,hk3,hk4,ok3,ok4⟩:=hF
 have S:=S.know ok3
 have S:=S.know ok4
 refine tv S (zaW rfl (S.at 2 rfl) (S.at 0 rfl) (zlt _ _ _ _ _ _ _ _ _ _ _ _ _ _)) fun a S=>?_
 refine sto S 0 (fun ht=>zai rfl (S.at 5 rfl) (S.at 0 rfl) zbb rfl (zv5 rfl) ht) fun V4 S=>?_
 refine hK2 _ _ ?_
 refine wp_ret ?_
 exact zas rfl S (S.at 5 rfl) (i:=0) rfl Tryz.underlying29 rfl zbb ⟨_,rfl,((zcz S 0 hq1 hq2 hk1 hk2 hk3 hk4)).to rfl rfl (by omega),S.below⟩
theorem zfk {K K':Nat}{q q' r r':Rat}{v1 v2:Value}{V:World}(h1:PT K (q) (q') v1 V)(h2:PT K' (r) (r') v2 V)(e1:q=r)(e2:q'=r'):
  Calls Tryz.prog 15 #[v1,v2] V (zag V (fun v _=>v= .bool true)):=by
 obtain⟨b1,x1,y1,b2,x2,y2,rfl,hq1,hq2,⟨hk1,hk2⟩,⟨hk3,hk4⟩,⟨ok1,ok2⟩,ok3,ok4⟩:=h1
 obtain⟨b3,x3,y3,b4,x4,y4,rfl,hq3,hq4,⟨hk5,hk6⟩,⟨hk7,hk8⟩,⟨ok5,ok6⟩,ok7,ok8⟩:=h2
 refine fb Tryz.func15 Tryz.ntmps15 (zaa ok5 (zaa ok6 (zaa ok7 (zaa ok8 (zaa ok1 (zaa ok2 (zaa ok3 (zaa ok4 zav)))))))) (fun a S=>?_)
 refine wsp fun K1 hK1=>?_
 refine tb S 0 (lP b1 x1 y1 b2 x2 y2) fun g1 a V1 hgg1 S=>?_
 refine tb S 2 (lP b3 x3 y3 b4 x4 y4) fun g2 a V2 hgg2 S=>?_
 refine ac S fun a S=>?_
 refine hK1 _ _ ?_
 refine wsp fun K2 hK2=>?_
 refine tv S (zab rfl (S.at 2 rfl) (zaS _)) fun a S=>?_
 refine tv S (zad rfl (S.at 0 rfl) (S.bx 0 rfl) Tryz.underlying27 rfl (vs:=(aL b1 x1 y1)) zak rfl) fun a S=>?_
 refine tv S (zab rfl (S.at 3 rfl) (zaS _)) fun a S=>?_
 refine tv S (zad rfl (S.at 0 rfl) (S.bx 1 rfl) Tryz.underlying27 rfl (vs:=(aL b3 x3 y3)) zak rfl) fun a S=>?_
 refine tc S (rc2 Tryz.func14 (S.at 2 rfl) (S.at 0 rfl)) (zrh (show QT K (q) ((aG b1 x1 y1)) _ from⟨b1,x1,y1,rfl,hq1,hk1,hk2,(S.num 4 rfl),(S.num 5 rfl)⟩) (show QT K' (r) ((aG b3 x3 y3)) _ from⟨b3,x3,y3,rfl,hq3,hk5,hk6,(S.num 0 rfl),(S.num 1 rfl)⟩) e1) fun v a V3 hF hb S=>?_
 subst hF
 refine mv S 0 fun a S=>?_
 refine tvg S (S.at 0 rfl) (zab rfl (S.at 8 rfl) (za0 _)) fun a S=>?_
 refine tvg S (S.at 1 rfl) (zad rfl (S.at 0 rfl) (S.bx 0 rfl) Tryz.underlying27 rfl (vs:=(aL b2 x2 y2)) zak rfl) fun a S=>?_
 refine tvg S (S.at 2 rfl) (zab rfl (S.at 9 rfl) (za0 _)) fun a S=>?_
 refine tvg S (S.at 3 rfl) (zad rfl (S.at 0 rfl) (S.bx 1 rfl) Tryz.underlying27 rfl (vs:=(aL b4 x4 y4)) zak rfl) fun a S=>?_
 refine tcg S (S.at 4 rfl) (rc2 Tryz.func14 (S.at 2 rfl) (S.at 0 rfl)) (zrh (show QT K (q') ((aG b2 x2 y2)) _ from⟨b2,x2,y2,rfl,hq2,hk3,hk4,(S.num 6 rfl),(S.num 7 rfl)⟩) (show QT K' (r') ((aG b4 x4 y4)) _ from⟨b4,x4,y4,rfl,hq4,hk7,hk8,(S.num 2 rfl),(S.num 3 rfl)⟩) e2) fun v a V4 hF hb S=>?_
 subst hF
 refine tv S (zaG true rfl (S.at 5 rfl) (S.at 0 rfl)) fun a S=>?_
 refine av S (zaj rfl (S.at 0 rfl)) fun a S=>?_
 refine hK2 _ _ ?_
 refine wp_ret ?_
 exact zaC rfl S (S.at 0 rfl) ⟨_,rfl,rfl,S.below⟩
section
variable {q q' q1 q1' q2 q2' q3 q3' r:Rat}
theorem zfl {a b:Rat}(h:a=b):decide (zaq a b=0)=true:=decide_eq_true (zdq.2 (by grind))
theorem zbT {a b:Rat}:zaq a b=0↔a=b:=⟨fun h=>by have:=zdq.1 h;grind,fun h=>zdq.2 (by grind)⟩
theorem zgk:za8 q1 q1' q2 q2'=0↔q1=q2/\q1'=q2':=by
 unfold za8
 by_cases h:zaq q1 q2=0
 ·rw[if_pos h,zbT];exact⟨fun h2=>⟨zbT.1 h,h2⟩,fun h2=>h2.2⟩
 ·rw[if_neg h];exact⟨fun h2=>absurd h2 h,fun h2=>absurd (zbT.2 h2.1) h⟩
theorem zer {m:Nat}{p:PEl}(h:zgi m p=false):p.2.1.n<=m/\p.2.2.1.n<=m/\p.2.2.2.2.1.n<=m/\p.2.2.2.2.2.n<=m:=by
 simp only[zgi,Bool.or_eq_false_iff,decide_eq_false_iff_not]at h
 omega
end
def pv (p:PEl):Rat×Rat:=(qOf p.1 p.2.1.N p.2.2.1.N,qOf p.2.2.2.1 p.2.2.2.2.1.N p.2.2.2.2.2.N)
def zh7 (K:Nat)(p:PEl):Prop:=(p.2.1.n<=K/\p.2.2.1.n<=K)/\p.2.2.2.2.1.n<=K/\p.2.2.2.2.2.n<=K
def PRow (K:Nat)(qs:List (Rat×Rat))(v:Value)(V:World):Prop:=∃(A:Option Addr) (c:Nat) (l:List PEl),v= .slice A l.length c/\PRds V V.heap.size A l/\l.map pv=qs/\(∀p∈l,zh7 K p)/\l.length<=1000/\l.length<=c/\c<=maxLen
def zrR (K:Nat)(q:Rat×Rat)(p:PEl):Prop:=IsQ q.1 p.1 p.2.1 p.2.2.1/\IsQ q.2 p.2.2.2.1 p.2.2.2.2.1 p.2.2.2.2.2/\zh7 K p
def TolD (K:Nat)(qs:List (Rat×Rat))(l:List PEl):Prop:=l.length=qs.length/\∀k (h:k<l.length) (h':k<qs.length),zrR K qs[k] l[k]
def TRow (K:Nat)(qs:List (Rat×Rat))(v:Value)(V:World):Prop:=∃(A:Option Addr) (c:Nat) (l:List PEl),v= .slice A l.length c/\PRds V V.heap.size A l/\TolD K qs l/\l.length<=1000/\l.length<=c/\c<=maxLen
section
variable {K K' n:Nat}{qs:List (Rat × Rat)}{v:Value}{V V':World}{l:List PEl}{q:Rat × Rat}{p:PEl}
theorem TolD.nil:TolD K [] []:=⟨rfl,fun _ h=>by cases h⟩
theorem TolD.snoc (h:TolD K qs l)(hp:zrR K q p):TolD K (qs++[q]) (l++[p]):=by
 refine⟨by simp[h.1],fun k h1 h2=>?_⟩
 by_cases hk:k<l.length
 ·rw[List.getElem_append_left hk,List.getElem_append_left (by rw[<-h.1];exact hk)]
  exact h.2 k hk _
 ·have e1:k=l.length:=by rw[List.length_append,List.length_singleton]at h1;omega
  subst e1
  rw[List.getElem_append_right zv6,List.getElem_append_right (by rw[h.1];exact Nat.le_refl _)]
  simpa[h.1]using hp
theorem TolD.pv (h:TolD K qs l):l.map pv=qs:=by
 refine List.ext_getElem (by simp[h.1]) fun k h1 h2=>?_
 rw[List.getElem_map]
 obtain⟨a,b,-⟩:=h.2 k (by simpa using h1) h2
 exact Prod.ext a.q b.q
theorem TRow.any (h:TRow K qs v V):PRow K qs v V:=by
 obtain⟨A,c,l,h1,h2,h3,h4⟩:=h
 refine⟨A,c,l,h1,h2,h3.pv,fun p hp=>?_,h4⟩
 obtain⟨k,hk,rfl⟩:=List.getElem_of_mem hp
 exact(h3.2 k hk (by rw[<-h3.1];exact hk)).2.2
theorem TRow.keep (h:TRow K qs v V)(hb:Below V.heap.size V V'):TRow K qs v V':=by
 obtain⟨A,c,l,h1,h2,h3⟩:=h;exact⟨A,c,l,h1,(h2.below hb).more hb.size,h3⟩
theorem PRow.keep (h:PRow K qs v V)(hb:Below V.heap.size V V'):PRow K qs v V':=by
 obtain⟨A,c,l,h1,h2,h3⟩:=h;exact⟨A,c,l,h1,(h2.below hb).more hb.size,h3⟩
instance:Keeps (TRow K qs):=⟨fun h hb=>TRow.keep h hb⟩
instance:Keeps (PRow K qs):=⟨fun h hb=>PRow.keep h hb⟩
theorem GP.row (h:GP l v V)(hk:∀p∈l,zh7 K p)(hl:l.length<=1000)(hq:l.map Go.Proofs.YtipckjmgdghkiaaGreatDoor.pv=qs):PRow K qs v V:=by
 obtain⟨A,c,h1,h2,h3,h4,h5⟩:=h;exact⟨A,c,l,h1,h2,hq,hk,hl,h4,h5⟩
def zgl (ps:List PEl):List Num:=(ps.reverse.map fun p=>[p.2.1,p.2.2.1,p.2.2.2.2.1,p.2.2.2.2.2]).flatten
theorem zmM (ps:List PEl)(p:PEl):zgl (ps++[p])=p.2.1::p.2.2.1::p.2.2.2.2.1::p.2.2.2.2.2::zgl ps:=by simp[zgl]
theorem zpj {ps:List PEl}{p:PEl}(h:p∈ps):(p.2.1∈zgl ps/\p.2.2.1∈zgl ps)/\p.2.2.2.2.1∈zgl ps/\p.2.2.2.2.2∈zgl ps:=by
 have key:∀z,z∈[p.2.1,p.2.2.1,p.2.2.2.2.1,p.2.2.2.2.2]->z∈zgl ps:=fun z hz=>List.mem_flatten.2 ⟨_,List.mem_map.2 ⟨p,List.mem_reverse.2 h,rfl⟩,hz⟩
 exact⟨⟨key _ (by simp),key _ (by simp)⟩,key _ (by simp),key _ (by simp)⟩
def z6:PEl:=(false,⟨none,0,0,0⟩,⟨none,0,0,0⟩,false,⟨none,0,0,0⟩,⟨none,0,0,0⟩)
theorem zh8 (p:PEl)(l:List PEl):zbt (p::l)=zba p++zbt l:=by simp[zbt]
theorem zfm (l l':List PEl):zbt (l++l')=zbt l++zbt l':=by simp[zbt]
theorem zgm:∀l:List PEl,(zbt l).all za6=true
 |[]=>rfl
 |p::l=>by rw[zh8,List.all_append,zgm l];rfl
theorem zpk (ps rest:List PEl)(x y:PEl):zcy (zbt (ps++y::rest)) (ps.length*6) (zba x)=zbt (ps++[x]++rest):=by
 have h:=zgx (zba x) (zbt ps) (zba y) (zbt rest) rfl
 rw[zfi]at h
 rw[zfm,zh8,<-List.append_assoc,h,zfm,zfm]
 simp[zbt]
theorem zte:(Tryz.prog.info? 29).map (fun i=>(i.zero,i.size,i.bytes))=some (some (.agg #[.bool false,.slice none 0 0,.slice none 0 0,.bool false,.slice none 0 0,.slice none 0 0]),6,112):=by kernel_rfl
theorem zvL (n:Nat):madeCells #[.bool false,.slice none 0 0,.slice none 0 0,.bool false,.slice none 0 0,.slice none 0 0] (n*6)=(zbt (List.replicate n z6)).toArray:=by
 apply Array.ext_getElem?
 intro i
 rw[show(zbt (List.replicate n z6)).toArray[i]?=(zbt (List.replicate n z6))[i]? from by simp]
 by_cases h1:i<n*6
 ·have hk:i/6<(List.replicate n z6).length:=by rw[List.length_replicate];omega
  have e:=zly hk (i:=i%6) (by omega)
  have ei:i/6*6+i%6=i:=by omega
  rw[ei,List.getElem_replicate]at e
  rw[e]
  have e3:(madeCells #[.bool false,.slice none 0 0,.slice none 0 0,.bool false,.slice none 0 0,.slice none 0 0] (n*6))[i]?=some (#[Value.bool false,.slice none 0 0,.slice none 0 0,.bool false,.slice none 0 0,.slice none 0 0][i%6]!):=by
   simp[madeCells,h1]
  rw[e3]
  rcases(by omega:i%6=0\/i%6=1\/i%6=2\/i%6=3\/i%6=4\/i%6=5)with h|h|h|h|h|h <;> rw[h] <;> rfl
 ·rw[Array.getElem?_eq_none (by rw[size_madeCells];omega),List.getElem?_eq_none (by rw[zfi,List.length_replicate];omega)]
theorem zuP {a:Act}{o:Oper}{t1:Tmp}(ho:o.op= .makeSlice 30 (.tmp t1) (.tmp t1)) (h1:a.tmps.getD t1 undef= .int .i64 (n:Nat)) (hn:n<=1000):
  (execOp a.eval o).run Tryz.prog V= .ok (.value (.slice (some ⟨V.heap.size,0,none⟩) n n)) (V.alloc (.cells (zbt (List.replicate n z6)).toArray 29)):=by
 have e1:a.eval (.tmp t1)= .int .i64 (n:Nat):=h1
 obtain⟨i0,hi0,hz0,hz1,hz2⟩:=info_parts zte
 have hr:=run_make V 30 29 i0 _ Tryz.underlying30 hi0 hz0 .i64 .i64 (n:Nat) (n:Nat) (by omega) (Int.le_refl _) (by rw[hz2];omega) (by omega)
 rw[hz1]at hr
 rw[<-zvL]
 simp only[Int.toNat_natCast]at hr
 obtain⟨dst,op,ty,pos,after,guard⟩:=o
 simp only at ho
 subst ho
 unfold execOp
 simp only[e1]
 have hr':=hr
 simp only[Value.cells]at hr'
 simp[go_sem,hr']
theorem zuQ (g m:Nat):zbr (some ⟨g,0,none⟩) m=⟨g,m,none⟩:=by
 show Addr.add ⟨g,0,none⟩ m=_
 rw[zaX]
end
section
variable {n:Nat}{ls:List (Tmp × Value)}{lb:List Bx}{w V:World}{e:List Num}{a:Act}{o:Oper}{t:Tmp}{v:Value}{ops:Array Oper}{Q:Exit -> Act -> World -> Prop}{rest:List Oper}{P:Program}
theorem zvM (S:Frm n ls lb w e a V){T:TypeId}{cs:List Value}(hr:(execOp a.eval o).run P V= .ok (.value v) (V.alloc (.cells cs.toArray T)))(hn:cs.all za6=true)(k:∀a V',Frm n ((t,v)::ls) (lb++[⟨V.heap.size,T,cs⟩]) w e a V'->wpList P ops Q rest a V')
  (hg:o.guard=none:=by exact rfl) (hd:o.dst=some t:=by exact rfl) (ht:t<n:=by decide) (hl:zgE t ls=true:=by exact rfl):wpList P ops Q (o::rest) a V:=
 zoO (K:=fun a' V2=>a'=a.put (some t) v/\V2=V.alloc (.cells cs.toArray T)) (by simp[Oper.wp,hr,Oper.upon,hd]) hg (by rintro a' V2 ⟨rfl,rfl⟩;exact k _ _ ((S.alloc T cs hn).put _ ht (zc8 hl)))
end
theorem zvN {K:Nat}{qs:List (Rat×Rat)}{v:Value}{V:World}(T:TT V)(h:PRow K qs v V)(hK:K<=400):Calls Tryz.prog 130 #[v] V (zag V (TRow (max K 1) qs)):=by
 obtain⟨A,c,l,rfl,hR,rfl,hk4,hl,hlc,hcm⟩:=h
 refine fb Tryz.func130 Tryz.ntmps130 zav (fun a S=>?_)
 refine wsp fun K1 hK1=>?_
 refine ac S fun a S=>?_
 refine hK1 _ _ ?_
 refine wsp fun K2 hK2=>?_
 refine mv S 1 fun a S=>?_
 refine tv S (zj3 rfl (S.at 0 rfl)) fun a S=>?_
 refine zvM S (zuP rfl (S.at 0 rfl) hl) (zgm _) fun a V1 S=>?_
 refine tv S (zaj rfl (S.at 0 rfl)) fun a S=>?_
 refine hK2 _ _ ?_
 obtain⟨g,hg⟩:∃g,V.heap.size=g:=⟨_,rfl⟩
 rw[hg]at S
 refine wp_seq_k fun K3 hK3=>?_
 refine wp_seq_k fun K4 hK4=>?_
 have S:=S.sel [0,5] rfl
 refine zaA ?_
 refine mv S 1 fun a S=>?_
 refine tv S (zj3 rfl (S.at 0 rfl)) fun a S=>?_
 refine tv S (zla rfl) fun a S=>?_
 refine hK4 _ _ ?_
 refine wp_block ?_
 have S:=S.sel [0,1,2,3] rfl
 refine wp_loop (fun aI VI=>∃(k:Nat) (ps:List PEl),(ps.length=k/\k<=l.length/\TolD (max K 1) ((l.map pv).take k) ps)/\Frm 23 [(11,.int .i64 ((k:Nat):Int)),(10,.int .i64 ((l.length:Nat):Int)),(9,.slice A l.length c),(3,.slice (some ⟨g,0,none⟩) l.length l.length)] [⟨g,29,zbt (ps++List.replicate (l.length - k) z6)⟩] V (zgl ps) aI VI)
  (fun aI _=>l.length - (intOf (aI.tmps.getD 11 undef)).toNat) ⟨0,[],⟨rfl,Nat.zero_le _,TolD.nil⟩,S⟩ ?_
 rintro a1 V2 ⟨k,ps,⟨hpl,hkl,hD⟩,S⟩
 have hm0:a1.tmps.getD 11 undef= .int .i64 ((k:Nat):Int):=S.at 0 rfl
 refine wsp fun K5 hK5=>?_
 refine tv S (zeT rfl (S.at 0 rfl) (S.at 1 rfl)) fun a S=>?_
 refine hK5 _ _ ?_
 refine wp_seq_k fun K6 hK6=>?_
 rcases zwf (decide (((k:Nat):Int)<((l.length:Nat):Int)))with hc|hc
 ·refine wp_cond_true ((S.at 0 rfl).trans (congrArg Value.bool hc)) ?_
  have hlt:k<l.length:=by have:=of_decide_eq_true hc;omega
  refine wp_skip ?_
  refine hK6 _ _ ?_
  refine wp_seq_k fun K7 hK7=>?_
  refine wp_block ?_
  obtain⟨b,x,y,b',x',y',hel⟩:∃b x y b' x' y',l[k]=(b,x,y,b',x',y'):=⟨_,_,_,_,_,_,rfl⟩
  obtain⟨⟨ox,oy⟩,ox',oy'⟩:=hR.oks hlt hel
  have hke:=hk4 _ (List.getElem_mem hlt)
  rw[hel]at hke
  refine wsp fun K8 hK8=>?_
  refine mv S 1 fun a S=>?_
  refine tv S (zds (hR.el hlt hel).s hlt rfl (S.at 4 rfl) (S.at 2 rfl)) fun a S=>?_
  refine tv S (zh6 ((hR.below S.below).el hlt hel) rfl (S.at 0 rfl)) fun a S=>?_
  refine ti S (cs:=lY) (zam rfl (Tryz.zeroValue29 _) rfl) (fun g5=>[⟨g,29,zbt (ps++List.replicate (l.length - k) z6)⟩,⟨g5,29,lY⟩]) fun g5 a V3 _ S=>?_
  refine tv S (zaj rfl (S.at 3 rfl)) fun a S=>?_
  refine sto S 1 (fun ht=>zai rfl (S.at 1 rfl) (S.at 2 rfl) zbb rfl (zv5 rfl) ht) fun V4 S=>?_
  refine hK8 _ _ ?_
  have S:=S.sel [0,1,6,7,8,9] rfl
  have B:=PtAt.mk (V:=V4) (K:=K) (S.bx 1 rfl) rfl rfl hke.1.1 hke.1.2 hke.2.1 hke.2.2 (ox.later S.below) (oy.later S.below) (ox'.later S.below) (oy'.later S.below)
  have T4:=T.keep S.below
  refine zaA ?_
  refine mv S 5 fun a S=>?_
  refine mv S 1 fun a S=>?_
  refine tv S (zph rfl (S.at 3 rfl)) fun a S=>?_
  refine tc S (rc1 Tryz.func91 (S.at 0 rfl)) (zfj (enters_of Tryz.func168 (by kernel_rfl) rfl) (fun W hW=>zrP (T4.keep hW) zs8 (B.keep hW) (by omega)) (fun W hW=>zrP (T4.keep hW) zs9 (B.keep hW) (by omega))) fun u a V5 hF hb S=>?_
  obtain⟨d,z,w,d',z',w',rfl,i1,i2,⟨k1,k2⟩,⟨k3,k4⟩,⟨o1,o2⟩,o3,o4⟩:=hF
  have S:=(((S.know o4).know o3).know o2).know o1
  refine tv S (zds ⟨_,rfl⟩ hlt rfl (S.at 3 rfl) (S.at 2 rfl)) fun a S=>?_
  have hlen:(zbt (ps++List.replicate (l.length - k) z6)).length=l.length*6:=by rw[zfi,List.length_append,List.length_replicate,hpl];congr 1;omega
  have hput:zcy (zbt (ps++List.replicate (l.length - k) z6)) (k*6) (zba (d,z,w,d',z',w'))=zbt (ps++[(d,z,w,d',z',w')]++List.replicate (l.length - (k+1)) z6):=by
   rw[show l.length - k=(l.length - (k+1))+1 by omega,List.replicate_succ,<-hpl]
   exact zpk ps _ _ _
  refine zk8 S (i:=0) (vs:=zba (d,z,w,d',z',w')) (off:=k*6) rfl (fun ht=>zai rfl ((S.at 0 rfl).trans (by rw[zuQ])) (S.at 1 rfl) zbb rfl (m:=l.length*6) (by show k*6+6<=_;omega) (by rw[<-hlen];exact ht)) (by rw[hlen];show k*6+6<=_;omega) rfl rfl rfl (lb':=[⟨g,29,zbt (ps++[(d,z,w,d',z',w')]++List.replicate (l.length - (k+1)) z6)⟩,⟨g5,29,[.bool b,aS x,aS y,.bool b',.slice x'.A x'.n x'.c,.slice y'.A y'.n y'.c]⟩]) (by rw[hput];rfl) (fun V6 S=>?_)
  refine hK7 _ _ ?_
  have S:=S.sel [7,8,9,10] rfl
  have S:=S.reorder [0] rfl (by decide)
  refine zaA ?_
  refine tv S (zfe (k:=k) (m:=1) rfl (S.at 0 rfl) rfl (by omega)) fun a S=>?_
  refine av S (zan rfl (S.at 0 rfl)) fun a S=>?_
  have S:=S.sel [0,2,3,4] rfl
  have hD2:TolD (max K 1) ((l.map pv).take (k+1)) (ps++[(d,z,w,d',z',w')]):=by
   rw[List.take_succ_eq_append_getElem (by simpa using hlt)]
   refine hD.snoc ?_
   rw[List.getElem_map,hel]
   exact⟨i1,i2,⟨k1,k2⟩,k3,k4⟩
  refine⟨⟨k+1,ps++[(d,z,w,d',z',w')],⟨by simp[hpl],hlt,hD2⟩,by rw[zmM];exact S⟩,?_⟩
  have hm1:=S.at 0 rfl
  rw[hm0,hm1]
  simp only[intOf];omega
 ·refine wp_cond_false ((S.at 0 rfl).trans (congrArg Value.bool hc)) ?_
  refine wp_exit ?_
  refine hK3 _ _ ?_
  obtain rfl:k=l.length:=by have:=of_decide_eq_false hc;omega
  refine wsp fun K9 hK9=>?_
  refine mv S 4 fun a S=>?_
  refine tv S (zaj rfl (S.at 0 rfl)) fun a S=>?_
  refine hK9 _ _ ?_
  refine wp_ret ?_
  rw[List.take_of_length_le (by simp)]at hD
  refine zaC rfl S (S.at 0 rfl) ⟨_,rfl,⟨some ⟨g,0,none⟩,l.length,ps,by rw[hpl],PRds.own (rest:=zbt (List.replicate (l.length - l.length) z6)) (by rw[<-zfm];exact S.bx 0 rfl) (S.lt 0 rfl) (fun p hp=>?_),hD,by omega,by omega,by omega⟩,S.below⟩
  obtain⟨⟨m1,m2⟩,m3,m4⟩:=zpj hp
  exact⟨⟨S.env.2 _ m1,S.env.2 _ m2⟩,S.env.2 _ m3,S.env.2 _ m4⟩
section
variable {q q' q1 q1' q2 q2' q3 q3':Rat}
theorem zes (q1 q1' q2 q2':Rat): -1<=za8 q1 q1' q2 q2'/\za8 q1 q1' q2 q2'<=1:=by
 unfold za8;split
 ·exact zdx _ _
 ·exact zdx _ _
theorem ze0 (q1 q1' q2 q2':Rat):za8 q2 q2' q1 q1'= -za8 q1 q1' q2 q2':=by
 unfold za8
 rw[zeS q1 q2,zeS q1' q2']
 by_cases h:zaq q1 q2=0
 ·rw[if_pos h,if_pos (by omega)]
 ·rw[if_neg h,if_neg (by omega)]
theorem ztf:za8 q1 q1' q2 q2'<0↔q1<q2\/(q1=q2/\q1'<q2'):=by
 have key:∀a b:Rat,zaq a b<0↔a<b:=fun a b=>by
  constructor
  ·intro h
   by_cases hc:a<b
   ·exact hc
   ·have:=of_decide_eq_true (zsK.2 hc);omega
  ·intro h;rw[zc2 h];decide
 unfold za8
 by_cases h:zaq q1 q2=0
 ·rw[if_pos h,key]
  have:=zbT.1 h
  subst this
  constructor
  ·exact fun h=> .inr ⟨rfl,h⟩
  ·rintro(h|h)
   ·grind
   ·exact h.2
 ·rw[if_neg h,key]
  constructor
  ·exact .inl
  ·rintro(h2|h2)
   ·exact h2
   ·exact absurd (zbT.2 h2.1) h
def ElP (K:Nat)(q q':Rat)(v:Value)(V:World):Prop:=∃(A:Option Addr) (m:Nat) (b:Bool) (x y:Num) (b':Bool) (x' y':Num),v= .pointer (some (zbr A m))/\(∃ad,A=some ad/\ad.block<V.heap.size)/\ElAt V A m b x y b' x' y'/\PT K q q' (.agg #[.bool b,.slice x.A x.n x.c,.slice y.A y.n y.c,.bool b',.slice x'.A x'.n x'.c,.slice y'.A y'.n y'.c]) V
section
variable {K n:Nat}{qs:List (Rat × Rat)}{v v1:Value}{V V':World}{a:Act}{o:Oper}{t1 t2:Tmp}
theorem ElP.keep (h:ElP K q q' v V)(hb:Below V.heap.size V V'):ElP K q q' v V':=by
 obtain⟨A,m,b,x,y,b',x',y',h1,⟨ad,rfl,h2⟩,h3,h4⟩:=h
 have hc:∀ {i:Nat} {u:Value},V.cell? (zbr (some ad) i)=some u->V'.cell? (zbr (some ad) i)=some u:=fun h=>(hb.cell (by show(ad.add _).block<_;rw[zaO];exact h2)).trans h
 exact⟨_,m,b,x,y,b',x',y',h1,⟨ad,rfl,zv9 h2 hb.size⟩,⟨h3.s,hc h3.c0,hc h3.c1,hc h3.c2,hc h3.c3,hc h3.c4,hc h3.c5⟩,h4.keep hb⟩
instance:Keeps (ElP K q q'):=⟨fun h hb=>ElP.keep h hb⟩
theorem ztg (h:TRow K qs v1 V){i:Nat}(hi:i<qs.length):∃A n c,v1= .slice A n c/\(∃ad,A=some ad)/\i<n/\ElP K qs[i].1 qs[i].2 (.pointer (some (zbr A (i*6)))) V:=by
 obtain⟨A,c,l,rfl,hR,hD,-⟩:=h
 have hk:i<l.length:=by rw[hD.1];exact hi
 obtain⟨b,x,y,b',x',y',hel⟩:∃b x y b' x' y',l[i]=(b,x,y,b',x',y'):=⟨_,_,_,_,_,_,rfl⟩
 obtain⟨i1,i2,⟨k1,k2⟩,k3,k4⟩:=hD.2 i hk hi
 rw[hel]at i1 i2 k1 k2 k3 k4
 obtain⟨⟨ox,oy⟩,ox',oy'⟩:=hR.oks hk hel
 obtain⟨⟨ad,hA,hb,-⟩,-⟩:=hR i hk
 exact⟨A,l.length,c,rfl,⟨ad,hA⟩,hk,A,i*6,b,x,y,b',x',y',rfl,⟨ad,hA,hb⟩,hR.el hk hel,b,x,y,b',x',y',rfl,i1,i2,⟨k1,k2⟩,⟨k3,k4⟩,⟨ox,oy⟩,ox',oy'⟩
theorem zet {A:Option Addr}{c i:Nat}(hA:∃ad,A=some ad)(hk:i<n)(ho:o.op= .indexAddr 30 (.tmp t1) (.const (.int .i64 (i:Nat)))) (h1:a.tmps.getD t1 undef= .slice A n c):
  (execOp a.eval o).run Tryz.prog V= .ok (.value (.pointer (some (zbr A (i*6))))) V:=by
 obtain⟨ad,rfl⟩:=hA
 rw[zae]at h1
 obtain⟨dst,op,ty,pos,after,guard⟩:=o
 simp only at ho
 subst ho
 have h3:(i:Int)<(n:Int):=by omega
 unfold zbr
 go_simp
end
end
section
variable {n:Nat}{ls:List (Tmp × Value)}{lb:List Bx}{w V:World}{e:List Num}{a:Act}{o:Oper}{t t1 t2:Tmp}{v:Value}{ops:Array Oper}{Q:Exit -> Act -> World -> Prop}{rest:List Oper}
end
def PL1 (K:Nat)(q q':Rat)(v:Value)(V:World):Prop:=∃(g:Nat) (p:PEl),v= .slice (some ⟨g,0,none⟩) 1 1/\V.heap[g]?=some (.cells (zba p).toArray 29 (0,0))/\zrR K (q,q') p/\(p.2.1.ok V V.heap.size/\p.2.2.1.ok V V.heap.size)/\p.2.2.2.2.1.ok V V.heap.size/\p.2.2.2.2.2.ok V V.heap.size
theorem PL1.keep {K:Nat}{q q':Rat}{v:Value}{V V':World}(h:PL1 K q q' v V)(hb:Below V.heap.size V V'):PL1 K q q' v V':=by
 obtain⟨g,p,h1,h2,h3,⟨h4,h5⟩,h6,h7⟩:=h
 exact⟨g,p,h1,(hb.block g (Array.getElem?_eq_some_iff.1 h2).1).trans h2,h3,⟨h4.later hb,h5.later hb⟩,h6.later hb,h7.later hb⟩
instance {K:Nat} {q q':Rat}:Keeps (PL1 K q q'):=⟨fun h hb=>PL1.keep h hb⟩
end Go.Proofs.YtipckjmgdghkiaaGreatDoor
