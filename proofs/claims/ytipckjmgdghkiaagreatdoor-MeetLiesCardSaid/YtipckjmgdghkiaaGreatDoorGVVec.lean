/- Contracts of package vec: points, part by part. -/
import Derived.Test.YtipckjmgdghkiaaGreatDoorGVPt
set_option maxHeartbeats 4000000
set_option maxRecDepth 100000
namespace Go.Proofs.YtipckjmgdghkiaaGreatDoor
open Go Go.RowKit
section
variable {v v1 v2:Value}{V V' W:World}{K K':Nat}{q q' q1 q1' q2 q2':Rat}
theorem zvN {K:Nat}{q q':Rat}{v1:Value}{V:World}(h1:P1 K (q) (q') v1 V):
  Calls Tryz.prog 128 #[v1] V (zaf V (Q1 K q)):=by
 obtain⟨b1,x1,y1,b2,x2,y2,rfl,hq1,hq2,⟨hk1,hk2⟩,⟨hk3,hk4⟩,⟨ok1,ok2⟩,ok3,ok4⟩:=h1
 refine fb Tryz.func128 Tryz.ntmps128 (zaa ok1 (zaa ok2 (zaa ok3 (zaa ok4 zau)))) (fun a S=>?_)
 refine wsp fun K1 hK1=>?_
 refine tb S 0 (lP b1 x1 y1 b2 x2 y2) fun g1 a V1 hgg1 S=>?_
 refine ti S (cs:=lZ) (zam rfl (Tryz.zeroValue27 _) rfl) (fun g2=>[⟨g1,29,(lP b1 x1 y1 b2 x2 y2)⟩,⟨g2,27,lZ⟩]) fun g2 a V2 hgg2 S=>?_
 refine hK1 _ _ ?_
 refine wsp fun K2 hK2=>?_
 refine tv S (zab rfl (S.at 1 rfl) (zaV _)) fun a S=>?_
 refine tv S (zad rfl (S.at 0 rfl) (S.bx 0 rfl) Tryz.underlying27 rfl (vs:=(aL b1 x1 y1)) zah rfl) fun a S=>?_
 refine sto S 1 (fun ht=>zaj rfl (S.at 2 rfl) (S.at 0 rfl) zah rfl (zvZ rfl) ht) fun V3 S=>?_
 refine hK2 _ _ ?_
 refine wp_ret ?_
 exact zar rfl S (S.at 2 rfl) (i:=1) rfl Tryz.underlying27 rfl zah ⟨_,rfl,(q2m S 0 hq1 hk1 hk2),S.below⟩
theorem zvO {K:Nat}{q q':Rat}{v1:Value}{V:World}(h1:P1 K (q) (q') v1 V):
  Calls Tryz.prog 129 #[v1] V (zaf V (Q1 K q')):=by
 obtain⟨b1,x1,y1,b2,x2,y2,rfl,hq1,hq2,⟨hk1,hk2⟩,⟨hk3,hk4⟩,⟨ok1,ok2⟩,ok3,ok4⟩:=h1
 refine fb Tryz.func129 Tryz.ntmps129 (zaa ok1 (zaa ok2 (zaa ok3 (zaa ok4 zau)))) (fun a S=>?_)
 refine wsp fun K1 hK1=>?_
 refine tb S 0 (lP b1 x1 y1 b2 x2 y2) fun g1 a V1 hgg1 S=>?_
 refine ti S (cs:=lZ) (zam rfl (Tryz.zeroValue27 _) rfl) (fun g2=>[⟨g1,29,(lP b1 x1 y1 b2 x2 y2)⟩,⟨g2,27,lZ⟩]) fun g2 a V2 hgg2 S=>?_
 refine hK1 _ _ ?_
 refine wsp fun K2 hK2=>?_
 refine tv S (zab rfl (S.at 1 rfl) (za3 _)) fun a S=>?_
 refine tv S (zad rfl (S.at 0 rfl) (S.bx 0 rfl) Tryz.underlying27 rfl (vs:=(aL b2 x2 y2)) zah rfl) fun a S=>?_
 refine sto S 1 (fun ht=>zaj rfl (S.at 2 rfl) (S.at 0 rfl) zah rfl (zvZ rfl) ht) fun V3 S=>?_
 refine hK2 _ _ ?_
 refine wp_ret ?_
 exact zar rfl S (S.at 2 rfl) (i:=1) rfl Tryz.underlying27 rfl zah ⟨_,rfl,(q2m S 2 hq2 hk3 hk4),S.below⟩
theorem zsR:Sel 128 false:=⟨enters_of Tryz.func128 (by kernel_rfl) rfl,fun h=>zvN h⟩
theorem zsS:Sel 129 true:=⟨enters_of Tryz.func129 (by kernel_rfl) rfl,fun h=>zvO h⟩
theorem zfa {f:FuncId}{caps:Array Value}{K:Nat}{q q':Rat}{V:World}(en:∀args w,(callFunc f args).run Tryz.prog w= .ok (.enter f args) w)(hx:∀W,Below V.heap.size V W->Calls Tryz.prog f (#[.func (.func 128) #[] #[]]++caps) W (zaf W (QT K q))) (hy:∀W,Below V.heap.size V W->Calls Tryz.prog f (#[.func (.func 129) #[] #[]]++caps) W (zaf W (QT K q'))):
  Calls Tryz.prog 91 #[.func (.func f) #[] caps] V (zaf V (PT K q q')):=by
 refine fb Tryz.func91 Tryz.ntmps91 zau (fun a S=>?_)
 refine wsp fun K1 hK1=>?_
 refine ti S (cs:=lY) (zam rfl (Tryz.zeroValue29 _) rfl) (fun g1=>[⟨g1,29,lY⟩]) fun g1 a V1 hgg1 S=>?_
 refine hK1 _ _ ?_
 refine wsp fun K2 hK2=>?_
 refine mv S 1 fun a S=>?_
 refine tc S (F:=QT K (q)) (ziZ en (S.at 0 rfl)) (hx _ S.below) fun v a V2 hF hb S=>?_
 obtain⟨b1,x1,y1,rfl,hq1,hk1,hk2,ok1,ok2⟩:=hF
 have S:=S.know ok1
 have S:=S.know ok2
 refine mv S 3 fun a S=>?_
 refine tc S (F:=QT K (q')) (ziZ en (S.at 0 rfl)) (hy _ S.below) fun v a V3 hF hb S=>?_
 obtain⟨b2,x2,y2,rfl,hq2,hk3,hk4,ok3,ok4⟩:=hF
 have S:=S.know ok3
 have S:=S.know ok4
 refine tv S (zaU rfl (S.at 2 rfl) (S.at 0 rfl) (znn _ _ _ _ _ _ _ _ _ _ _ _ _ _)) fun a S=>?_
 refine sto S 0 (fun ht=>zaj rfl (S.at 5 rfl) (S.at 0 rfl) zaR rfl (zvZ rfl) ht) fun V4 S=>?_
 refine hK2 _ _ ?_
 refine wp_ret ?_
 exact zar rfl S (S.at 5 rfl) (i:=0) rfl Tryz.underlying29 rfl zaR ⟨_,rfl,⟨b1,x1,y1,b2,x2,y2,rfl,hq1,hq2,⟨hk1,hk2⟩,⟨hk3,hk4⟩,⟨(S.num 3 rfl),(S.num 2 rfl)⟩,(S.num 1 rfl),(S.num 0 rfl)⟩,S.below⟩
structure PtAt (V:World) (g K:Nat) (q q':Rat) (b:Bool) (x y:Num) (b':Bool) (x' y':Num):Prop where
 cell:V.heap[g]?=some (.cells [.bool b,.slice x.A x.n x.c,.slice y.A y.n y.c,.bool b',.slice x'.A x'.n x'.c,.slice y'.A y'.n y'.c].toArray 29 (0,0))
 q:qOf b x.N y.N=q
 q':qOf b' x'.N y'.N=q'
 kx:x.n<=K
 ky:y.n<=K
 kx':x'.n<=K
 ky':y'.n<=K
 ox:x.ok V V.heap.size
 oy:y.ok V V.heap.size
 ox':x'.ok V V.heap.size
 oy':y'.ok V V.heap.size
structure RtAt (V:World) (g K:Nat) (q:Rat) (b:Bool) (x y:Num):Prop where
 cell:V.heap[g]?=some (.cells [.bool b,.slice x.A x.n x.c,.slice y.A y.n y.c].toArray 27 (0,0))
 q:qOf b x.N y.N=q
 kx:x.n<=K
 ky:y.n<=K
 ox:x.ok V V.heap.size
 oy:y.ok V V.heap.size
section
variable {g:Nat}{b b':Bool}{x y x' y':Num}
theorem PtAt.at (h:PtAt V g K q q' b x y b' x' y')(hb:Below V.heap.size V W):W.heap[g]?=some (.cells [.bool b,.slice x.A x.n x.c,.slice y.A y.n y.c,.bool b',.slice x'.A x'.n x'.c,.slice y'.A y'.n y'.c].toArray 29 (0,0)):=
 (hb.block g (Array.getElem?_eq_some_iff.1 h.cell).1).trans h.cell
theorem RtAt.at (h:RtAt V g K q b x y)(hb:Below V.heap.size V W):W.heap[g]?=some (.cells [.bool b,.slice x.A x.n x.c,.slice y.A y.n y.c].toArray 27 (0,0)):=
 (hb.block g (Array.getElem?_eq_some_iff.1 h.cell).1).trans h.cell
theorem PtAt.keep (h:PtAt V g K q q' b x y b' x' y')(hb:Below V.heap.size V W):PtAt W g K q q' b x y b' x' y':=
 ⟨h.at hb,h.q,h.q',h.kx,h.ky,h.kx',h.ky',h.ox.later hb,h.oy.later hb,h.ox'.later hb,h.oy'.later hb⟩
theorem RtAt.keep (h:RtAt V g K q b x y)(hb:Below V.heap.size V W):RtAt W g K q b x y:=⟨h.at hb,h.q,h.kx,h.ky,h.ox.later hb,h.oy.later hb⟩
end
theorem zrv {K:Nat}{q1 q1':Rat}{f0:FuncId}{s:Bool}{g1_:Nat}{b1_ b1b_:Bool}{x1_ y1_ x1b_ y1b_:Num}{V:World}(T:TT V)(hs:Sel f0 s)(B1:PtAt V g1_ K q1 q1' b1_ x1_ y1_ b1b_ x1b_ y1b_)(hK0:K<=400):
  Calls Tryz.prog 168 #[.func (.func f0) #[] #[],pT g1_ 0] V (zaf V (QT (max K 1) (sel s q1 q1'))):=by
 refine fb Tryz.func168 Tryz.ntmps168 (zaa B1.ox (zaa B1.oy (zaa B1.ox' (zaa B1.oy' zau)))) (fun a S=>?_)
 refine wsp fun K1 hK1=>?_
 refine ti S (cs:=lZ) (zam rfl (Tryz.zeroValue27 _) rfl) (fun g1=>[⟨g1,27,lZ⟩]) fun g1 a V1 hgg1 S=>?_
 refine hK1 _ _ ?_
 refine wsp fun K2 hK2=>?_
 refine mv S 1 fun a S=>?_
 refine tv S (zad rfl (S.at 3 rfl) (B1.at S.below) Tryz.underlying29 rfl (vs:=(lP b1_ x1_ y1_ b1b_ x1b_ y1b_)) zaR rfl) fun a S=>?_
 refine tc S (F:=Q1 K (sel s q1 (q1'))) (zdo hs.en (S.at 1 rfl) (S.at 0 rfl)) (hs.tells (zcS S 0 B1.q B1.q' B1.kx B1.ky B1.kx' B1.ky')) fun v a V2 hF hb S=>?_
 obtain⟨b1,x1,y1,rfl,hq1,hk1,hk2,ok1,ok2⟩:=hF
 have S:=S.know ok1
 have S:=S.know ok2
 refine tc S (F:=QT (max K 1) (sel s q1 (q1'))) (rc1 Tryz.func169 (S.at 0 rfl)) (ztU (T.keep S.below) (show Q1 K (sel s q1 (q1')) ((aG b1 x1 y1)) _ from⟨b1,x1,y1,rfl,hq1,hk1,hk2,(S.num 1 rfl),(S.num 0 rfl)⟩) (by omega)) fun v a V3 hF hb S=>?_
 obtain⟨b2,x2,y2,rfl,hq2,hk3,hk4,ok3,ok4⟩:=hF
 have S:=S.know ok3
 have S:=S.know ok4
 refine sto S 0 (fun ht=>zaj rfl (S.at 4 rfl) (S.at 0 rfl) zah rfl (zvZ rfl) ht) fun V4 S=>?_
 refine hK2 _ _ ?_
 refine wp_ret ?_
 exact zar rfl S (S.at 4 rfl) (i:=0) rfl Tryz.underlying27 rfl zah ⟨_,rfl,((show QT (max K 1) (sel s q1 (q1')) ((aG b2 x2 y2)) _ from⟨b2,x2,y2,rfl,hq2,hk3,hk4,(S.num 1 rfl),(S.num 0 rfl)⟩)).to rfl (by omega),S.below⟩
theorem ztq {K K':Nat}{q1 q1' q2 q2':Rat}{f0:FuncId}{s:Bool}{g1_:Nat}{b1_ b1b_:Bool}{x1_ y1_ x1b_ y1b_:Num}{g2_:Nat}{b2_ b2b_:Bool}{x2_ y2_ x2b_ y2b_:Num}{V:World}(T:TT V)(hs:Sel f0 s)(B1:PtAt V g1_ K q1 q1' b1_ x1_ y1_ b1b_ x1b_ y1b_)(B2:PtAt V g2_ K' q2 q2' b2_ x2_ y2_ b2b_ x2b_ y2b_)(hK0:K<=400)(hK1:K'<=400):
  Calls Tryz.prog 93 #[.func (.func f0) #[] #[],pT g1_ 0,pT g2_ 0] V (zaf V (QT (2*max (max K K') 1+1) (sel s q1 q1'+sel s q2 q2'))):=by
 refine fb Tryz.func93 Tryz.ntmps93 (zaa B1.ox (zaa B1.oy (zaa B1.ox' (zaa B1.oy' (zaa B2.ox (zaa B2.oy (zaa B2.ox' (zaa B2.oy' zau)))))))) (fun a S=>?_)
 refine wsp fun K1 hK1=>?_
 refine ti S (cs:=lZ) (zam rfl (Tryz.zeroValue27 _) rfl) (fun g1=>[⟨g1,27,lZ⟩]) fun g1 a V1 hgg1 S=>?_
 refine hK1 _ _ ?_
 refine wp_seq_k fun K2 hK2=>?_
 obtain⟨W1,hW1⟩:∃W,W=V1:=⟨_,rfl⟩
 rw[<-hW1]at S ⊢
 have S0:=S
 refine fr 8 [5,6,7,8,9,10,11,12] [IsV (.func (.func f0) #[] #[]),IsV ((aP b1_ x1_ y1_ b1b_ x1b_ y1b_)),Q1 K (sel s q1 (q1')),IsV (.func (.func f0) #[] #[]),IsV ((aP b2_ x2_ y2_ b2b_ x2b_ y2b_)),Q1 K' (sel s q2 (q2')),QL (max K K') 6 ([sel s q1 (q1'),sel s q2 (q2')]),QT (2*(max (max K K') 1)+1) ((sel s q1 (q1'))+(sel s q2 (q2')))] S ?_ ?_
 ·refine sc (fun _ _ S _ _=>sv rfl (zao rfl (S.at 1 rfl))) ?_
  refine sc (fun _ _ S _ _=>sv rfl (zad rfl (S.at 2 rfl) (B1.at S.below) Tryz.underlying29 rfl (vs:=(lP b1_ x1_ y1_ b1b_ x1b_ y1b_)) zaR rfl)) ?_
  refine sc (fun _ _ S _ hd=>sl rfl (zdo hs.en (hd.v 0 rfl rfl) (hd.v 1 rfl rfl)) (hs.tells (zcS S 0 B1.q B1.q' B1.kx B1.ky B1.kx' B1.ky'))) ?_
  refine sc (fun _ _ S _ _=>sv rfl (zao rfl (S.at 1 rfl))) ?_
  refine sc (fun _ _ S _ _=>sv rfl (zad rfl (S.at 3 rfl) (B2.at S.below) Tryz.underlying29 rfl (vs:=(lP b2_ x2_ y2_ b2b_ x2b_ y2b_)) zaR rfl)) ?_
  refine sc (fun _ _ S _ hd=>sl rfl (zdo hs.en (hd.v 3 rfl rfl) (hd.v 4 rfl rfl)) (hs.tells (zcS S 4 B2.q B2.q' B2.kx B2.ky B2.kx' B2.ky'))) ?_
  refine sc (fun _ _ _ _ hd=>sy rfl (zbW rfl rfl rfl (((hd.r 2 rfl rfl)).to rfl (by omega)) (((hd.r 5 rfl rfl)).to rfl (by omega)))) ?_
  refine sc (fun _ _ S _ hd=>sl rfl (rc1 Tryz.func39 rfl) (zvA (T.keep S.below) ((hd.r 6 rfl rfl)).row (by omega))) ?_
  exact sn
 ·intro a1 V2 S hB hf
  obtain⟨b1,x1,y1,hv1,hq1,hk1,hk2,ok1,ok2⟩:=hf.r 7 rfl rfl
  have S:=S.add hv1
  have S:=S.know ok1
  have S:=S.know ok2
  clear hf S0
  show wpList _ _ _ [_] _ _
  refine sto S 0 (fun ht=>zaj rfl (S.at 1 rfl) (S.at 0 rfl) zah rfl (zvZ rfl) ht) fun V3 S=>?_
  refine hK2 _ _ ?_
  refine wp_ret ?_
  exact zar rfl S (S.at 1 rfl) (i:=0) rfl Tryz.underlying27 rfl zah ⟨_,rfl,((show QT (2*(max (max K K') 1)+1) ((sel s q1 (q1'))+(sel s q2 (q2'))) ((aG b1 x1 y1)) _ from⟨b1,x1,y1,rfl,hq1,hk1,hk2,(S.num 1 rfl),(S.num 0 rfl)⟩)).to rfl (by omega),S.below⟩
theorem ztr {K K':Nat}{q1 q1' q2 q2':Rat}{f0:FuncId}{s:Bool}{g1_:Nat}{b1_ b1b_:Bool}{x1_ y1_ x1b_ y1b_:Num}{g2_:Nat}{b2_ b2b_:Bool}{x2_ y2_ x2b_ y2b_:Num}{V:World}(T:TT V)(hs:Sel f0 s)(B1:PtAt V g1_ K q1 q1' b1_ x1_ y1_ b1b_ x1b_ y1b_)(B2:PtAt V g2_ K' q2 q2' b2_ x2_ y2_ b2b_ x2b_ y2b_)(hK0:K<=400)(hK1:K'<=400):
  Calls Tryz.prog 92 #[.func (.func f0) #[] #[],pT g1_ 0,pT g2_ 0] V (zaf V (QT (max K 1+max K' 1+1) (sel s q1 q1' - sel s q2 q2'))):=by
 refine fb Tryz.func92 Tryz.ntmps92 (zaa B1.ox (zaa B1.oy (zaa B1.ox' (zaa B1.oy' (zaa B2.ox (zaa B2.oy (zaa B2.ox' (zaa B2.oy' zau)))))))) (fun a S=>?_)
 refine wsp fun K1 hK1=>?_
 refine ti S (cs:=lZ) (zam rfl (Tryz.zeroValue27 _) rfl) (fun g1=>[⟨g1,27,lZ⟩]) fun g1 a V1 hgg1 S=>?_
 refine hK1 _ _ ?_
 refine wp_seq_k fun K2 hK2=>?_
 obtain⟨W1,hW1⟩:∃W,W=V1:=⟨_,rfl⟩
 rw[<-hW1]at S ⊢
 have S0:=S
 refine fr 7 [5,6,7,8,9,10,11] [IsV (.func (.func f0) #[] #[]),IsV ((aP b1_ x1_ y1_ b1b_ x1b_ y1b_)),Q1 K (sel s q1 (q1')),IsV (.func (.func f0) #[] #[]),IsV ((aP b2_ x2_ y2_ b2b_ x2b_ y2b_)),Q1 K' (sel s q2 (q2')),QT ((max K 1)+(max K' 1)+1) ((sel s q1 (q1')) - (sel s q2 (q2')))] S ?_ ?_
 ·refine sc (fun _ _ S _ _=>sv rfl (zao rfl (S.at 1 rfl))) ?_
  refine sc (fun _ _ S _ _=>sv rfl (zad rfl (S.at 2 rfl) (B1.at S.below) Tryz.underlying29 rfl (vs:=(lP b1_ x1_ y1_ b1b_ x1b_ y1b_)) zaR rfl)) ?_
  refine sc (fun _ _ S _ hd=>sl rfl (zdo hs.en (hd.v 0 rfl rfl) (hd.v 1 rfl rfl)) (hs.tells (zcS S 0 B1.q B1.q' B1.kx B1.ky B1.kx' B1.ky'))) ?_
  refine sc (fun _ _ S _ _=>sv rfl (zao rfl (S.at 1 rfl))) ?_
  refine sc (fun _ _ S _ _=>sv rfl (zad rfl (S.at 3 rfl) (B2.at S.below) Tryz.underlying29 rfl (vs:=(lP b2_ x2_ y2_ b2b_ x2b_ y2b_)) zaR rfl)) ?_
  refine sc (fun _ _ S _ hd=>sl rfl (zdo hs.en (hd.v 3 rfl rfl) (hd.v 4 rfl rfl)) (hs.tells (zcS S 4 B2.q B2.q' B2.kx B2.ky B2.kx' B2.ky'))) ?_
  refine sc (fun _ _ S _ hd=>sl rfl (rc2 Tryz.func37 rfl rfl) (zte (T.keep S.below) (hd.r 2 rfl rfl) (hd.r 5 rfl rfl))) ?_
  exact sn
 ·intro a1 V2 S hB hf
  obtain⟨b1,x1,y1,hv1,hq1,hk1,hk2,ok1,ok2⟩:=hf.r 6 rfl rfl
  have S:=S.add hv1
  have S:=S.know ok1
  have S:=S.know ok2
  clear hf S0
  show wpList _ _ _ [_] _ _
  refine sto S 0 (fun ht=>zaj rfl (S.at 1 rfl) (S.at 0 rfl) zah rfl (zvZ rfl) ht) fun V3 S=>?_
  refine hK2 _ _ ?_
  refine wp_ret ?_
  exact zar rfl S (S.at 1 rfl) (i:=0) rfl Tryz.underlying27 rfl zah ⟨_,rfl,((show QT ((max K 1)+(max K' 1)+1) ((sel s q1 (q1')) - (sel s q2 (q2'))) ((aG b1 x1 y1)) _ from⟨b1,x1,y1,rfl,hq1,hk1,hk2,(S.num 1 rfl),(S.num 0 rfl)⟩)).to rfl (by omega),S.below⟩
theorem znq {K K':Nat}{q1 q1' q2:Rat}{f0:FuncId}{s:Bool}{g1_:Nat}{b1_ b1b_:Bool}{x1_ y1_ x1b_ y1b_:Num}{g2_:Nat}{b2_:Bool}{x2_ y2_:Num}{V:World}(T:TT V)(hs:Sel f0 s)(B1:PtAt V g1_ K q1 q1' b1_ x1_ y1_ b1b_ x1b_ y1b_)(B2:RtAt V g2_ K' q2 b2_ x2_ y2_)(hK0:K<=400)(hK1:K'<=400):
  Calls Tryz.prog 94 #[.func (.func f0) #[] #[],pT g1_ 0,pT g2_ 0] V (zaf V (QT (2*max (max K K') 1) (sel s q1 q1'*q2))):=by
 refine fb Tryz.func94 Tryz.ntmps94 (zaa B1.ox (zaa B1.oy (zaa B1.ox' (zaa B1.oy' (zaa B2.ox (zaa B2.oy zau)))))) (fun a S=>?_)
 refine wsp fun K1 hK1=>?_
 refine ti S (cs:=lZ) (zam rfl (Tryz.zeroValue27 _) rfl) (fun g1=>[⟨g1,27,lZ⟩]) fun g1 a V1 hgg1 S=>?_
 refine hK1 _ _ ?_
 refine wp_seq_k fun K2 hK2=>?_
 obtain⟨W1,hW1⟩:∃W,W=V1:=⟨_,rfl⟩
 rw[<-hW1]at S ⊢
 have S0:=S
 refine fr 6 [5,6,7,8,9,10] [IsV (.func (.func f0) #[] #[]),IsV ((aP b1_ x1_ y1_ b1b_ x1b_ y1b_)),Q1 K (sel s q1 (q1')),IsV ((aG b2_ x2_ y2_)),QL (max K K') 6 ([sel s q1 (q1'),q2]),QT (2*(max (max K K') 1)) ((sel s q1 (q1'))*q2)] S ?_ ?_
 ·refine sc (fun _ _ S _ _=>sv rfl (zao rfl (S.at 1 rfl))) ?_
  refine sc (fun _ _ S _ _=>sv rfl (zad rfl (S.at 2 rfl) (B1.at S.below) Tryz.underlying29 rfl (vs:=(lP b1_ x1_ y1_ b1b_ x1b_ y1b_)) zaR rfl)) ?_
  refine sc (fun _ _ S _ hd=>sl rfl (zdo hs.en (hd.v 0 rfl rfl) (hd.v 1 rfl rfl)) (hs.tells (zcS S 0 B1.q B1.q' B1.kx B1.ky B1.kx' B1.ky'))) ?_
  refine sc (fun _ _ S _ _=>sv rfl (zad rfl (S.at 3 rfl) (B2.at S.below) Tryz.underlying27 rfl (vs:=(aL b2_ x2_ y2_)) zah rfl)) ?_
  refine sc (fun _ _ S _ hd=>sy rfl (zbW rfl rfl (hd.v 3 rfl rfl) (((hd.r 2 rfl rfl)).to rfl (by omega)) (((q2m S 4 B2.q B2.kx B2.ky)).to rfl (by omega)))) ?_
  refine sc (fun _ _ S _ hd=>sl rfl (rc1 Tryz.func40 rfl) (zrr (T.keep S.below) ((hd.r 4 rfl rfl)).row)) ?_
  exact sn
 ·intro a1 V2 S hB hf
  obtain⟨b1,x1,y1,hv1,hq1,hk1,hk2,ok1,ok2⟩:=hf.r 5 rfl rfl
  have S:=S.add hv1
  have S:=S.know ok1
  have S:=S.know ok2
  clear hf S0
  show wpList _ _ _ [_] _ _
  refine sto S 0 (fun ht=>zaj rfl (S.at 1 rfl) (S.at 0 rfl) zah rfl (zvZ rfl) ht) fun V3 S=>?_
  refine hK2 _ _ ?_
  refine wp_ret ?_
  exact zar rfl S (S.at 1 rfl) (i:=0) rfl Tryz.underlying27 rfl zah ⟨_,rfl,((show QT (2*(max (max K K') 1)) ((sel s q1 (q1'))*q2) ((aG b1 x1 y1)) _ from⟨b1,x1,y1,rfl,hq1,hk1,hk2,(S.num 1 rfl),(S.num 0 rfl)⟩)).to rfl (by omega),S.below⟩
theorem zvP {K K':Nat}{q1 q1' q2 q2':Rat}{v1 v2:Value}{V:World}(T:TT V)(h1:P1 K (q1) (q1') v1 V)(h2:P1 K' (q2) (q2') v2 V)(hK0:K<=400)(hK1:K'<=400):
  Calls Tryz.prog 48 #[v1,v2] V (zaf V (PT (2*max (max K K') 1+1) (q1+q2) (q1'+q2'))):=by
 obtain⟨b1,x1,y1,b2,x2,y2,rfl,hq1,hq2,⟨hk1,hk2⟩,⟨hk3,hk4⟩,⟨ok1,ok2⟩,ok3,ok4⟩:=h1
 obtain⟨b3,x3,y3,b4,x4,y4,rfl,hq3,hq4,⟨hk5,hk6⟩,⟨hk7,hk8⟩,⟨ok5,ok6⟩,ok7,ok8⟩:=h2
 refine fb Tryz.func48 Tryz.ntmps48 (zaa ok5 (zaa ok6 (zaa ok7 (zaa ok8 (zaa ok1 (zaa ok2 (zaa ok3 (zaa ok4 zau)))))))) (fun a S=>?_)
 refine wsp fun K1 hK1=>?_
 refine tb S 0 (lP b1 x1 y1 b2 x2 y2) fun g1 a V1 hgg1 S=>?_
 refine tb S 2 (lP b3 x3 y3 b4 x4 y4) fun g2 a V2 hgg2 S=>?_
 refine ti S (cs:=lY) (zam rfl (Tryz.zeroValue29 _) rfl) (fun g3=>[⟨g1,29,(lP b1 x1 y1 b2 x2 y2)⟩,⟨g2,29,(lP b3 x3 y3 b4 x4 y4)⟩,⟨g3,29,lY⟩]) fun g3 a V3 hgg3 S=>?_
 refine hK1 _ _ ?_
 refine wsp fun K2 hK2=>?_
 refine tv S (zgz rfl (S.at 2 rfl) (S.at 1 rfl)) fun a S=>?_
 have hB1:=(PtAt.mk (V:=V3) (S.bx 0 rfl) hq1 hq2 hk1 hk2 hk3 hk4 (S.num 4 rfl) (S.num 5 rfl) (S.num 6 rfl) (S.num 7 rfl))
 have hB2:=(PtAt.mk (V:=V3) (S.bx 1 rfl) hq3 hq4 hk5 hk6 hk7 hk8 (S.num 0 rfl) (S.num 1 rfl) (S.num 2 rfl) (S.num 3 rfl))
 refine tc S (F:=PT (2*max (max K K') 1+1) ((q1+q2)) ((q1'+q2'))) (rc1 Tryz.func91 (S.at 0 rfl)) (zfa (q:=(q1+q2)) (q':=(q1'+q2')) (enters_of Tryz.func93 (by kernel_rfl) rfl) (fun W hW=>ztq ((T.keep S.below).keep hW) zsR (hB1.keep hW) (hB2.keep hW) (by omega) (by omega)) (fun W hW=>ztq ((T.keep S.below).keep hW) zsS (hB1.keep hW) (hB2.keep hW) (by omega) (by omega))) fun v a V4 hF hb S=>?_
 obtain⟨b5,x5,y5,b6,x6,y6,rfl,hq5,hq6,⟨hk9,hk10⟩,⟨hk11,hk12⟩,⟨ok9,ok10⟩,ok11,ok12⟩:=hF
 have S:=S.know ok9
 have S:=S.know ok10
 have S:=S.know ok11
 have S:=S.know ok12
 refine sto S 2 (fun ht=>zaj rfl (S.at 2 rfl) (S.at 0 rfl) zaR rfl (zvZ rfl) ht) fun V5 S=>?_
 refine hK2 _ _ ?_
 refine wp_ret ?_
 exact zar rfl S (S.at 2 rfl) (i:=2) rfl Tryz.underlying29 rfl zaR ⟨_,rfl,((zby S 0 hq5 hq6 hk9 hk10 hk11 hk12)).to rfl rfl (by omega),S.below⟩
theorem zrw {K K':Nat}{q1 q1' q2 q2':Rat}{v1 v2:Value}{V:World}(T:TT V)(h1:P1 K (q1) (q1') v1 V)(h2:P1 K' (q2) (q2') v2 V)(hK0:K<=400:=by omega)(hK1:K'<=400:=by omega):
  Calls Tryz.prog 45 #[v1,v2] V (zaf V (PT (max K 1+max K' 1+1) (q1 - q2) (q1' - q2'))):=by
 obtain⟨b1,x1,y1,b2,x2,y2,rfl,hq1,hq2,⟨hk1,hk2⟩,⟨hk3,hk4⟩,⟨ok1,ok2⟩,ok3,ok4⟩:=h1
 obtain⟨b3,x3,y3,b4,x4,y4,rfl,hq3,hq4,⟨hk5,hk6⟩,⟨hk7,hk8⟩,⟨ok5,ok6⟩,ok7,ok8⟩:=h2
 refine fb Tryz.func45 Tryz.ntmps45 (zaa ok5 (zaa ok6 (zaa ok7 (zaa ok8 (zaa ok1 (zaa ok2 (zaa ok3 (zaa ok4 zau)))))))) (fun a S=>?_)
 refine wsp fun K1 hK1=>?_
 refine tb S 0 (lP b1 x1 y1 b2 x2 y2) fun g1 a V1 hgg1 S=>?_
 refine tb S 2 (lP b3 x3 y3 b4 x4 y4) fun g2 a V2 hgg2 S=>?_
 refine ti S (cs:=lY) (zam rfl (Tryz.zeroValue29 _) rfl) (fun g3=>[⟨g1,29,(lP b1 x1 y1 b2 x2 y2)⟩,⟨g2,29,(lP b3 x3 y3 b4 x4 y4)⟩,⟨g3,29,lY⟩]) fun g3 a V3 hgg3 S=>?_
 refine hK1 _ _ ?_
 refine wsp fun K2 hK2=>?_
 refine tv S (zgz rfl (S.at 2 rfl) (S.at 1 rfl)) fun a S=>?_
 have hB1:=(PtAt.mk (V:=V3) (S.bx 0 rfl) hq1 hq2 hk1 hk2 hk3 hk4 (S.num 4 rfl) (S.num 5 rfl) (S.num 6 rfl) (S.num 7 rfl))
 have hB2:=(PtAt.mk (V:=V3) (S.bx 1 rfl) hq3 hq4 hk5 hk6 hk7 hk8 (S.num 0 rfl) (S.num 1 rfl) (S.num 2 rfl) (S.num 3 rfl))
 refine tc S (F:=PT (max K 1+max K' 1+1) ((q1 - q2)) ((q1' - q2'))) (rc1 Tryz.func91 (S.at 0 rfl)) (zfa (q:=(q1 - q2)) (q':=(q1' - q2')) (enters_of Tryz.func92 (by kernel_rfl) rfl) (fun W hW=>ztr ((T.keep S.below).keep hW) zsR (hB1.keep hW) (hB2.keep hW) (by omega) (by omega)) (fun W hW=>ztr ((T.keep S.below).keep hW) zsS (hB1.keep hW) (hB2.keep hW) (by omega) (by omega))) fun v a V4 hF hb S=>?_
 obtain⟨b5,x5,y5,b6,x6,y6,rfl,hq5,hq6,⟨hk9,hk10⟩,⟨hk11,hk12⟩,⟨ok9,ok10⟩,ok11,ok12⟩:=hF
 have S:=S.know ok9
 have S:=S.know ok10
 have S:=S.know ok11
 have S:=S.know ok12
 refine sto S 2 (fun ht=>zaj rfl (S.at 2 rfl) (S.at 0 rfl) zaR rfl (zvZ rfl) ht) fun V5 S=>?_
 refine hK2 _ _ ?_
 refine wp_ret ?_
 exact zar rfl S (S.at 2 rfl) (i:=2) rfl Tryz.underlying29 rfl zaR ⟨_,rfl,((zby S 0 hq5 hq6 hk9 hk10 hk11 hk12)).to rfl rfl (by omega),S.below⟩
theorem zuA {K K':Nat}{q1 q1' q2:Rat}{v1 v2:Value}{V:World}(T:TT V)(h1:P1 K (q1) (q1') v1 V)(h2:Q1 K' (q2) v2 V)(hK0:K<=400)(hK1:K'<=400):
  Calls Tryz.prog 49 #[v1,v2] V (zaf V (PT (2*max (max K K') 1) (q1*q2) (q1'*q2))):=by
 obtain⟨b1,x1,y1,b2,x2,y2,rfl,hq1,hq2,⟨hk1,hk2⟩,⟨hk3,hk4⟩,⟨ok1,ok2⟩,ok3,ok4⟩:=h1
 obtain⟨b3,x3,y3,rfl,hq3,hk5,hk6,ok5,ok6⟩:=h2
 refine fb Tryz.func49 Tryz.ntmps49 (zaa ok5 (zaa ok6 (zaa ok1 (zaa ok2 (zaa ok3 (zaa ok4 zau)))))) (fun a S=>?_)
 refine wsp fun K1 hK1=>?_
 refine tb S 0 (lP b1 x1 y1 b2 x2 y2) fun g1 a V1 hgg1 S=>?_
 refine tb S 2 (aL b3 x3 y3) fun g2 a V2 hgg2 S=>?_
 refine ti S (cs:=lY) (zam rfl (Tryz.zeroValue29 _) rfl) (fun g3=>[⟨g1,29,(lP b1 x1 y1 b2 x2 y2)⟩,⟨g2,27,(aL b3 x3 y3)⟩,⟨g3,29,lY⟩]) fun g3 a V3 hgg3 S=>?_
 refine hK1 _ _ ?_
 refine wsp fun K2 hK2=>?_
 refine tv S (zgz rfl (S.at 2 rfl) (S.at 1 rfl)) fun a S=>?_
 have hB1:=(PtAt.mk (V:=V3) (S.bx 0 rfl) hq1 hq2 hk1 hk2 hk3 hk4 (S.num 2 rfl) (S.num 3 rfl) (S.num 4 rfl) (S.num 5 rfl))
 have hB2:=(RtAt.mk (V:=V3) (S.bx 1 rfl) hq3 hk5 hk6 (S.num 0 rfl) (S.num 1 rfl))
 refine tc S (F:=PT (2*max (max K K') 1) ((q1*q2)) ((q1'*q2))) (rc1 Tryz.func91 (S.at 0 rfl)) (zfa (q:=(q1*q2)) (q':=(q1'*q2)) (enters_of Tryz.func94 (by kernel_rfl) rfl) (fun W hW=>znq ((T.keep S.below).keep hW) zsR (hB1.keep hW) (hB2.keep hW) (by omega) (by omega)) (fun W hW=>znq ((T.keep S.below).keep hW) zsS (hB1.keep hW) (hB2.keep hW) (by omega) (by omega))) fun v a V4 hF hb S=>?_
 obtain⟨b4,x4,y4,b5,x5,y5,rfl,hq4,hq5,⟨hk7,hk8⟩,⟨hk9,hk10⟩,⟨ok7,ok8⟩,ok9,ok10⟩:=hF
 have S:=S.know ok7
 have S:=S.know ok8
 have S:=S.know ok9
 have S:=S.know ok10
 refine sto S 2 (fun ht=>zaj rfl (S.at 2 rfl) (S.at 0 rfl) zaR rfl (zvZ rfl) ht) fun V5 S=>?_
 refine hK2 _ _ ?_
 refine wp_ret ?_
 exact zar rfl S (S.at 2 rfl) (i:=2) rfl Tryz.underlying29 rfl zaR ⟨_,rfl,((zby S 0 hq4 hq5 hk7 hk8 hk9 hk10)).to rfl rfl (by omega),S.below⟩
theorem vOf {n m:Int}{V:World}(hn:(-9223372036854775808<=n/\n<=9223372036854775807)/\ -9223372036854775808<=m/\m<=9223372036854775807):
  Calls Tryz.prog 47 #[.int .i64 n,.int .i64 m] V (zaf V (PT 2 ((n:Int):Rat) ((m:Int):Rat))):=by
 refine fb Tryz.func47 Tryz.ntmps47 zau (fun a S=>?_)
 refine wsp fun K1 hK1=>?_
 refine ti S (cs:=lY) (zam rfl (Tryz.zeroValue29 _) rfl) (fun g1=>[⟨g1,29,lY⟩]) fun g1 a V1 hgg1 S=>?_
 refine hK1 _ _ ?_
 refine wsp fun K2 hK2=>?_
 refine mv S 1 fun a S=>?_
 refine tc S (F:=QT 2 ((n:Int))) (rc1 Tryz.func38 (S.at 0 rfl)) (ztT (n:=n) (by omega)) fun v a V2 hF hb S=>?_
 obtain⟨b1,x1,y1,rfl,hq1,hk1,hk2,ok1,ok2⟩:=hF
 have S:=S.know ok1
 have S:=S.know ok2
 refine mv S 4 fun a S=>?_
 refine tc S (F:=QT 2 ((m:Int))) (rc1 Tryz.func38 (S.at 0 rfl)) (ztT (n:=m) (by omega)) fun v a V3 hF hb S=>?_
 obtain⟨b2,x2,y2,rfl,hq2,hk3,hk4,ok3,ok4⟩:=hF
 have S:=S.know ok3
 have S:=S.know ok4
 refine tv S (zaU rfl (S.at 2 rfl) (S.at 0 rfl) (znn _ _ _ _ _ _ _ _ _ _ _ _ _ _)) fun a S=>?_
 refine sto S 0 (fun ht=>zaj rfl (S.at 5 rfl) (S.at 0 rfl) zaR rfl (zvZ rfl) ht) fun V4 S=>?_
 refine hK2 _ _ ?_
 refine wp_ret ?_
 exact zar rfl S (S.at 5 rfl) (i:=0) rfl Tryz.underlying29 rfl zaR ⟨_,rfl,((zby S 0 hq1 hq2 hk1 hk2 hk3 hk4)).to rfl rfl (by omega),S.below⟩
section
variable (T : TT V)
include T
theorem zvB (h1:P1 K q1 q1' v1 V)(h2:P1 K' q2 q2' v2 V)(b:K<=400)(b':K'<=400):Calls Tryz.prog 48 #[v1,v2] V (zaf V (PT (max K 1+max K' 1+1) (q1+q2) (q1'+q2'))):=
 zdd (zvP T h1 h2 b b') (fun _ _ h=>h.sml (h1.sm.1.add h2.sm.1) (h1.sm.2.add h2.sm.2))
theorem zsT (h1:P1 K q1 q1' v1 V)(h2:Q1 K' q2 v2 V)(b:K<=400)(b':K'<=400):Calls Tryz.prog 49 #[v1,v2] V (zaf V (PT (max K 1+max K' 1) (q1*q2) (q1'*q2))):=
 zdd (zuA T h1 h2 b b') (fun _ _ h=>h.sml (h1.sm.1.mul h2.sm) (h1.sm.2.mul h2.sm))
end
def absR (q:Rat):Rat:=if q<0 then -q else q
theorem zrx (h:decide (zan q 0<0)=true): -q=absR q:=by
 unfold absR
 rw[if_pos]
 by_cases hc:q<0
 ·exact hc
 ·have:=of_decide_eq_true (zg7.2 hc);have:=of_decide_eq_true h;omega
theorem zry (h:decide (zan q 0<0)=false):q=absR q:=by
 unfold absR
 rw[if_neg]
 intro hc
 rw[zcO hc]at h;cases h
def za0 (q1 q1' q2 q2':Rat):Int:=if zan q1 q2=0 then zan q1' q2' else zan q1 q2
theorem zrz (h:(!decide (zan q1 q2=0))=true):zan q1 q2=za0 q1 q1' q2 q2':=by
 unfold za0;rw[if_neg];simpa using h
theorem zrA (h:(!decide (zan q1 q2=0))=false):zan q1' q2'=za0 q1 q1' q2 q2':=by
 unfold za0;rw[if_pos];simpa using h
theorem zsU (h:decide (zan q1 q2=0)=true):decide (zan q1' q2'=0)=decide (za0 q1 q1' q2 q2'=0):=by
 unfold za0;rw[if_pos (of_decide_eq_true h)]
theorem zsV (h:decide (zan q1 q2=0)=false):false=decide (za0 q1 q1' q2 q2'=0):=by
 unfold za0;rw[if_neg (of_decide_eq_false h),h]
theorem zuB {K K':Nat}{q1 q1' q2 q2':Rat}{v1 v2:Value}{V:World}(T:TT V)(h1:P1 K (q1) (q1') v1 V)(h2:P1 K' (q2) (q2') v2 V)(hK0:K<=300)(hK1:K'<=300):
  Calls Tryz.prog 46 #[v1,v2] V (zaf V (QT (4*max (max K K') 1+1) (q1*q2' - q1'*q2))):=by
 obtain⟨b1,x1,y1,b2,x2,y2,rfl,hq1,hq2,⟨hk1,hk2⟩,⟨hk3,hk4⟩,⟨ok1,ok2⟩,ok3,ok4⟩:=h1
 obtain⟨b3,x3,y3,b4,x4,y4,rfl,hq3,hq4,⟨hk5,hk6⟩,⟨hk7,hk8⟩,⟨ok5,ok6⟩,ok7,ok8⟩:=h2
 refine fb Tryz.func46 Tryz.ntmps46 (zaa ok5 (zaa ok6 (zaa ok7 (zaa ok8 (zaa ok1 (zaa ok2 (zaa ok3 (zaa ok4 zau)))))))) (fun a S=>?_)
 refine wsp fun K1 hK1=>?_
 refine tb S 0 (lP b1 x1 y1 b2 x2 y2) fun g1 a V1 hgg1 S=>?_
 refine tb S 2 (lP b3 x3 y3 b4 x4 y4) fun g2 a V2 hgg2 S=>?_
 refine ti S (cs:=lZ) (zam rfl (Tryz.zeroValue27 _) rfl) (fun g3=>[⟨g1,29,(lP b1 x1 y1 b2 x2 y2)⟩,⟨g2,29,(lP b3 x3 y3 b4 x4 y4)⟩,⟨g3,27,lZ⟩]) fun g3 a V3 hgg3 S=>?_
 refine hK1 _ _ ?_
 refine wp_seq_k fun K2 hK2=>?_
 obtain⟨W1,hW1⟩:∃W,W=V3:=⟨_,rfl⟩
 rw[<-hW1]at S ⊢
 have S0:=S
 refine fr 13 [5,6,7,8,9,10,11,12,13,14,15,16,17] [IsV (pT g1 0),IsV ((aG b1 x1 y1)),IsV (pT g2 3),IsV ((aG b4 x4 y4)),QL (max K K') 6 ([q1,q2']),QT (2*(max (max K K') 1)) (q1*(q2')),IsV (pT g1 3),IsV ((aG b2 x2 y2)),IsV (pT g2 0),IsV ((aG b3 x3 y3)),QL (max K K') 6 ([q1',q2]),QT (2*(max (max K K') 1)) ((q1')*q2),QT ((max (2*(max (max K K') 1)) 1)+(max (2*(max (max K K') 1)) 1)+1) ((q1*(q2')) - ((q1')*q2))] S ?_ ?_
 ·refine sc (fun _ _ S _ _=>sv rfl (zab rfl (S.at 2 rfl) (zaV _))) ?_
  refine sc (fun _ _ S _ hd=>sv rfl (zad rfl (hd.v 0 rfl rfl) (S.bx 0 rfl) Tryz.underlying27 rfl (vs:=(aL b1 x1 y1)) zah rfl)) ?_
  refine sc (fun _ _ S _ _=>sv rfl (zab rfl (S.at 1 rfl) (za3 _))) ?_
  refine sc (fun _ _ S _ hd=>sv rfl (zad rfl (hd.v 2 rfl rfl) (S.bx 1 rfl) Tryz.underlying27 rfl (vs:=(aL b4 x4 y4)) zah rfl)) ?_
  refine sc (fun _ _ S _ hd=>sy rfl (zbW rfl (hd.v 1 rfl rfl) (hd.v 3 rfl rfl) (((q2m S 4 hq1 hk1 hk2)).to rfl (by omega)) (((q2m S 2 hq4 hk7 hk8)).to rfl (by omega)))) ?_
  refine sc (fun _ _ S _ hd=>sl rfl (rc1 Tryz.func40 rfl) (zrr (T.keep S.below) ((hd.r 4 rfl rfl)).row)) ?_
  refine sc (fun _ _ S _ _=>sv rfl (zab rfl (S.at 2 rfl) (za3 _))) ?_
  refine sc (fun _ _ S _ hd=>sv rfl (zad rfl (hd.v 6 rfl rfl) (S.bx 0 rfl) Tryz.underlying27 rfl (vs:=(aL b2 x2 y2)) zah rfl)) ?_
  refine sc (fun _ _ S _ _=>sv rfl (zab rfl (S.at 1 rfl) (zaV _))) ?_
  refine sc (fun _ _ S _ hd=>sv rfl (zad rfl (hd.v 8 rfl rfl) (S.bx 1 rfl) Tryz.underlying27 rfl (vs:=(aL b3 x3 y3)) zah rfl)) ?_
  refine sc (fun _ _ S _ hd=>sy rfl (zbW rfl (hd.v 7 rfl rfl) (hd.v 9 rfl rfl) (((q2m S 6 hq2 hk3 hk4)).to rfl (by omega)) (((q2m S 0 hq3 hk5 hk6)).to rfl (by omega)))) ?_
  refine sc (fun _ _ S _ hd=>sl rfl (rc1 Tryz.func40 rfl) (zrr (T.keep S.below) ((hd.r 10 rfl rfl)).row)) ?_
  refine sc (fun _ _ S _ hd=>sl rfl (rc2 Tryz.func37 rfl rfl) (zte (T.keep S.below) ((hd.r 5 rfl rfl)).any ((hd.r 11 rfl rfl)).any)) ?_
  exact sn
 ·intro a1 V4 S hB hf
  obtain⟨b5,x5,y5,hv1,hq5,hk9,hk10,ok9,ok10⟩:=hf.r 12 rfl rfl
  have S:=S.add hv1
  have S:=S.know ok9
  have S:=S.know ok10
  clear hf S0
  show wpList _ _ _ [_] _ _
  refine sto S 2 (fun ht=>zaj rfl (S.at 1 rfl) (S.at 0 rfl) zah rfl (zvZ rfl) ht) fun V5 S=>?_
  refine hK2 _ _ ?_
  refine wp_ret ?_
  exact zar rfl S (S.at 1 rfl) (i:=2) rfl Tryz.underlying27 rfl zah ⟨_,rfl,((show QT ((max (2*(max (max K K') 1)) 1)+(max (2*(max (max K K') 1)) 1)+1) ((q1*(q2')) - ((q1')*q2)) ((aG b5 x5 y5)) _ from⟨b5,x5,y5,rfl,hq5,hk9,hk10,(S.num 1 rfl),(S.num 0 rfl)⟩)).to rfl (by omega),S.below⟩
section
variable (T : TT V)
include T
theorem zjU (h1:P1 K q1 q1' v1 V)(h2:P1 K' q2 q2' v2 V)(b:K<=300)(b':K'<=300):Calls Tryz.prog 46 #[v1,v2] V (zaf V (QT (2*(max K 1+max K' 1)+1) (q1*q2' - q1'*q2))):=
 zdd (zuB T h1 h2 b b') (fun _ _ h=>h.smk (((h1.sm.1.mul h2.sm.2).sub (h1.sm.2.mul h2.sm.1)).mono (by omega)))
end
theorem zsW {K K':Nat}{q1 q1' q2 q2':Rat}{v1 v2:Value}{V:World}(T:TT V)(h1:P1 K (q1) (q1') v1 V)(h2:P1 K' (q2) (q2') v2 V)(hK0:K<=400:=by omega)(hK1:K'<=400:=by omega):
  Calls Tryz.prog 63 #[v1,v2] V (zaf V (fun v _=>v= .int .i64 (za0 q1 q1' q2 q2'))):=by
 obtain⟨b1,x1,y1,b2,x2,y2,rfl,hq1,hq2,⟨hk1,hk2⟩,⟨hk3,hk4⟩,⟨ok1,ok2⟩,ok3,ok4⟩:=h1
 obtain⟨b3,x3,y3,b4,x4,y4,rfl,hq3,hq4,⟨hk5,hk6⟩,⟨hk7,hk8⟩,⟨ok5,ok6⟩,ok7,ok8⟩:=h2
 refine fb Tryz.func63 Tryz.ntmps63 (zaa ok5 (zaa ok6 (zaa ok7 (zaa ok8 (zaa ok1 (zaa ok2 (zaa ok3 (zaa ok4 zau)))))))) (fun a S=>?_)
 refine wsp fun K1 hK1=>?_
 refine tb S 0 (lP b1 x1 y1 b2 x2 y2) fun g1 a V1 hgg1 S=>?_
 refine tb S 2 (lP b3 x3 y3 b4 x4 y4) fun g2 a V2 hgg2 S=>?_
 refine ac S fun a S=>?_
 refine hK1 _ _ ?_
 refine wp_seq_k fun K2 hK2=>?_
 refine wsp fun K3 hK3=>?_
 refine tv S (zab rfl (S.at 2 rfl) (zaV _)) fun a S=>?_
 refine tv S (zad rfl (S.at 0 rfl) (S.bx 0 rfl) Tryz.underlying27 rfl (vs:=(aL b1 x1 y1)) zah rfl) fun a S=>?_
 refine tv S (zab rfl (S.at 3 rfl) (zaV _)) fun a S=>?_
 refine tv S (zad rfl (S.at 0 rfl) (S.bx 1 rfl) Tryz.underlying27 rfl (vs:=(aL b3 x3 y3)) zah rfl) fun a S=>?_
 refine tc S (rc2 Tryz.func105 (S.at 2 rfl) (S.at 0 rfl)) (zkI (T.keep S.below) (q2m S 4 hq1 hk1 hk2) (q2m S 0 hq3 hk5 hk6)) fun v a V3 hF hb S=>?_
 subst hF
 refine tv S (zak rfl (S.at 0 rfl)) fun a S=>?_
 refine hK3 _ _ ?_
 refine wsp fun K4 hK4=>?_
 refine mv S 0 fun a S=>?_
 refine tv S (zgp _ (by decide) rfl (S.at 0 rfl) rfl) fun a S=>?_
 refine hK4 _ _ ?_
 rcases zv9 (!decide (zan q1 q2=0))with hc12|hc12
 ·refine wp_cond_true ((S.at 0 rfl).trans (congrArg Value.bool hc12)) ?_
  refine wsp fun K5 hK5=>?_
  refine mv S 2 fun a S=>?_
  refine av S (zak rfl (S.at 0 rfl)) fun a S=>?_
  refine hK5 _ _ ?_
  refine wp_ret ?_
  exact zay rfl S (S.at 0 rfl) ⟨_,rfl,congrArg (Value.int .i64) (zrz hc12),S.below⟩
 ·refine wp_cond_false ((S.at 0 rfl).trans (congrArg Value.bool hc12)) ?_
  refine wp_skip ?_
  refine hK2 _ _ ?_
  refine wsp fun K6 hK6=>?_
  refine tv S (zab rfl (S.at 10 rfl) (za3 _)) fun a S=>?_
  refine tv S (zad rfl (S.at 0 rfl) (S.bx 0 rfl) Tryz.underlying27 rfl (vs:=(aL b2 x2 y2)) zah rfl) fun a S=>?_
  refine tv S (zab rfl (S.at 11 rfl) (za3 _)) fun a S=>?_
  refine tv S (zad rfl (S.at 0 rfl) (S.bx 1 rfl) Tryz.underlying27 rfl (vs:=(aL b4 x4 y4)) zah rfl) fun a S=>?_
  refine tc S (rc2 Tryz.func105 (S.at 2 rfl) (S.at 0 rfl)) (zkI (T.keep S.below) (q2m S 6 hq2 hk3 hk4) (q2m S 2 hq4 hk7 hk8)) fun v a V4 hF hb S=>?_
  subst hF
  refine av S (zak rfl (S.at 0 rfl)) fun a S=>?_
  refine hK6 _ _ ?_
  refine wp_ret ?_
  exact zay rfl S (S.at 0 rfl) ⟨_,rfl,congrArg (Value.int .i64) (zrA hc12),S.below⟩
theorem zvC {K K':Nat}{q1 q1' q2 q2':Rat}{v1 v2:Value}{V:World}(T:TT V)(h1:P1 K (q1) (q1') v1 V)(h2:P1 K' (q2) (q2') v2 V)(hK0:K<=400)(hK1:K'<=400):
  Calls Tryz.prog 65 #[v1,v2] V (zaf V (fun v _=>v= .bool (decide (za0 q1 q1' q2 q2'=0)))):=by
 obtain⟨b1,x1,y1,b2,x2,y2,rfl,hq1,hq2,⟨hk1,hk2⟩,⟨hk3,hk4⟩,⟨ok1,ok2⟩,ok3,ok4⟩:=h1
 obtain⟨b3,x3,y3,b4,x4,y4,rfl,hq3,hq4,⟨hk5,hk6⟩,⟨hk7,hk8⟩,⟨ok5,ok6⟩,ok7,ok8⟩:=h2
 refine fb Tryz.func65 Tryz.ntmps65 (zaa ok5 (zaa ok6 (zaa ok7 (zaa ok8 (zaa ok1 (zaa ok2 (zaa ok3 (zaa ok4 zau)))))))) (fun a S=>?_)
 refine wsp fun K1 hK1=>?_
 refine tb S 0 (lP b1 x1 y1 b2 x2 y2) fun g1 a V1 hgg1 S=>?_
 refine tb S 2 (lP b3 x3 y3 b4 x4 y4) fun g2 a V2 hgg2 S=>?_
 refine ac S fun a S=>?_
 refine hK1 _ _ ?_
 refine wp_seq_k fun K2 hK2=>?_
 rcases zv9 (decide (zan q1 q2=0))with hs1|hs1
 ·skip
  refine zaD ?_
  refine tv S (zab rfl (S.at 2 rfl) (zaV _)) fun a S=>?_
  refine tv S (zad rfl (S.at 0 rfl) (S.bx 0 rfl) Tryz.underlying27 rfl (vs:=(aL b1 x1 y1)) zah rfl) fun a S=>?_
  refine tv S (zab rfl (S.at 3 rfl) (zaV _)) fun a S=>?_
  refine tv S (zad rfl (S.at 0 rfl) (S.bx 1 rfl) Tryz.underlying27 rfl (vs:=(aL b3 x3 y3)) zah rfl) fun a S=>?_
  refine tc S (rc2 Tryz.func106 (S.at 2 rfl) (S.at 0 rfl)) (gtr (zlY (T.keep S.below) (q2m S 4 hq1 hk1 hk2) (q2m S 0 hq3 hk5 hk6)) hs1) fun v a V3 hF hb S=>?_
  subst hF
  refine mv S 0 fun a S=>?_
  refine tvg S (S.at 0 rfl) (zab rfl (S.at 8 rfl) (za3 _)) fun a S=>?_
  refine tvg S (S.at 1 rfl) (zad rfl (S.at 0 rfl) (S.bx 0 rfl) Tryz.underlying27 rfl (vs:=(aL b2 x2 y2)) zah rfl) fun a S=>?_
  refine tvg S (S.at 2 rfl) (zab rfl (S.at 9 rfl) (za3 _)) fun a S=>?_
  refine tvg S (S.at 3 rfl) (zad rfl (S.at 0 rfl) (S.bx 1 rfl) Tryz.underlying27 rfl (vs:=(aL b4 x4 y4)) zah rfl) fun a S=>?_
  refine tcg S (S.at 4 rfl) (rc2 Tryz.func106 (S.at 2 rfl) (S.at 0 rfl)) (zlY (T.keep S.below) (q2m S 6 hq2 hk3 hk4) (q2m S 2 hq4 hk7 hk8)) fun v a V4 hF hb S=>?_
  subst hF
  refine tv S (zas true rfl (S.at 5 rfl) (S.at 0 rfl)) fun a S=>?_
  refine av S (zak rfl (S.at 0 rfl)) fun a S=>?_
  refine hK2 _ _ ?_
  refine wp_ret ?_
  exact zay rfl S (S.at 0 rfl) ⟨_,rfl,congrArg Value.bool (zsU hs1),S.below⟩
 ·skip
  refine zaD ?_
  refine tv S (zab rfl (S.at 2 rfl) (zaV _)) fun a S=>?_
  refine tv S (zad rfl (S.at 0 rfl) (S.bx 0 rfl) Tryz.underlying27 rfl (vs:=(aL b1 x1 y1)) zah rfl) fun a S=>?_
  refine tv S (zab rfl (S.at 3 rfl) (zaV _)) fun a S=>?_
  refine tv S (zad rfl (S.at 0 rfl) (S.bx 1 rfl) Tryz.underlying27 rfl (vs:=(aL b3 x3 y3)) zah rfl) fun a S=>?_
  refine tc S (rc2 Tryz.func106 (S.at 2 rfl) (S.at 0 rfl)) (gtr (zlY (T.keep S.below) (q2m S 4 hq1 hk1 hk2) (q2m S 0 hq3 hk5 hk6)) hs1) fun v a V5 hF hb S=>?_
  subst hF
  refine mv S 0 fun a S=>?_
  refine tk S (S.at 0 rfl) fun a S=>?_
  refine tk S (S.at 1 rfl) fun a S=>?_
  refine tk S (S.at 2 rfl) fun a S=>?_
  refine tk S (S.at 3 rfl) fun a S=>?_
  refine tk S (S.at 4 rfl) fun a S=>?_
  refine tv S (zas false rfl (S.at 5 rfl) rfl) fun a S=>?_
  refine av S (zak rfl (S.at 0 rfl)) fun a S=>?_
  refine hK2 _ _ ?_
  refine wp_ret ?_
  exact zay rfl S (S.at 0 rfl) ⟨_,rfl,congrArg Value.bool (zsV hs1),S.below⟩
end
theorem zvQ {n m:Int}{V:World}(hn:(-9223372036854775808<=n/\n<=9223372036854775807)/\ -9223372036854775808<=m/\m<=9223372036854775807):
  Calls Tryz.prog 50 #[.int .i64 n,.int .i64 m] V (zaf V (PT 2 ((n:Int):Rat) ((m:Int):Rat))):=by
 refine fb Tryz.func50 Tryz.ntmps50 zau (fun a S=>?_)
 refine wsp fun K1 hK1=>?_
 refine ti S (cs:=lY) (zam rfl (Tryz.zeroValue29 _) rfl) (fun g1=>[⟨g1,29,lY⟩]) fun g1 a V1 hgg1 S=>?_
 refine hK1 _ _ ?_
 refine wsp fun K2 hK2=>?_
 refine mv S 1 fun a S=>?_
 refine tc S (F:=QT 2 ((n:Int))) (rc1 Tryz.func28 (S.at 0 rfl)) (zmn (n:=n) (by omega)) fun v a V2 hF hb S=>?_
 obtain⟨b1,x1,y1,rfl,hq1,hk1,hk2,ok1,ok2⟩:=hF
 have S:=S.know ok1
 have S:=S.know ok2
 refine mv S 4 fun a S=>?_
 refine tc S (F:=QT 2 ((m:Int))) (rc1 Tryz.func28 (S.at 0 rfl)) (zmn (n:=m) (by omega)) fun v a V3 hF hb S=>?_
 obtain⟨b2,x2,y2,rfl,hq2,hk3,hk4,ok3,ok4⟩:=hF
 have S:=S.know ok3
 have S:=S.know ok4
 refine tv S (zaU rfl (S.at 2 rfl) (S.at 0 rfl) (znn _ _ _ _ _ _ _ _ _ _ _ _ _ _)) fun a S=>?_
 refine sto S 0 (fun ht=>zaj rfl (S.at 5 rfl) (S.at 0 rfl) zaR rfl (zvZ rfl) ht) fun V4 S=>?_
 refine hK2 _ _ ?_
 refine wp_ret ?_
 exact zar rfl S (S.at 5 rfl) (i:=0) rfl Tryz.underlying29 rfl zaR ⟨_,rfl,((zby S 0 hq1 hq2 hk1 hk2 hk3 hk4)).to rfl rfl (by omega),S.below⟩
theorem znr {K K':Nat}{q q' r r':Rat}{v1 v2:Value}{V:World}(h1:PT K (q) (q') v1 V)(h2:PT K' (r) (r') v2 V)(e1:q=r)(e2:q'=r'):
  Calls Tryz.prog 15 #[v1,v2] V (zaf V (fun v _=>v= .bool true)):=by
 obtain⟨b1,x1,y1,b2,x2,y2,rfl,hq1,hq2,⟨hk1,hk2⟩,⟨hk3,hk4⟩,⟨ok1,ok2⟩,ok3,ok4⟩:=h1
 obtain⟨b3,x3,y3,b4,x4,y4,rfl,hq3,hq4,⟨hk5,hk6⟩,⟨hk7,hk8⟩,⟨ok5,ok6⟩,ok7,ok8⟩:=h2
 refine fb Tryz.func15 Tryz.ntmps15 (zaa ok5 (zaa ok6 (zaa ok7 (zaa ok8 (zaa ok1 (zaa ok2 (zaa ok3 (zaa ok4 zau)))))))) (fun a S=>?_)
 refine wsp fun K1 hK1=>?_
 refine tb S 0 (lP b1 x1 y1 b2 x2 y2) fun g1 a V1 hgg1 S=>?_
 refine tb S 2 (lP b3 x3 y3 b4 x4 y4) fun g2 a V2 hgg2 S=>?_
 refine ac S fun a S=>?_
 refine hK1 _ _ ?_
 refine wsp fun K2 hK2=>?_
 refine tv S (zab rfl (S.at 2 rfl) (zaV _)) fun a S=>?_
 refine tv S (zad rfl (S.at 0 rfl) (S.bx 0 rfl) Tryz.underlying27 rfl (vs:=(aL b1 x1 y1)) zah rfl) fun a S=>?_
 refine tv S (zab rfl (S.at 3 rfl) (zaV _)) fun a S=>?_
 refine tv S (zad rfl (S.at 0 rfl) (S.bx 1 rfl) Tryz.underlying27 rfl (vs:=(aL b3 x3 y3)) zah rfl) fun a S=>?_
 refine tc S (rc2 Tryz.func14 (S.at 2 rfl) (S.at 0 rfl)) (zqV (show QT K (q) ((aG b1 x1 y1)) _ from⟨b1,x1,y1,rfl,hq1,hk1,hk2,(S.num 4 rfl),(S.num 5 rfl)⟩) (show QT K' (r) ((aG b3 x3 y3)) _ from⟨b3,x3,y3,rfl,hq3,hk5,hk6,(S.num 0 rfl),(S.num 1 rfl)⟩) e1) fun v a V3 hF hb S=>?_
 subst hF
 refine mv S 0 fun a S=>?_
 refine tvg S (S.at 0 rfl) (zab rfl (S.at 8 rfl) (za3 _)) fun a S=>?_
 refine tvg S (S.at 1 rfl) (zad rfl (S.at 0 rfl) (S.bx 0 rfl) Tryz.underlying27 rfl (vs:=(aL b2 x2 y2)) zah rfl) fun a S=>?_
 refine tvg S (S.at 2 rfl) (zab rfl (S.at 9 rfl) (za3 _)) fun a S=>?_
 refine tvg S (S.at 3 rfl) (zad rfl (S.at 0 rfl) (S.bx 1 rfl) Tryz.underlying27 rfl (vs:=(aL b4 x4 y4)) zah rfl) fun a S=>?_
 refine tcg S (S.at 4 rfl) (rc2 Tryz.func14 (S.at 2 rfl) (S.at 0 rfl)) (zqV (show QT K (q') ((aG b2 x2 y2)) _ from⟨b2,x2,y2,rfl,hq2,hk3,hk4,(S.num 6 rfl),(S.num 7 rfl)⟩) (show QT K' (r') ((aG b4 x4 y4)) _ from⟨b4,x4,y4,rfl,hq4,hk7,hk8,(S.num 2 rfl),(S.num 3 rfl)⟩) e2) fun v a V4 hF hb S=>?_
 subst hF
 refine tv S (zas true rfl (S.at 5 rfl) (S.at 0 rfl)) fun a S=>?_
 refine av S (zak rfl (S.at 0 rfl)) fun a S=>?_
 refine hK2 _ _ ?_
 refine wp_ret ?_
 exact zay rfl S (S.at 0 rfl) ⟨_,rfl,rfl,S.below⟩
section
variable {q q' q1 q1' q2 q2' q3 q3' r:Rat}
theorem zdz (q:Rat):(0<=q/\absR q=q)\/(q<=0/\absR q= -q):=by
 unfold absR
 by_cases h:q<0
 ·rw[if_pos h];exact .inr ⟨by grind,rfl⟩
 ·rw[if_neg h];exact .inl ⟨by grind,rfl⟩
theorem zdq (a b:Rat):absR (a - b)=absR (b - a):=by
 rcases zdz (a - b)with⟨h1,h2⟩|⟨h1,h2⟩ <;> rcases zdz (b - a)with⟨h3,h4⟩|⟨h3,h4⟩ <;> grind
theorem zll (h:0<=r)(q:Rat):absR (q*r)=absR q*r:=by
 rcases zdz q with⟨h1,h2⟩|⟨h1,h2⟩
 ·have h3:=Rat.mul_nonneg h1 h
  rcases zdz (q*r)with⟨h5,h6⟩|⟨h5,h6⟩ <;> grind
 ·have h3:=Rat.mul_nonneg (show 0<= -q by grind) h
  have h7: -q*r= -(q*r):=by grind
  rw[h7]at h3
  rw[h2,h7]
  rcases zdz (q*r)with⟨h5,h6⟩|⟨h5,h6⟩
  ·rw[h6];grind
  ·exact h6
theorem zbZ {a b:Rat}:zan a b=0↔a=b:=⟨fun h=>by have:=zd2.1 h;grind,fun h=>zd2.2 (by grind)⟩
theorem zeP:za0 q1 q1' q2 q2'=0↔q1=q2/\q1'=q2':=by
 unfold za0
 by_cases h:zan q1 q2=0
 ·rw[if_pos h,zbZ];exact⟨fun h2=>⟨zbZ.1 h,h2⟩,fun h2=>h2.2⟩
 ·rw[if_neg h];exact⟨fun h2=>absurd h2 h,fun h2=>absurd (zbZ.2 h2.1) h⟩
theorem zlm (h:0<=r)(h':r<=1)(a b:Rat):absR (a+(b - a)*r - a)+absR (b - (a+(b - a)*r))=absR (b - a):=by
 rw[show a+(b - a)*r - a=(b - a)*r by grind,show b - (a+(b - a)*r)=(b - a)*(1 - r) by grind,zll h,zll (show 0<=1 - r by grind)]
 grind
theorem zjV {m:Nat}{p:PEl}(h:zih m p=false):p.2.1.n<=m/\p.2.2.1.n<=m/\p.2.2.2.2.1.n<=m/\p.2.2.2.2.2.n<=m:=by
 simp only[zih,Bool.or_eq_false_iff,decide_eq_false_iff_not]at h
 omega
end
def pv (p:PEl):Rat×Rat:=(qOf p.1 p.2.1.N p.2.2.1.N,qOf p.2.2.2.1 p.2.2.2.2.1.N p.2.2.2.2.2.N)
def zh0 (K:Nat)(p:PEl):Prop:=(p.2.1.n<=K/\p.2.2.1.n<=K)/\p.2.2.2.2.1.n<=K/\p.2.2.2.2.2.n<=K
def PRow (K:Nat)(qs:List (Rat×Rat))(v:Value)(V:World):Prop:=∃(A:Option Addr) (c:Nat) (l:List PEl),v= .slice A l.length c/\PRds V V.heap.size A l/\l.map pv=qs/\(∀p∈l,zh0 K p)/\l.length<=1000/\l.length<=c/\c<=maxLen
def zrB (K:Nat)(q:Rat×Rat)(p:PEl):Prop:=IsQ q.1 p.1 p.2.1 p.2.2.1/\IsQ q.2 p.2.2.2.1 p.2.2.2.2.1 p.2.2.2.2.2/\zh0 K p
def TolD (K:Nat)(qs:List (Rat×Rat))(l:List PEl):Prop:=l.length=qs.length/\∀k (h:k<l.length) (h':k<qs.length),zrB K qs[k] l[k]
def TRow (K:Nat)(qs:List (Rat×Rat))(v:Value)(V:World):Prop:=∃(A:Option Addr) (c:Nat) (l:List PEl),v= .slice A l.length c/\PRds V V.heap.size A l/\TolD K qs l/\l.length<=1000/\l.length<=c/\c<=maxLen
section
variable {K K' n:Nat}{qs:List (Rat × Rat)}{v:Value}{V V':World}{l:List PEl}{q:Rat × Rat}{p:PEl}
theorem TolD.nil:TolD K [] []:=⟨rfl,fun _ h=>by cases h⟩
theorem TolD.snoc (h:TolD K qs l)(hp:zrB K q p):TolD K (qs++[q]) (l++[p]):=by
 refine⟨by simp[h.1],fun k h1 h2=>?_⟩
 by_cases hk:k<l.length
 ·rw[List.getElem_append_left hk,List.getElem_append_left (by rw[<-h.1];exact hk)]
  exact h.2 k hk _
 ·have e1:k=l.length:=by rw[List.length_append,List.length_singleton]at h1;omega
  subst e1
  rw[List.getElem_append_right zv0,List.getElem_append_right (by rw[h.1];exact Nat.le_refl _)]
  simpa[h.1]using hp
theorem TolD.pv (h:TolD K qs l):l.map pv=qs:=by
 refine List.ext_getElem (by simp[h.1]) fun k h1 h2=>?_
 rw[List.getElem_map]
 obtain⟨a,b,-⟩:=h.2 k (by simpa using h1) h2
 exact Prod.ext a.q b.q
theorem TRow.any (h:TRow K qs v V):PRow K qs v V:=by
 obtain⟨A,c,l,h1,h2,h3,h4⟩:=h
 refine⟨A,c,l,h1,h2,h3.pv,fun p hp=>?_,h4⟩
 obtain⟨k,hk,rfl⟩:=List.getElem_of_mem hp
 exact(h3.2 k hk (by rw[<-h3.1];exact hk)).2.2
theorem TRow.keep (h:TRow K qs v V)(hb:Below V.heap.size V V'):TRow K qs v V':=by
 obtain⟨A,c,l,h1,h2,h3⟩:=h;exact⟨A,c,l,h1,(h2.below hb).more hb.size,h3⟩
theorem PRow.keep (h:PRow K qs v V)(hb:Below V.heap.size V V'):PRow K qs v V':=by
 obtain⟨A,c,l,h1,h2,h3⟩:=h;exact⟨A,c,l,h1,(h2.below hb).more hb.size,h3⟩
instance:Keeps (TRow K qs):=⟨fun h hb=>TRow.keep h hb⟩
instance:Keeps (PRow K qs):=⟨fun h hb=>PRow.keep h hb⟩
theorem GP.row (h:GP l v V)(hk:∀p∈l,zh0 K p)(hl:l.length<=1000)(hq:l.map Go.Proofs.YtipckjmgdghkiaaGreatDoor.pv=qs):PRow K qs v V:=by
 obtain⟨A,c,h1,h2,h3,h4,h5⟩:=h;exact⟨A,c,l,h1,h2,hq,hk,hl,h4,h5⟩
def zf7 (ps:List PEl):List Num:=(ps.reverse.map fun p=>[p.2.1,p.2.2.1,p.2.2.2.2.1,p.2.2.2.2.2]).flatten
theorem zmz (ps:List PEl)(p:PEl):zf7 (ps++[p])=p.2.1::p.2.2.1::p.2.2.2.2.1::p.2.2.2.2.2::zf7 ps:=by simp[zf7]
theorem zo3 {ps:List PEl}{p:PEl}(h:p∈ps):(p.2.1∈zf7 ps/\p.2.2.1∈zf7 ps)/\p.2.2.2.2.1∈zf7 ps/\p.2.2.2.2.2∈zf7 ps:=by
 have key:∀z,z∈[p.2.1,p.2.2.1,p.2.2.2.2.1,p.2.2.2.2.2]->z∈zf7 ps:=fun z hz=>List.mem_flatten.2 ⟨_,List.mem_map.2 ⟨p,List.mem_reverse.2 h,rfl⟩,hz⟩
 exact⟨⟨key _ (by simp),key _ (by simp)⟩,key _ (by simp),key _ (by simp)⟩
def z6:PEl:=(false,⟨none,0,0,0⟩,⟨none,0,0,0⟩,false,⟨none,0,0,0⟩,⟨none,0,0,0⟩)
theorem zh1 (p:PEl)(l:List PEl):zbt (p::l)=za9 p++zbt l:=by simp[zbt]
theorem zfb (l l':List PEl):zbt (l++l')=zbt l++zbt l':=by simp[zbt]
theorem zf8:∀l:List PEl,(zbt l).all za6=true
 |[]=>rfl
 |p::l=>by rw[zh1,List.all_append,zf8 l];rfl
theorem zo4 (ps rest:List PEl)(x y:PEl):zcy (zbt (ps++y::rest)) (ps.length*6) (za9 x)=zbt (ps++[x]++rest):=by
 have h:=zgj (za9 x) (zbt ps) (za9 y) (zbt rest) rfl
 rw[ze9]at h
 rw[zfb,zh1,<-List.append_assoc,h,zfb,zfb]
 simp[zbt]
theorem zsX:(Tryz.prog.info? 29).map (fun i=>(i.zero,i.size,i.bytes))=some (some (.agg #[.bool false,.slice none 0 0,.slice none 0 0,.bool false,.slice none 0 0,.slice none 0 0]),6,112):=by kernel_rfl
theorem zvD (n:Nat):madeCells #[.bool false,.slice none 0 0,.slice none 0 0,.bool false,.slice none 0 0,.slice none 0 0] (n*6)=(zbt (List.replicate n z6)).toArray:=by
 apply Array.ext_getElem?
 intro i
 rw[show(zbt (List.replicate n z6)).toArray[i]?=(zbt (List.replicate n z6))[i]? from by simp]
 by_cases h1:i<n*6
 ·have hk:i/6<(List.replicate n z6).length:=by rw[List.length_replicate];omega
  have e:=zlk hk (i:=i%6) (by omega)
  have ei:i/6*6+i%6=i:=by omega
  rw[ei,List.getElem_replicate]at e
  rw[e]
  have e3:(madeCells #[.bool false,.slice none 0 0,.slice none 0 0,.bool false,.slice none 0 0,.slice none 0 0] (n*6))[i]?=some (#[Value.bool false,.slice none 0 0,.slice none 0 0,.bool false,.slice none 0 0,.slice none 0 0][i%6]!):=by
   simp[madeCells,h1]
  rw[e3]
  rcases(by omega:i%6=0\/i%6=1\/i%6=2\/i%6=3\/i%6=4\/i%6=5)with h|h|h|h|h|h <;> rw[h] <;> rfl
 ·rw[Array.getElem?_eq_none (by rw[size_madeCells];omega),List.getElem?_eq_none (by rw[ze9,List.length_replicate];omega)]
theorem zuC {a:Act}{o:Oper}{t1:Tmp}(ho:o.op= .makeSlice 30 (.tmp t1) (.tmp t1)) (h1:a.tmps.getD t1 undef= .int .i64 (n:Nat)) (hn:n<=1000):
  (execOp a.eval o).run Tryz.prog V= .ok (.value (.slice (some ⟨V.heap.size,0,none⟩) n n)) (V.alloc (.cells (zbt (List.replicate n z6)).toArray 29)):=by
 have e1:a.eval (.tmp t1)= .int .i64 (n:Nat):=h1
 obtain⟨i0,hi0,hz0,hz1,hz2⟩:=info_parts zsX
 have hr:=run_make V 30 29 i0 _ Tryz.underlying30 hi0 hz0 .i64 .i64 (n:Nat) (n:Nat) (by omega) (Int.le_refl _) (by rw[hz2];omega) (by omega)
 rw[hz1]at hr
 rw[<-zvD]
 simp only[Int.toNat_natCast]at hr
 obtain⟨dst,op,ty,pos,after,guard⟩:=o
 simp only at ho
 subst ho
 unfold execOp
 simp only[e1]
 have hr':=hr
 simp only[Value.cells]at hr'
 simp[go_sem,hr']
theorem zuD (g m:Nat):zbr (some ⟨g,0,none⟩) m=⟨g,m,none⟩:=by
 show Addr.add ⟨g,0,none⟩ m=_
 rw[zaW]
end
section
variable {n:Nat}{ls:List (Tmp × Value)}{lb:List Bx}{w V:World}{e:List Num}{a:Act}{o:Oper}{t:Tmp}{v:Value}{ops:Array Oper}{Q:Exit -> Act -> World -> Prop}{rest:List Oper}{P:Program}
theorem zvE (S:Frm n ls lb w e a V){T:TypeId}{cs:List Value}(hr:(execOp a.eval o).run P V= .ok (.value v) (V.alloc (.cells cs.toArray T)))(hn:cs.all za6=true)(k:∀a V',Frm n ((t,v)::ls) (lb++[⟨V.heap.size,T,cs⟩]) w e a V'->wpList P ops Q rest a V')
  (hg:o.guard=none:=by exact rfl) (hd:o.dst=some t:=by exact rfl) (ht:t<n:=by decide) (hl:zgr t ls=true:=by exact rfl):wpList P ops Q (o::rest) a V:=
 zoz (K:=fun a' V2=>a'=a.put (some t) v/\V2=V.alloc (.cells cs.toArray T)) (by simp[Oper.wp,hr,Oper.upon,hd]) hg (by rintro a' V2 ⟨rfl,rfl⟩;exact k _ _ ((S.alloc T cs hn).put _ ht (zc4 hl)))
end
theorem zvF {K:Nat}{qs:List (Rat×Rat)}{v:Value}{V:World}(T:TT V)(h:PRow K qs v V)(hK:K<=400):Calls Tryz.prog 130 #[v] V (zaf V (TRow (max K 1) qs)):=by
 obtain⟨A,c,l,rfl,hR,rfl,hk4,hl,hlc,hcm⟩:=h
 refine fb Tryz.func130 Tryz.ntmps130 zau (fun a S=>?_)
 refine wsp fun K1 hK1=>?_
 refine ac S fun a S=>?_
 refine hK1 _ _ ?_
 refine wsp fun K2 hK2=>?_
 refine mv S 1 fun a S=>?_
 refine tv S (zjT rfl (S.at 0 rfl)) fun a S=>?_
 refine zvE S (zuC rfl (S.at 0 rfl) hl) (zf8 _) fun a V1 S=>?_
 refine tv S (zak rfl (S.at 0 rfl)) fun a S=>?_
 refine hK2 _ _ ?_
 obtain⟨g,hg⟩:∃g,V.heap.size=g:=⟨_,rfl⟩
 rw[hg]at S
 refine wp_seq_k fun K3 hK3=>?_
 refine wp_seq_k fun K4 hK4=>?_
 have S:=S.sel [0,5] rfl
 refine zaD ?_
 refine mv S 1 fun a S=>?_
 refine tv S (zjT rfl (S.at 0 rfl)) fun a S=>?_
 refine tv S (zkX rfl) fun a S=>?_
 refine hK4 _ _ ?_
 refine wp_block ?_
 have S:=S.sel [0,1,2,3] rfl
 refine wp_loop (fun aI VI=>∃(k:Nat) (ps:List PEl),(ps.length=k/\k<=l.length/\TolD (max K 1) ((l.map pv).take k) ps)/\Frm 23 [(11,.int .i64 ((k:Nat):Int)),(10,.int .i64 ((l.length:Nat):Int)),(9,.slice A l.length c),(3,.slice (some ⟨g,0,none⟩) l.length l.length)] [⟨g,29,zbt (ps++List.replicate (l.length - k) z6)⟩] V (zf7 ps) aI VI)
  (fun aI _=>l.length - (intOf (aI.tmps.getD 11 undef)).toNat) ⟨0,[],⟨rfl,Nat.zero_le _,TolD.nil⟩,S⟩ ?_
 rintro a1 V2 ⟨k,ps,⟨hpl,hkl,hD⟩,S⟩
 have hm0:a1.tmps.getD 11 undef= .int .i64 ((k:Nat):Int):=S.at 0 rfl
 refine wsp fun K5 hK5=>?_
 refine tv S (zc9 rfl (S.at 0 rfl) (S.at 1 rfl)) fun a S=>?_
 refine hK5 _ _ ?_
 refine wp_seq_k fun K6 hK6=>?_
 rcases zv9 (decide (((k:Nat):Int)<((l.length:Nat):Int)))with hc|hc
 ·refine wp_cond_true ((S.at 0 rfl).trans (congrArg Value.bool hc)) ?_
  have hlt:k<l.length:=by have:=of_decide_eq_true hc;omega
  refine wp_skip ?_
  refine hK6 _ _ ?_
  refine wp_seq_k fun K7 hK7=>?_
  refine wp_block ?_
  obtain⟨b,x,y,b',x',y',hel⟩:∃b x y b' x' y',l[k]=(b,x,y,b',x',y'):=⟨_,_,_,_,_,_,rfl⟩
  obtain⟨⟨ox,oy⟩,ox',oy'⟩:=hR.oks hlt hel
  have hke:=hk4 _ (List.getElem_mem hlt)
  rw[hel]at hke
  refine wsp fun K8 hK8=>?_
  refine mv S 1 fun a S=>?_
  refine tv S (zdp (hR.el hlt hel).s hlt rfl (S.at 4 rfl) (S.at 2 rfl)) fun a S=>?_
  refine tv S (zhZ ((hR.below S.below).el hlt hel) rfl (S.at 0 rfl)) fun a S=>?_
  refine ti S (cs:=lY) (zam rfl (Tryz.zeroValue29 _) rfl) (fun g5=>[⟨g,29,zbt (ps++List.replicate (l.length - k) z6)⟩,⟨g5,29,lY⟩]) fun g5 a V3 _ S=>?_
  refine tv S (zak rfl (S.at 3 rfl)) fun a S=>?_
  refine sto S 1 (fun ht=>zaj rfl (S.at 1 rfl) (S.at 2 rfl) zaR rfl (zvZ rfl) ht) fun V4 S=>?_
  refine hK8 _ _ ?_
  have S:=S.sel [0,1,6,7,8,9] rfl
  have B:=PtAt.mk (V:=V4) (K:=K) (S.bx 1 rfl) rfl rfl hke.1.1 hke.1.2 hke.2.1 hke.2.2 (ox.later S.below) (oy.later S.below) (ox'.later S.below) (oy'.later S.below)
  have T4:=T.keep S.below
  refine zaD ?_
  refine mv S 5 fun a S=>?_
  refine mv S 1 fun a S=>?_
  refine tv S (zo1 rfl (S.at 3 rfl)) fun a S=>?_
  refine tc S (rc1 Tryz.func91 (S.at 0 rfl)) (zfa (enters_of Tryz.func168 (by kernel_rfl) rfl) (fun W hW=>zrv (T4.keep hW) zsR (B.keep hW) (by omega)) (fun W hW=>zrv (T4.keep hW) zsS (B.keep hW) (by omega))) fun u a V5 hF hb S=>?_
  obtain⟨d,z,w,d',z',w',rfl,i1,i2,⟨k1,k2⟩,⟨k3,k4⟩,⟨o1,o2⟩,o3,o4⟩:=hF
  have S:=(((S.know o4).know o3).know o2).know o1
  refine tv S (zdp ⟨_,rfl⟩ hlt rfl (S.at 3 rfl) (S.at 2 rfl)) fun a S=>?_
  have hlen:(zbt (ps++List.replicate (l.length - k) z6)).length=l.length*6:=by rw[ze9,List.length_append,List.length_replicate,hpl];congr 1;omega
  have hput:zcy (zbt (ps++List.replicate (l.length - k) z6)) (k*6) (za9 (d,z,w,d',z',w'))=zbt (ps++[(d,z,w,d',z',w')]++List.replicate (l.length - (k+1)) z6):=by
   rw[show l.length - k=(l.length - (k+1))+1 by omega,List.replicate_succ,<-hpl]
   exact zo4 ps _ _ _
  refine zkV S (i:=0) (vs:=za9 (d,z,w,d',z',w')) (off:=k*6) rfl (fun ht=>zaj rfl ((S.at 0 rfl).trans (by rw[zuD])) (S.at 1 rfl) zaR rfl (m:=l.length*6) (by show k*6+6<=_;omega) (by rw[<-hlen];exact ht)) (by rw[hlen];show k*6+6<=_;omega) rfl rfl rfl (lb':=[⟨g,29,zbt (ps++[(d,z,w,d',z',w')]++List.replicate (l.length - (k+1)) z6)⟩,⟨g5,29,[.bool b,aS x,aS y,.bool b',.slice x'.A x'.n x'.c,.slice y'.A y'.n y'.c]⟩]) (by rw[hput];rfl) (fun V6 S=>?_)
  refine hK7 _ _ ?_
  have S:=S.sel [7,8,9,10] rfl
  have S:=S.reorder [0] rfl (by decide)
  refine zaD ?_
  refine tv S (ze5 (k:=k) (m:=1) rfl (S.at 0 rfl) rfl (by omega)) fun a S=>?_
  refine av S (zao rfl (S.at 0 rfl)) fun a S=>?_
  have S:=S.sel [0,2,3,4] rfl
  have hD2:TolD (max K 1) ((l.map pv).take (k+1)) (ps++[(d,z,w,d',z',w')]):=by
   rw[List.take_succ_eq_append_getElem (by simpa using hlt)]
   refine hD.snoc ?_
   rw[List.getElem_map,hel]
   exact⟨i1,i2,⟨k1,k2⟩,k3,k4⟩
  refine⟨⟨k+1,ps++[(d,z,w,d',z',w')],⟨by simp[hpl],hlt,hD2⟩,by rw[zmz];exact S⟩,?_⟩
  have hm1:=S.at 0 rfl
  rw[hm0,hm1]
  simp only[intOf];omega
 ·refine wp_cond_false ((S.at 0 rfl).trans (congrArg Value.bool hc)) ?_
  refine wp_exit ?_
  refine hK3 _ _ ?_
  obtain rfl:k=l.length:=by have:=of_decide_eq_false hc;omega
  refine wsp fun K9 hK9=>?_
  refine mv S 4 fun a S=>?_
  refine tv S (zak rfl (S.at 0 rfl)) fun a S=>?_
  refine hK9 _ _ ?_
  refine wp_ret ?_
  rw[List.take_of_length_le (by simp)]at hD
  refine zay rfl S (S.at 0 rfl) ⟨_,rfl,⟨some ⟨g,0,none⟩,l.length,ps,by rw[hpl],PRds.own (rest:=zbt (List.replicate (l.length - l.length) z6)) (by rw[<-zfb];exact S.bx 0 rfl) (S.lt 0 rfl) (fun p hp=>?_),hD,by omega,by omega,by omega⟩,S.below⟩
  obtain⟨⟨m1,m2⟩,m3,m4⟩:=zo3 hp
  exact⟨⟨S.env.2 _ m1,S.env.2 _ m2⟩,S.env.2 _ m3,S.env.2 _ m4⟩
section
variable {q q' q1 q1' q2 q2' q3 q3':Rat}
theorem zdA (q1 q1' q2 q2':Rat): -1<=za0 q1 q1' q2 q2'/\za0 q1 q1' q2 q2'<=1:=by
 unfold za0;split
 ·exact zdv _ _
 ·exact zdv _ _
theorem zeQ (q1 q1' q2 q2':Rat):za0 q2 q2' q1 q1'= -za0 q1 q1' q2 q2':=by
 unfold za0
 rw[zdu q1 q2,zdu q1' q2']
 by_cases h:zan q1 q2=0
 ·rw[if_pos h,if_pos (by omega)]
 ·rw[if_neg h,if_neg (by omega)]
theorem zsY:za0 q1 q1' q2 q2'<0↔q1<q2\/(q1=q2/\q1'<q2'):=by
 have key:∀a b:Rat,zan a b<0↔a<b:=fun a b=>by
  constructor
  ·intro h
   by_cases hc:a<b
   ·exact hc
   ·have:=of_decide_eq_true (zg7.2 hc);omega
  ·intro h;rw[zcO h];decide
 unfold za0
 by_cases h:zan q1 q2=0
 ·rw[if_pos h,key]
  have:=zbZ.1 h
  subst this
  constructor
  ·exact fun h=> .inr ⟨rfl,h⟩
  ·rintro(h|h)
   ·grind
   ·exact h.2
 ·rw[if_neg h,key]
  constructor
  ·exact .inl
  ·rintro(h2|h2)
   ·exact h2
   ·exact absurd (zbZ.2 h2.1) h
def ElP (K:Nat)(q q':Rat)(v:Value)(V:World):Prop:=∃(A:Option Addr) (m:Nat) (b:Bool) (x y:Num) (b':Bool) (x' y':Num),v= .pointer (some (zbr A m))/\(∃ad,A=some ad/\ad.block<V.heap.size)/\ElAt V A m b x y b' x' y'/\PT K q q' (.agg #[.bool b,.slice x.A x.n x.c,.slice y.A y.n y.c,.bool b',.slice x'.A x'.n x'.c,.slice y'.A y'.n y'.c]) V
section
variable {K n:Nat}{qs:List (Rat × Rat)}{v v1:Value}{V V':World}{a:Act}{o:Oper}{t1 t2:Tmp}
theorem ElP.keep (h:ElP K q q' v V)(hb:Below V.heap.size V V'):ElP K q q' v V':=by
 obtain⟨A,m,b,x,y,b',x',y',h1,⟨ad,rfl,h2⟩,h3,h4⟩:=h
 have hc:∀ {i:Nat} {u:Value},V.cell? (zbr (some ad) i)=some u->V'.cell? (zbr (some ad) i)=some u:=fun h=>(hb.cell (by show(ad.add _).block<_;rw[zaM];exact h2)).trans h
 exact⟨_,m,b,x,y,b',x',y',h1,⟨ad,rfl,zv3 h2 hb.size⟩,⟨h3.s,hc h3.c0,hc h3.c1,hc h3.c2,hc h3.c3,hc h3.c4,hc h3.c5⟩,h4.keep hb⟩
instance:Keeps (ElP K q q'):=⟨fun h hb=>ElP.keep h hb⟩
theorem zsZ (h:TRow K qs v1 V){i:Nat}(hi:i<qs.length):∃A n c,v1= .slice A n c/\(∃ad,A=some ad)/\i<n/\ElP K qs[i].1 qs[i].2 (.pointer (some (zbr A (i*6)))) V:=by
 obtain⟨A,c,l,rfl,hR,hD,-⟩:=h
 have hk:i<l.length:=by rw[hD.1];exact hi
 obtain⟨b,x,y,b',x',y',hel⟩:∃b x y b' x' y',l[i]=(b,x,y,b',x',y'):=⟨_,_,_,_,_,_,rfl⟩
 obtain⟨i1,i2,⟨k1,k2⟩,k3,k4⟩:=hD.2 i hk hi
 rw[hel]at i1 i2 k1 k2 k3 k4
 obtain⟨⟨ox,oy⟩,ox',oy'⟩:=hR.oks hk hel
 obtain⟨⟨ad,hA,hb,-⟩,-⟩:=hR i hk
 exact⟨A,l.length,c,rfl,⟨ad,hA⟩,hk,A,i*6,b,x,y,b',x',y',rfl,⟨ad,hA,hb⟩,hR.el hk hel,b,x,y,b',x',y',rfl,i1,i2,⟨k1,k2⟩,⟨k3,k4⟩,⟨ox,oy⟩,ox',oy'⟩
theorem zeo {A:Option Addr}{c i:Nat}(hA:∃ad,A=some ad)(hk:i<n)(ho:o.op= .indexAddr 30 (.tmp t1) (.const (.int .i64 (i:Nat)))) (h1:a.tmps.getD t1 undef= .slice A n c):
  (execOp a.eval o).run Tryz.prog V= .ok (.value (.pointer (some (zbr A (i*6))))) V:=by
 obtain⟨ad,rfl⟩:=hA
 rw[zae]at h1
 obtain⟨dst,op,ty,pos,after,guard⟩:=o
 simp only at ho
 subst ho
 have h3:(i:Int)<(n:Int):=by omega
 unfold zbr
 go_simp
end
end
section
variable {n:Nat}{ls:List (Tmp × Value)}{lb:List Bx}{w V:World}{e:List Num}{a:Act}{o:Oper}{t t1 t2:Tmp}{v:Value}{ops:Array Oper}{Q:Exit -> Act -> World -> Prop}{rest:List Oper}
end
def PL1 (K:Nat)(q q':Rat)(v:Value)(V:World):Prop:=∃(g:Nat) (p:PEl),v= .slice (some ⟨g,0,none⟩) 1 1/\V.heap[g]?=some (.cells (za9 p).toArray 29 (0,0))/\zrB K (q,q') p/\(p.2.1.ok V V.heap.size/\p.2.2.1.ok V V.heap.size)/\p.2.2.2.2.1.ok V V.heap.size/\p.2.2.2.2.2.ok V V.heap.size
theorem PL1.keep {K:Nat}{q q':Rat}{v:Value}{V V':World}(h:PL1 K q q' v V)(hb:Below V.heap.size V V'):PL1 K q q' v V':=by
 obtain⟨g,p,h1,h2,h3,⟨h4,h5⟩,h6,h7⟩:=h
 exact⟨g,p,h1,(hb.block g (Array.getElem?_eq_some_iff.1 h2).1).trans h2,h3,⟨h4.later hb,h5.later hb⟩,h6.later hb,h7.later hb⟩
instance {K:Nat} {q q':Rat}:Keeps (PL1 K q q'):=⟨fun h hb=>PL1.keep h hb⟩
end Go.Proofs.YtipckjmgdghkiaaGreatDoor
