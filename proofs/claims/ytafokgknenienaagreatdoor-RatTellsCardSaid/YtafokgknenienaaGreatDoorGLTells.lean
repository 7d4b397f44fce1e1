/- A part. -/
import Derived.Test.YtafokgknenienaaGreatDoorGPSim
import Derived.Test.YtafokgknenienaaGreatDoorGRBtw
import Derived.Test.YtafokgknenienaaGreatDoorGPJAll
set_option maxHeartbeats 4000000
set_option maxRecDepth 100000
namespace Go.Proofs.YtafokgknenienaaGreatDoor
open Go Go.RowKit
variable {v v' v1 v2:Value}{V V':World}{K K' N M:Nat}{q q' q0 q1 q2:Rat}{A:Option Addr}{c:Nat}{l:List (Bool × Num × Num)}
theorem zmZ {p:Bool×Num×Num}(h:p∈l):p.2.1.n+p.2.2.n≤zfH l:=by
 unfold zfH
 induction l with
 |nil=>cases h
 |cons p' l ih=>
  rw[List.map_cons,List.sum_cons]
  rcases List.mem_cons.1 h with rfl|h
  ·omega
  ·have:=ih h;omega
theorem zsG (hR:QRds V V.heap.size A l)(hG:zbR l=false)(hlc:l.length≤c)(hcm:c≤maxLen):QRow 40 (l.map qP) (.slice A l.length c) V:=by
 obtain⟨h1,h2⟩:=zc7 hG
 exact⟨A,c,l,rfl,hR,rfl,fun p hp=>by have:=zmZ hp;omega,hlc,hcm,h1⟩
theorem zk6 (l:List (Bool×Num×Num)):(l.map fun p=>32*p.2.1.n+32*p.2.2.n).sum=32*zfH l:=by
 unfold zfH
 induction l with
 |nil=>rfl
 |cons p l ih=>simp only[List.map_cons,List.sum_cons,ih];omega
theorem zmb (hR:QRds V V.heap.size A l):∀i (h1:i<(l.map qP).length) (h2:i<(l.map fun p=>32*p.2.1.n+32*p.2.2.n).length),(l.map qP)[i].num.natAbs<2^(l.map fun p=>32*p.2.1.n+32*p.2.2.n)[i]∧(l.map qP)[i].den≤2^(l.map fun p=>32*p.2.1.n+32*p.2.2.n)[i]:=by
 intro i h1 h2
 have h3:i<l.length:=by simpa using h1
 obtain⟨-,o1,o2⟩:=hR i h3
 rw[List.getElem_map,List.getElem_map]
 generalize l[i]=p at o1 o2
 have a1:=o1.1.1
 rw[zdT]at a1
 have a2:(qP p).den≤2^(32*p.2.2.n):=(zcL rfl o1 o2).2
 have h4:=zcF (z:=zOf p.1 p.2.1.N) (d:=p.2.2.N)
 have h5:(zOf p.1 p.2.1.N).natAbs=p.2.1.N:=by cases p.1 <;> simp[zOf]
 rw[h5]at h4
 have e1:2^(32*p.2.1.n)≤2^(32*p.2.1.n+32*p.2.2.n):=zuF (by omega) (by omega)
 have e2:2^(32*p.2.2.n)≤2^(32*p.2.1.n+32*p.2.2.n):=zuF (by omega) (by omega)
 refine⟨?_,by omega⟩
 show(mkRat (zOf p.1 p.2.1.N) p.2.2.N).num.natAbs<_
 omega
theorem zqU (hR:QRds V V.heap.size A l)(hG:zbR l=false):∀k,k≤(l.map qP).length→Sm 128 (zcG ((l.map qP).take k))∧Sm 128 (zbd ((l.map qP).take k)):=by
 intro k hk
 obtain⟨h1,h2⟩:=zc7 hG
 have hf:(l.map fun p=>32*p.2.1.n+32*p.2.2.n).length=(l.map qP).length:=by simp
 have a1:=zrR hf (zmb hR) k hk
 have a2:=zqe hf (zmb hR) k hk
 have h3:=zkC (l.map fun p=>32*p.2.1.n+32*p.2.2.n) k
 rw[zk6]at h3
 rw[List.length_map]at hk
 generalize ((l.map fun p=>32*p.2.1.n+32*p.2.2.n).take k).sum=m at*
 exact⟨⟨Nat.lt_trans a1.2 (ze4 (by omega)),zuE a1.1 (ze4 (by omega))⟩,zuE a2.2 (ze4 (by omega)),zuE a2.1 (ze4 (by omega))⟩
theorem zoF {V0:World}(hR:QRds V0 V0.heap.size A l)(hll:l.length≤100000000000000)(hb:Below V0.heap.size V0 V):GL l (.slice A l.length c) V:=⟨A,c,rfl,(hR.below hb).more hb.size,hll⟩
theorem zm0 (b0_:Bool)(x0_ y0_:Num)(b1_:Bool)(x1_ y1_:Num)(A:Option Addr)(c:Nat)(l:List (Bool×Num×Num))(n:Int){V:World}(T:TT V)(ox0:x0_.ok V V.heap.size)(oy0:y0_.ok V V.heap.size)(ox1:x1_.ok V V.heap.size)(oy1:y1_.ok V V.heap.size)(hR:QRds V V.heap.size A l)(hll:l.length≤100000000000000)(hlc:l.length≤c)(hcm:c≤maxLen)(hG2:zbR l=false)(hn: -9223372036854775808≤n∧n≤9223372036854775807)(hG:zbR [(b0_,x0_,y0_),(b1_,x1_,y1_)]=false):
  Calls Tryz.prog 3 #[(aG b0_ x0_ y0_),(aG b1_ x1_ y1_),.slice A l.length c,.int .i64 n] V (zao V (fun v _=>v= .bool true)):=by
 have hsz:=zf7 hG
 have hkx0:x0_.n≤40:=by omega
 have hky0:y0_.n≤40:=by omega
 have hkx1:x1_.n≤40:=by omega
 have hky1:y1_.n≤40:=by omega
 obtain⟨q0,hqa0⟩:∃q,qOf b0_ x0_.N y0_.N=q:=⟨_,rfl⟩
 obtain⟨q1,hqa1⟩:∃q,qOf b1_ x1_.N y1_.N=q:=⟨_,rfl⟩
 obtain⟨hn0,hd0⟩:=zcL hqa0 ox0 oy0
 obtain⟨hn1,hd1⟩:=zcL hqa1 ox1 oy1
 have hDL:=zhj hd0 hd1 (by omega)
 have hRow:=zsG hR hG2 hlc hcm
 have hSM:=zqU hR hG2
 have hl60:=(zc7 hG2).1
 refine zaD (e:=[x1_,y1_,x0_,y0_]) Tryz.func3 rfl Tryz.ntmps3 (zuz rfl) [(0,(aG b0_ x0_ y0_)),(1,(aG b1_ x1_ y1_)),(2,.slice A l.length c),(3,.int .i64 n)] rfl (zak ox1 (zak oy1 (zak ox0 (zak oy0 zaW)))) (fun a S=>?_)
 refine wp_seq_k fun K1 hK1=>?_
 refine zaa ?_
 refine ti S (cs:=(aL b0_ x0_ y0_)) (zaH rfl (S.at 0 rfl) rfl) (fun g1=>[⟨g1,27,(aL b0_ x0_ y0_)⟩]) fun g1 a V1 hgg1 S=>?_
 refine ti S (cs:=(aL b1_ x1_ y1_)) (zaH rfl (S.at 2 rfl) rfl) (fun g2=>[⟨g1,27,(aL b0_ x0_ y0_)⟩,⟨g2,27,(aL b1_ x1_ y1_)⟩]) fun g2 a V2 hgg2 S=>?_
 refine tv S (zau rfl) fun a S=>?_
 refine hK1 _ _ ?_
 refine wp_seq_k fun K2 hK2=>?_
 refine wp_seq_k fun K3 hK3=>?_
 refine zaa ?_
 refine tv S (zab rfl (S.at 2 rfl) (S.bx 0 rfl) Tryz.underlying27 rfl (vs:=(aL b0_ x0_ y0_)) zae rfl) fun a S=>?_
 refine tv S (zab rfl (S.at 2 rfl) (S.bx 1 rfl) Tryz.underlying27 rfl (vs:=(aL b1_ x1_ y1_)) zae rfl) fun a S=>?_
 refine ty S (F:=GL ([(b0_,x0_,y0_),(b1_,x1_,y1_)])) (zel rfl (S.at 1 rfl) (S.at 0 rfl) (S.num 2 rfl) (S.num 3 rfl) (S.num 0 rfl) (S.num 1 rfl)) fun v a V3 hF hb S=>?_
 obtain⟨ov1,hov1⟩:∃z,z=v:=⟨_,rfl⟩
 rw[←hov1]at hF S
 have rov1:=hF
 refine tc S (F:=(fun v _=>v= .bool false)) (rc1 Tryz.func9 (S.at 0 rfl)) (zdU rov1 hG) fun v a V4 hF hb S=>?_
 replace rov1:=rov1.keep hb
 subst hF
 refine tv S (zad rfl (S.at 0 rfl)) fun a S=>?_
 refine tvg S (S.at 0 rfl) (zad rfl (S.at 10 rfl)) fun a S=>?_
 refine tcg S (S.at 1 rfl) (F:=(fun v _=>v= .bool false)) (rc1 Tryz.func9 (S.at 0 rfl)) (zdU (zoF hR hll S.below) hG2) fun v a V5 hF hb S=>?_
 replace rov1:=rov1.keep hb
 subst hF
 refine tv S (zaM false rfl (S.at 2 rfl) (S.at 0 rfl)) fun a S=>?_
 refine hK3 _ _ ?_
 refine wp_cond_false (S.at 0 rfl) ?_
 refine wp_skip ?_
 refine hK2 _ _ ?_
 refine wp_seq_k fun K4 hK4=>?_
 have S:=S.keep [5,4,2,3] (ls':=[(5,pT g2 0),(4,pT g1 0),(2,.slice A l.length c),(3,.int .i64 n)]) rfl
 refine zaa ?_
 refine tv S (zaf rfl (S.at 1 rfl) (za6 _)) fun a S=>?_
 refine tv S (zab rfl (S.at 0 rfl) (S.bx 0 rfl) Tryz.underlying25 rfl (vs:=[.bool b0_,aS x0_]) zav rfl) fun a S=>?_
 refine tv S (zaf rfl (S.at 3 rfl) (za0 _)) fun a S=>?_
 refine tv S (zar rfl (S.at 0 rfl) (S.bx 0 rfl) (Tryz.isAgg23 _) rfl) fun a S=>?_
 refine tc S (F:=QE 40 (mkRat (zOf b0_ x0_.N) y0_.N) (erz y0_.N)) (rc2 Tryz.func11 (S.at 2 rfl) (S.at 0 rfl)) (zpe (T.keep S.below) (show Z1 40 (zOf b0_ x0_.N) ((aZ b0_ x0_)) _ from⟨b0_,x0_,rfl,rfl,hkx0,(S.num 2 rfl)⟩) (show N1 40 (y0_.N) (aS y0_) _ from⟨y0_,rfl,rfl,hky0,(S.num 3 rfl)⟩) (by omega) (by omega)) fun v a V6 hF hb S=>?_
 obtain⟨b1,x1,y1,rfl,hq1,hk1,hk2,ok1,ok2⟩:=hF
 have S:=S.know ok1
 have S:=S.know ok2
 refine tv S (zad rfl (S.at 0 rfl)) fun a S=>?_
 refine tv S (zaq rfl (S.at 0 rfl) rfl) fun a S=>?_
 refine tv S (zaq rfl (S.at 1 rfl) rfl) fun a S=>?_
 refine ti S (cs:=[.bool false,.slice none 0 0,.slice none 0 0]) (zap rfl (Tryz.zeroValue27 _) rfl) (fun g3=>[⟨g1,27,(aL b0_ x0_ y0_)⟩,⟨g2,27,(aL b1_ x1_ y1_)⟩,⟨g3,27,[.bool false,.slice none 0 0,.slice none 0 0]⟩]) fun g3 a V7 hgg3 S=>?_
 refine zal S (i:=2) (vs:=(aL b1 x1 y1)) rfl (fun ht=>zah rfl (S.at 0 rfl) (S.at 2 rfl) zae rfl (zuz rfl) ht) (zuz rfl) rfl rfl rfl (lb':=[⟨g1,27,(aL b0_ x0_ y0_)⟩,⟨g2,27,(aL b1_ x1_ y1_)⟩,⟨g3,27,(aL b1 x1 y1)⟩]) rfl (fun V8 S=>?_)
 refine tv S (zam rfl (S.at 1 rfl)) fun a S=>?_
 refine hK4 _ _ ?_
 refine wp_seq_k fun K5 hK5=>?_
 refine zaa ?_
 refine tv S (zaf rfl (S.at 11 rfl) (za6 _)) fun a S=>?_
 refine tv S (zab rfl (S.at 0 rfl) (S.bx 0 rfl) Tryz.underlying25 rfl (vs:=[.bool b0_,aS x0_]) zav rfl) fun a S=>?_
 refine tv S (zaf rfl (S.at 13 rfl) (za0 _)) fun a S=>?_
 refine tv S (zar rfl (S.at 0 rfl) (S.bx 0 rfl) (Tryz.isAgg23 _) rfl) fun a S=>?_
 refine tc S (F:=QE 40 (mkRat (zOf b0_ x0_.N) y0_.N) (erz y0_.N)) (rc2 Tryz.func12 (S.at 2 rfl) (S.at 0 rfl)) (zhp (show Z1 40 (zOf b0_ x0_.N) ((aZ b0_ x0_)) _ from⟨b0_,x0_,rfl,rfl,hkx0,(S.num 4 rfl)⟩) (show N1 40 (y0_.N) (aS y0_) _ from⟨y0_,rfl,rfl,hky0,(S.num 5 rfl)⟩) (by decide) (by decide)) fun v a V9 hF hb S=>?_
 obtain⟨b2,x2,y2,rfl,hq2,hk3,hk4,ok3,ok4⟩:=hF
 have S:=S.know ok3
 have S:=S.know ok4
 refine tv S (zad rfl (S.at 0 rfl)) fun a S=>?_
 refine tv S (zaq rfl (S.at 0 rfl) rfl) fun a S=>?_
 refine tv S (zaq rfl (S.at 1 rfl) rfl) fun a S=>?_
 refine ti S (cs:=[.bool false,.slice none 0 0,.slice none 0 0]) (zap rfl (Tryz.zeroValue27 _) rfl) (fun g4=>[⟨g1,27,(aL b0_ x0_ y0_)⟩,⟨g2,27,(aL b1_ x1_ y1_)⟩,⟨g3,27,(aL b1 x1 y1)⟩,⟨g4,27,[.bool false,.slice none 0 0,.slice none 0 0]⟩]) fun g4 a V10 hgg4 S=>?_
 refine zal S (i:=3) (vs:=(aL b2 x2 y2)) rfl (fun ht=>zah rfl (S.at 0 rfl) (S.at 2 rfl) zae rfl (zuz rfl) ht) (zuz rfl) rfl rfl rfl (lb':=[⟨g1,27,(aL b0_ x0_ y0_)⟩,⟨g2,27,(aL b1_ x1_ y1_)⟩,⟨g3,27,(aL b1 x1 y1)⟩,⟨g4,27,(aL b2 x2 y2)⟩]) rfl (fun V11 S=>?_)
 refine tv S (zam rfl (S.at 1 rfl)) fun a S=>?_
 refine hK5 _ _ ?_
 refine wp_seq_k fun K6 hK6=>?_
 have S:=S.keep [12,11,10,9,5,4,2,3] (ls':=[(12,.int .i64 (erz y0_.N)),(11,pT g4 0),(10,.int .i64 (erz y0_.N)),(9,pT g3 0),(5,pT g2 0),(4,pT g1 0),(2,.slice A l.length c),(3,.int .i64 n)]) rfl
 refine zaa ?_
 refine tv S (zab rfl (S.at 5 rfl) (S.bx 0 rfl) Tryz.underlying27 rfl (vs:=(aL b0_ x0_ y0_)) zae rfl) fun a S=>?_
 refine tv S (zab rfl (S.at 5 rfl) (S.bx 1 rfl) Tryz.underlying27 rfl (vs:=(aL b1_ x1_ y1_)) zae rfl) fun a S=>?_
 refine tc S (F:=QE 80 (q0/q1) (erq q1)) (rc2 Tryz.func13 (S.at 1 rfl) (S.at 0 rfl)) (ztW (T.keep S.below) (show Q1 40 (q0) ((aG b0_ x0_ y0_)) _ from⟨b0_,x0_,y0_,rfl,hqa0,hkx0,hky0,(S.num 6 rfl),(S.num 7 rfl)⟩) (show Q1 40 (q1) ((aG b1_ x1_ y1_)) _ from⟨b1_,x1_,y1_,rfl,hqa1,hkx1,hky1,(S.num 4 rfl),(S.num 5 rfl)⟩) (by omega) (by omega)) fun v a V12 hF hb S=>?_
 obtain⟨b3,x3,y3,rfl,hq3,hk5,hk6,ok5,ok6⟩:=hF
 have S:=S.know ok5
 have S:=S.know ok6
 refine tv S (zad rfl (S.at 0 rfl)) fun a S=>?_
 refine tv S (zaq rfl (S.at 0 rfl) rfl) fun a S=>?_
 refine tv S (zaq rfl (S.at 1 rfl) rfl) fun a S=>?_
 refine ti S (cs:=[.bool false,.slice none 0 0,.slice none 0 0]) (zap rfl (Tryz.zeroValue27 _) rfl) (fun g5=>[⟨g1,27,(aL b0_ x0_ y0_)⟩,⟨g2,27,(aL b1_ x1_ y1_)⟩,⟨g3,27,(aL b1 x1 y1)⟩,⟨g4,27,(aL b2 x2 y2)⟩,⟨g5,27,[.bool false,.slice none 0 0,.slice none 0 0]⟩]) fun g5 a V13 hgg5 S=>?_
 refine zal S (i:=4) (vs:=(aL b3 x3 y3)) rfl (fun ht=>zah rfl (S.at 0 rfl) (S.at 2 rfl) zae rfl (zuz rfl) ht) (zuz rfl) rfl rfl rfl (lb':=[⟨g1,27,(aL b0_ x0_ y0_)⟩,⟨g2,27,(aL b1_ x1_ y1_)⟩,⟨g3,27,(aL b1 x1 y1)⟩,⟨g4,27,(aL b2 x2 y2)⟩,⟨g5,27,(aL b3 x3 y3)⟩]) rfl (fun V14 S=>?_)
 refine tv S (zam rfl (S.at 1 rfl)) fun a S=>?_
 refine hK6 _ _ ?_
 refine wp_seq_k fun K7 hK7=>?_
 refine zaa ?_
 refine tv S (zab rfl (S.at 13 rfl) (S.bx 0 rfl) Tryz.underlying27 rfl (vs:=(aL b0_ x0_ y0_)) zae rfl) fun a S=>?_
 refine tv S (zab rfl (S.at 13 rfl) (S.bx 1 rfl) Tryz.underlying27 rfl (vs:=(aL b1_ x1_ y1_)) zae rfl) fun a S=>?_
 refine tc S (F:=QE 80 (q0/q1) (erq q1)) (rc2 Tryz.func14 (S.at 1 rfl) (S.at 0 rfl)) (zsm (show Q1 40 (q0) ((aG b0_ x0_ y0_)) _ from⟨b0_,x0_,y0_,rfl,hqa0,hkx0,hky0,(S.num 8 rfl),(S.num 9 rfl)⟩) (show Q1 40 (q1) ((aG b1_ x1_ y1_)) _ from⟨b1_,x1_,y1_,rfl,hqa1,hkx1,hky1,(S.num 6 rfl),(S.num 7 rfl)⟩) (by decide) (by decide)) fun v a V15 hF hb S=>?_
 obtain⟨b4,x4,y4,rfl,hq4,hk7,hk8,ok7,ok8⟩:=hF
 have S:=S.know ok7
 have S:=S.know ok8
 refine tv S (zad rfl (S.at 0 rfl)) fun a S=>?_
 refine tv S (zaq rfl (S.at 0 rfl) rfl) fun a S=>?_
 refine tv S (zaq rfl (S.at 1 rfl) rfl) fun a S=>?_
 refine ti S (cs:=[.bool false,.slice none 0 0,.slice none 0 0]) (zap rfl (Tryz.zeroValue27 _) rfl) (fun g6=>[⟨g1,27,(aL b0_ x0_ y0_)⟩,⟨g2,27,(aL b1_ x1_ y1_)⟩,⟨g3,27,(aL b1 x1 y1)⟩,⟨g4,27,(aL b2 x2 y2)⟩,⟨g5,27,(aL b3 x3 y3)⟩,⟨g6,27,[.bool false,.slice none 0 0,.slice none 0 0]⟩]) fun g6 a V16 hgg6 S=>?_
 refine zal S (i:=5) (vs:=(aL b4 x4 y4)) rfl (fun ht=>zah rfl (S.at 0 rfl) (S.at 2 rfl) zae rfl (zuz rfl) ht) (zuz rfl) rfl rfl rfl (lb':=[⟨g1,27,(aL b0_ x0_ y0_)⟩,⟨g2,27,(aL b1_ x1_ y1_)⟩,⟨g3,27,(aL b1 x1 y1)⟩,⟨g4,27,(aL b2 x2 y2)⟩,⟨g5,27,(aL b3 x3 y3)⟩,⟨g6,27,(aL b4 x4 y4)⟩]) rfl (fun V17 S=>?_)
 refine tv S (zam rfl (S.at 1 rfl)) fun a S=>?_
 refine hK7 _ _ ?_
 refine wp_seq_k fun K8 hK8=>?_
 refine wp_seq_k fun K9 hK9=>?_
 have S:=S.keep [16,15,14,13,12,11,10,9,5,4,2,3] (ls':=[(16,.int .i64 (erq q1)),(15,pT g6 0),(14,.int .i64 (erq q1)),(13,pT g5 0),(12,.int .i64 (erz y0_.N)),(11,pT g4 0),(10,.int .i64 (erz y0_.N)),(9,pT g3 0),(5,pT g2 0),(4,pT g1 0),(2,.slice A l.length c),(3,.int .i64 n)]) rfl
 obtain⟨W1,hW1⟩:∃W,W=V17:=⟨_,rfl⟩
 rw[←hW1]at S ⊢
 have S0:=S
 refine fr 45 [58,59,60,61,62,63,64,65,66,67,68,69,70,71,72,73,74,75,76,77,78,79,80,81,82,83,84,85,86,87,88,89,90,91,92,93,94,95,96,97,98,99,100,101,102] [IsV ((aG b1 x1 y1)),IsV ((aG b2 x2 y2)),IsV (.bool true),IsV (.bool false),IsV (.bool false),IsV (.int .i64 (erz y0_.N)),IsV (.int .i64 (erz y0_.N)),IsV (.bool false),IsV (.bool false),IsV (.bool false),IsV ((aG b3 x3 y3)),IsV ((aG b4 x4 y4)),IsV (.bool true),IsV (.bool false),IsV (.bool false),IsV (.bool false),IsV (.int .i64 (erq q1)),IsV (.int .i64 (erq q1)),IsV (.bool false),IsV (.bool false),IsV (.bool false),IsV ((aG b0_ x0_ y0_)),IsV (.int .i64 (zaK q0 0)),IsV ((aG b0_ x0_ y0_)),IsV (.int .i64 (zaK q0 0)),IsV (.bool false),IsV (.bool false),IsV (.bool false),IsV ((aG b0_ x0_ y0_)),IsV ((aG b1_ x1_ y1_)),IsV (.int .i64 (zaK q0 q1)),IsV ((aG b0_ x0_ y0_)),IsV ((aG b1_ x1_ y1_)),IsV (.int .i64 (zaK q0 q1)),IsV (.bool false),IsV (.bool false),IsV (.bool false),IsV ((aG b0_ x0_ y0_)),IsV ((aG b1_ x1_ y1_)),IsV (.bool (decide (zaK q0 q1=0))),IsV ((aG b0_ x0_ y0_)),IsV ((aG b1_ x1_ y1_)),IsV (.bool (decide (zaK q0 q1=0))),IsV (.bool false),IsV (.bool false)] S ?_ ?_
 ·refine sc (fun _ _ S _ _=>sv rfl (zab rfl (S.at 7 rfl) (S.bx 2 rfl) Tryz.underlying27 rfl (vs:=(aL b1 x1 y1)) zae rfl)) ?_
  refine sc (fun _ _ S _ _=>sv rfl (zab rfl (S.at 5 rfl) (S.bx 3 rfl) Tryz.underlying27 rfl (vs:=(aL b2 x2 y2)) zae rfl)) ?_
  refine sc (fun _ _ S _ hd=>sl rfl (rc2 Tryz.func15 (hd.v 0 rfl rfl) (hd.v 1 rfl rfl)) (zdm (show QT 40 (mkRat (zOf b0_ x0_.N) y0_.N) ((aG b1 x1 y1)) _ from⟨b1,x1,y1,rfl,hq1,hk1,hk2,(S.num 7 rfl),(S.num 6 rfl)⟩) (show QT 40 (mkRat (zOf b0_ x0_.N) y0_.N) ((aG b2 x2 y2)) _ from⟨b2,x2,y2,rfl,hq2,hk3,hk4,(S.num 5 rfl),(S.num 4 rfl)⟩) rfl)) ?_
  refine sc (fun _ _ _ _ hd=>sv rfl (zcO (b:=true) rfl (hd.v 2 rfl rfl))) ?_
  refine sc (fun _ _ _ _ hd=>sv rfl (zad rfl (hd.v 3 rfl rfl))) ?_
  refine sc (fun _ _ S _ hd=>svg rfl (hd.v 4 rfl rfl) (zad rfl (S.at 6 rfl))) ?_
  refine sc (fun _ _ S _ hd=>svg rfl (hd.v 4 rfl rfl) (zad rfl (S.at 4 rfl))) ?_
  refine sc (fun _ _ _ _ hd=>svg rfl (hd.v 4 rfl rfl) (zbc (zdR _ (by decide) rfl (hd.v 5 rfl rfl) (hd.v 6 rfl rfl)) (show(!decide (erz y0_.N=erz y0_.N))=false from(by simp)))) ?_
  refine sc (fun _ _ _ _ hd=>sv rfl (zaM false rfl (hd.v 4 rfl rfl) (hd.v 7 rfl rfl))) ?_
  refine sc (fun _ _ _ _ hd=>sv rfl (zad rfl (hd.v 8 rfl rfl))) ?_
  refine sc (fun _ _ S _ hd=>svg rfl (hd.v 9 rfl rfl) (zab rfl (S.at 3 rfl) (S.bx 4 rfl) Tryz.underlying27 rfl (vs:=(aL b3 x3 y3)) zae rfl)) ?_
  refine sc (fun _ _ S _ hd=>svg rfl (hd.v 9 rfl rfl) (zab rfl (S.at 1 rfl) (S.bx 5 rfl) Tryz.underlying27 rfl (vs:=(aL b4 x4 y4)) zae rfl)) ?_
  refine sc (fun _ _ S _ hd=>slg rfl (hd.v 9 rfl rfl) (rc2 Tryz.func15 (hd.v 10 rfl rfl) (hd.v 11 rfl rfl)) (zdm (show QT 80 (q0/q1) ((aG b3 x3 y3)) _ from⟨b3,x3,y3,rfl,hq3,hk5,hk6,(S.num 3 rfl),(S.num 2 rfl)⟩) (show QT 80 (q0/q1) ((aG b4 x4 y4)) _ from⟨b4,x4,y4,rfl,hq4,hk7,hk8,(S.num 1 rfl),(S.num 0 rfl)⟩) rfl)) ?_
  refine sc (fun _ _ _ _ hd=>svg rfl (hd.v 9 rfl rfl) (zcO (b:=true) rfl (hd.v 12 rfl rfl))) ?_
  refine sc (fun _ _ _ _ hd=>sv rfl (zaM false rfl (hd.v 9 rfl rfl) (hd.v 13 rfl rfl))) ?_
  refine sc (fun _ _ _ _ hd=>sv rfl (zad rfl (hd.v 14 rfl rfl))) ?_
  refine sc (fun _ _ S _ hd=>svg rfl (hd.v 15 rfl rfl) (zad rfl (S.at 2 rfl))) ?_
  refine sc (fun _ _ S _ hd=>svg rfl (hd.v 15 rfl rfl) (zad rfl (S.at 0 rfl))) ?_
  refine sc (fun _ _ _ _ hd=>svg rfl (hd.v 15 rfl rfl) (zbc (zdR _ (by decide) rfl (hd.v 16 rfl rfl) (hd.v 17 rfl rfl)) (show(!decide (erq q1=erq q1))=false from(by simp)))) ?_
  refine sc (fun _ _ _ _ hd=>sv rfl (zaM false rfl (hd.v 15 rfl rfl) (hd.v 18 rfl rfl))) ?_
  refine sc (fun _ _ _ _ hd=>sv rfl (zad rfl (hd.v 19 rfl rfl))) ?_
  refine sc (fun _ _ S _ hd=>svg rfl (hd.v 20 rfl rfl) (zab rfl (S.at 9 rfl) (S.bx 0 rfl) Tryz.underlying27 rfl (vs:=(aL b0_ x0_ y0_)) zae rfl)) ?_
  refine sc (fun _ _ S _ hd=>slg rfl (hd.v 20 rfl rfl) (rc1 Tryz.func16 (hd.v 21 rfl rfl)) (zpf (T.keep S.below) (show Q1 40 (q0) ((aG b0_ x0_ y0_)) _ from⟨b0_,x0_,y0_,rfl,hqa0,hkx0,hky0,(S.num 10 rfl),(S.num 11 rfl)⟩) (by omega))) ?_
  refine sc (fun _ _ S _ hd=>svg rfl (hd.v 20 rfl rfl) (zab rfl (S.at 9 rfl) (S.bx 0 rfl) Tryz.underlying27 rfl (vs:=(aL b0_ x0_ y0_)) zae rfl)) ?_
  refine sc (fun _ _ S _ hd=>slg rfl (hd.v 20 rfl rfl) (rc1 Tryz.func17 (hd.v 23 rfl rfl)) (zej (show Q1 40 (q0) ((aG b0_ x0_ y0_)) _ from⟨b0_,x0_,y0_,rfl,hqa0,hkx0,hky0,(S.num 10 rfl),(S.num 11 rfl)⟩))) ?_
  refine sc (fun _ _ _ _ hd=>svg rfl (hd.v 20 rfl rfl) (zbc (zdR _ (by decide) rfl (hd.v 22 rfl rfl) (hd.v 24 rfl rfl)) (show(!decide (zaK q0 0=zaK q0 0))=false from(by simp)))) ?_
  refine sc (fun _ _ _ _ hd=>sv rfl (zaM false rfl (hd.v 20 rfl rfl) (hd.v 25 rfl rfl))) ?_
  refine sc (fun _ _ _ _ hd=>sv rfl (zad rfl (hd.v 26 rfl rfl))) ?_
  refine sc (fun _ _ S _ hd=>svg rfl (hd.v 27 rfl rfl) (zab rfl (S.at 9 rfl) (S.bx 0 rfl) Tryz.underlying27 rfl (vs:=(aL b0_ x0_ y0_)) zae rfl)) ?_
  refine sc (fun _ _ S _ hd=>svg rfl (hd.v 27 rfl rfl) (zab rfl (S.at 8 rfl) (S.bx 1 rfl) Tryz.underlying27 rfl (vs:=(aL b1_ x1_ y1_)) zae rfl)) ?_
  refine sc (fun _ _ S _ hd=>slg rfl (hd.v 27 rfl rfl) (rc2 Tryz.func18 (hd.v 28 rfl rfl) (hd.v 29 rfl rfl)) (zse (T.keep S.below) (show Q1 40 (q0) ((aG b0_ x0_ y0_)) _ from⟨b0_,x0_,y0_,rfl,hqa0,hkx0,hky0,(S.num 10 rfl),(S.num 11 rfl)⟩) (show Q1 40 (q1) ((aG b1_ x1_ y1_)) _ from⟨b1_,x1_,y1_,rfl,hqa1,hkx1,hky1,(S.num 8 rfl),(S.num 9 rfl)⟩) (by omega) (by omega))) ?_
  refine sc (fun _ _ S _ hd=>svg rfl (hd.v 27 rfl rfl) (zab rfl (S.at 9 rfl) (S.bx 0 rfl) Tryz.underlying27 rfl (vs:=(aL b0_ x0_ y0_)) zae rfl)) ?_
  refine sc (fun _ _ S _ hd=>svg rfl (hd.v 27 rfl rfl) (zab rfl (S.at 8 rfl) (S.bx 1 rfl) Tryz.underlying27 rfl (vs:=(aL b1_ x1_ y1_)) zae rfl)) ?_
  refine sc (fun _ _ S _ hd=>slg rfl (hd.v 27 rfl rfl) (rc2 Tryz.func19 (hd.v 31 rfl rfl) (hd.v 32 rfl rfl)) (zds (show Q1 40 (q0) ((aG b0_ x0_ y0_)) _ from⟨b0_,x0_,y0_,rfl,hqa0,hkx0,hky0,(S.num 10 rfl),(S.num 11 rfl)⟩) (show Q1 40 (q1) ((aG b1_ x1_ y1_)) _ from⟨b1_,x1_,y1_,rfl,hqa1,hkx1,hky1,(S.num 8 rfl),(S.num 9 rfl)⟩) (by decide) (by decide))) ?_
  refine sc (fun _ _ _ _ hd=>svg rfl (hd.v 27 rfl rfl) (zbc (zdR _ (by decide) rfl (hd.v 30 rfl rfl) (hd.v 33 rfl rfl)) (show(!decide (zaK q0 q1=zaK q0 q1))=false from(by simp)))) ?_
  refine sc (fun _ _ _ _ hd=>sv rfl (zaM false rfl (hd.v 27 rfl rfl) (hd.v 34 rfl rfl))) ?_
  refine sc (fun _ _ _ _ hd=>sv rfl (zad rfl (hd.v 35 rfl rfl))) ?_
  refine sc (fun _ _ S _ hd=>svg rfl (hd.v 36 rfl rfl) (zab rfl (S.at 9 rfl) (S.bx 0 rfl) Tryz.underlying27 rfl (vs:=(aL b0_ x0_ y0_)) zae rfl)) ?_
  refine sc (fun _ _ S _ hd=>svg rfl (hd.v 36 rfl rfl) (zab rfl (S.at 8 rfl) (S.bx 1 rfl) Tryz.underlying27 rfl (vs:=(aL b1_ x1_ y1_)) zae rfl)) ?_
  refine sc (fun _ _ S _ hd=>slg rfl (hd.v 36 rfl rfl) (rc2 Tryz.func20 (hd.v 37 rfl rfl) (hd.v 38 rfl rfl)) (zs2 (T.keep S.below) (show Q1 40 (q0) ((aG b0_ x0_ y0_)) _ from⟨b0_,x0_,y0_,rfl,hqa0,hkx0,hky0,(S.num 10 rfl),(S.num 11 rfl)⟩) (show Q1 40 (q1) ((aG b1_ x1_ y1_)) _ from⟨b1_,x1_,y1_,rfl,hqa1,hkx1,hky1,(S.num 8 rfl),(S.num 9 rfl)⟩) (by omega) (by omega))) ?_
  refine sc (fun _ _ S _ hd=>svg rfl (hd.v 36 rfl rfl) (zab rfl (S.at 9 rfl) (S.bx 0 rfl) Tryz.underlying27 rfl (vs:=(aL b0_ x0_ y0_)) zae rfl)) ?_
  refine sc (fun _ _ S _ hd=>svg rfl (hd.v 36 rfl rfl) (zab rfl (S.at 8 rfl) (S.bx 1 rfl) Tryz.underlying27 rfl (vs:=(aL b1_ x1_ y1_)) zae rfl)) ?_
  refine sc (fun _ _ S _ hd=>slg rfl (hd.v 36 rfl rfl) (rc2 Tryz.func21 (hd.v 40 rfl rfl) (hd.v 41 rfl rfl)) (zta (show Q1 40 (q0) ((aG b0_ x0_ y0_)) _ from⟨b0_,x0_,y0_,rfl,hqa0,hkx0,hky0,(S.num 10 rfl),(S.num 11 rfl)⟩) (show Q1 40 (q1) ((aG b1_ x1_ y1_)) _ from⟨b1_,x1_,y1_,rfl,hqa1,hkx1,hky1,(S.num 8 rfl),(S.num 9 rfl)⟩) (by decide) (by decide))) ?_
  refine sc (fun _ _ _ _ hd=>svg rfl (hd.v 36 rfl rfl) (zbc (zfI rfl (hd.v 39 rfl rfl) (hd.v 42 rfl rfl)) (show((decide (zaK q0 q1=0)) != (decide (zaK q0 q1=0)))=false from(by simp)))) ?_
  refine sc (fun _ _ _ _ hd=>sv rfl (zaM false rfl (hd.v 36 rfl rfl) (hd.v 43 rfl rfl))) ?_
  exact sn
 ·intro a1 V18 S hB hf
  have S:=S.add (hf.v 44 rfl rfl)
  clear hf S0
  show wpList _ _ _ [] _ _
  refine hK9 _ _ ?_
  refine wp_cond_false (S.at 0 rfl) ?_
  refine wp_skip ?_
  refine hK8 _ _ ?_
  refine wp_seq_k fun K10 hK10=>?_
  refine wp_seq_k fun K11 hK11=>?_
  obtain⟨W2,hW2⟩:∃W,W=V18:=⟨_,rfl⟩
  rw[←hW2]at S ⊢
  have S0:=S
  refine fr 38 [103,104,105,106,107,108,109,110,111,112,113,114,115,116,117,118,119,120,121,122,123,124,125,126,127,128,129,130,131,132,133,134,135,136,137,138,139,140] [IsV (.int .i64 n),QT 2 ((n:Int)),IsV (.int .i64 n),QT 2 ((n:Int)),IsV (.bool true),IsV (.bool false),IsV (.bool false),IsV ((aG b0_ x0_ y0_)),QT 40 (q0),IsV ((aG b0_ x0_ y0_)),QT 40 (q0),IsV (.bool true),IsV (.bool false),IsV (.bool false),IsV (.bool false),IsV ((aG b0_ x0_ y0_)),QT 40 (-q0),IsV ((aG b0_ x0_ y0_)),QT 40 (-q0),IsV (.bool true),IsV (.bool false),IsV (.bool false),IsV (.bool false),IsV (.slice A l.length c),QT (max 1 ((l.map qP).length*(max 40 1+1))) (zcG (l.map qP)),IsV (.slice A l.length c),QT 128 (zcG (l.map qP)),IsV (.bool true),IsV (.bool false),IsV (.bool false),IsV (.bool false),IsV (.slice A l.length c),QT (max 1 ((l.map qP).length*(max 40 1+0))) (zbd (l.map qP)),IsV (.slice A l.length c),QT 128 (zbd (l.map qP)),IsV (.bool true),IsV (.bool false),IsV (.bool false)] S ?_ ?_
  ·refine sc (fun _ _ S _ _=>sv rfl (zad rfl (S.at 12 rfl))) ?_
   refine sc (fun _ _ _ _ hd=>sl rfl (rc1 Tryz.func22 (hd.v 0 rfl rfl)) (zs0 (n:=n) hn)) ?_
   refine sc (fun _ _ S _ _=>sv rfl (zad rfl (S.at 12 rfl))) ?_
   refine sc (fun _ _ _ _ hd=>sl rfl (rc1 Tryz.func23 (hd.v 2 rfl rfl)) (zhR (n:=n) hn)) ?_
   refine sc (fun _ _ _ _ hd=>sl rfl (rc2 Tryz.func15 rfl rfl) (zdm (hd.r 1 rfl rfl) (hd.r 3 rfl rfl) rfl)) ?_
   refine sc (fun _ _ _ _ hd=>sv rfl (zcO (b:=true) rfl (hd.v 4 rfl rfl))) ?_
   refine sc (fun _ _ _ _ hd=>sv rfl (zad rfl (hd.v 5 rfl rfl))) ?_
   refine sc (fun _ _ S _ hd=>svg rfl (hd.v 6 rfl rfl) (zab rfl (S.at 10 rfl) (S.bx 0 rfl) Tryz.underlying27 rfl (vs:=(aL b0_ x0_ y0_)) zae rfl)) ?_
   refine sc (fun _ _ S _ hd=>slg rfl (hd.v 6 rfl rfl) (rc1 Tryz.func24 (hd.v 7 rfl rfl)) (zs1 (T.keep S.below) (show Q1 40 (q0) ((aG b0_ x0_ y0_)) _ from⟨b0_,x0_,y0_,rfl,hqa0,hkx0,hky0,(S.num 10 rfl),(S.num 11 rfl)⟩) (by omega))) ?_
   refine sc (fun _ _ S _ hd=>svg rfl (hd.v 6 rfl rfl) (zab rfl (S.at 10 rfl) (S.bx 0 rfl) Tryz.underlying27 rfl (vs:=(aL b0_ x0_ y0_)) zae rfl)) ?_
   refine sc (fun _ _ S _ hd=>slg rfl (hd.v 6 rfl rfl) (rc1 Tryz.func25 (hd.v 9 rfl rfl)) (zdl (show Q1 40 (q0) ((aG b0_ x0_ y0_)) _ from⟨b0_,x0_,y0_,rfl,hqa0,hkx0,hky0,(S.num 10 rfl),(S.num 11 rfl)⟩) (by decide))) ?_
   refine sc (fun _ _ _ _ hd=>slg rfl (hd.v 6 rfl rfl) (rc2 Tryz.func15 rfl rfl) (zdm (hd.r 8 rfl rfl) (hd.r 10 rfl rfl) rfl)) ?_
   refine sc (fun _ _ _ _ hd=>svg rfl (hd.v 6 rfl rfl) (zcO (b:=true) rfl (hd.v 11 rfl rfl))) ?_
   refine sc (fun _ _ _ _ hd=>sv rfl (zaM false rfl (hd.v 6 rfl rfl) (hd.v 12 rfl rfl))) ?_
   refine sc (fun _ _ _ _ hd=>sv rfl (zad rfl (hd.v 13 rfl rfl))) ?_
   refine sc (fun _ _ S _ hd=>svg rfl (hd.v 14 rfl rfl) (zab rfl (S.at 10 rfl) (S.bx 0 rfl) Tryz.underlying27 rfl (vs:=(aL b0_ x0_ y0_)) zae rfl)) ?_
   refine sc (fun _ _ S _ hd=>slg rfl (hd.v 14 rfl rfl) (rc1 Tryz.func26 (hd.v 15 rfl rfl)) (ztU (T.keep S.below) (show Q1 40 (q0) ((aG b0_ x0_ y0_)) _ from⟨b0_,x0_,y0_,rfl,hqa0,hkx0,hky0,(S.num 10 rfl),(S.num 11 rfl)⟩) (by omega))) ?_
   refine sc (fun _ _ S _ hd=>svg rfl (hd.v 14 rfl rfl) (zab rfl (S.at 10 rfl) (S.bx 0 rfl) Tryz.underlying27 rfl (vs:=(aL b0_ x0_ y0_)) zae rfl)) ?_
   refine sc (fun _ _ S _ hd=>slg rfl (hd.v 14 rfl rfl) (rc1 Tryz.func27 (hd.v 17 rfl rfl)) (zqg (show Q1 40 (q0) ((aG b0_ x0_ y0_)) _ from⟨b0_,x0_,y0_,rfl,hqa0,hkx0,hky0,(S.num 10 rfl),(S.num 11 rfl)⟩) (by decide))) ?_
   refine sc (fun _ _ _ _ hd=>slg rfl (hd.v 14 rfl rfl) (rc2 Tryz.func15 rfl rfl) (zdm (hd.r 16 rfl rfl) (hd.r 18 rfl rfl) rfl)) ?_
   refine sc (fun _ _ _ _ hd=>svg rfl (hd.v 14 rfl rfl) (zcO (b:=true) rfl (hd.v 19 rfl rfl))) ?_
   refine sc (fun _ _ _ _ hd=>sv rfl (zaM false rfl (hd.v 14 rfl rfl) (hd.v 20 rfl rfl))) ?_
   refine sc (fun _ _ _ _ hd=>sv rfl (zad rfl (hd.v 21 rfl rfl))) ?_
   refine sc (fun _ _ S _ hd=>svg rfl (hd.v 22 rfl rfl) (zad rfl (S.at 11 rfl))) ?_
   refine sc (fun _ _ S _ hd=>slg rfl (hd.v 22 rfl rfl) (rc1 Tryz.func28 (hd.v 23 rfl rfl)) (zoY (T.keep S.below) (hRow.keep S.below) (by decide) (show((l.map qP).length*41≤4000) by rw[List.length_map];omega))) ?_
   refine sc (fun _ _ S _ hd=>svg rfl (hd.v 22 rfl rfl) (zad rfl (S.at 11 rfl))) ?_
   refine sc (fun _ _ S _ hd=>slg rfl (hd.v 22 rfl rfl) (rc1 Tryz.func29 (hd.v 25 rfl rfl)) (zsv (((hRow.keep S.below)).to (by decide)) (fun k hk=>(hSM k hk).1))) ?_
   refine sc (fun _ _ _ _ hd=>slg rfl (hd.v 22 rfl rfl) (rc2 Tryz.func15 rfl rfl) (zdm (hd.r 24 rfl rfl) (hd.r 26 rfl rfl) rfl)) ?_
   refine sc (fun _ _ _ _ hd=>svg rfl (hd.v 22 rfl rfl) (zcO (b:=true) rfl (hd.v 27 rfl rfl))) ?_
   refine sc (fun _ _ _ _ hd=>sv rfl (zaM false rfl (hd.v 22 rfl rfl) (hd.v 28 rfl rfl))) ?_
   refine sc (fun _ _ _ _ hd=>sv rfl (zad rfl (hd.v 29 rfl rfl))) ?_
   refine sc (fun _ _ S _ hd=>svg rfl (hd.v 30 rfl rfl) (zad rfl (S.at 11 rfl))) ?_
   refine sc (fun _ _ S _ hd=>slg rfl (hd.v 30 rfl rfl) (rc1 Tryz.func30 (hd.v 31 rfl rfl)) (zoZ (T.keep S.below) (hRow.keep S.below) (by decide) (show((l.map qP).length*40≤4000) by rw[List.length_map];omega))) ?_
   refine sc (fun _ _ S _ hd=>svg rfl (hd.v 30 rfl rfl) (zad rfl (S.at 11 rfl))) ?_
   refine sc (fun _ _ S _ hd=>slg rfl (hd.v 30 rfl rfl) (rc1 Tryz.func31 (hd.v 33 rfl rfl)) (zsw (((hRow.keep S.below)).to (by decide)) (fun k hk=>(hSM k hk).2))) ?_
   refine sc (fun _ _ _ _ hd=>slg rfl (hd.v 30 rfl rfl) (rc2 Tryz.func15 rfl rfl) (zdm (hd.r 32 rfl rfl) (hd.r 34 rfl rfl) rfl)) ?_
   refine sc (fun _ _ _ _ hd=>svg rfl (hd.v 30 rfl rfl) (zcO (b:=true) rfl (hd.v 35 rfl rfl))) ?_
   refine sc (fun _ _ _ _ hd=>sv rfl (zaM false rfl (hd.v 30 rfl rfl) (hd.v 36 rfl rfl))) ?_
   exact sn
  ·intro a2 V19 S hB hf
   have S:=S.add (hf.v 37 rfl rfl)
   clear hf S0
   show wpList _ _ _ [] _ _
   refine hK11 _ _ ?_
   refine wp_cond_false (S.at 0 rfl) ?_
   refine wp_skip ?_
   refine hK10 _ _ ?_
   refine wp_seq_k fun K12 hK12=>?_
   have S:=S.keep [5,4] (ls':=[(5,pT g2 0),(4,pT g1 0)]) rfl
   refine zaa ?_
   refine tv S (zab rfl (S.at 1 rfl) (S.bx 0 rfl) Tryz.underlying27 rfl (vs:=(aL b0_ x0_ y0_)) zae rfl) fun a S=>?_
   refine tv S (zab rfl (S.at 1 rfl) (S.bx 1 rfl) Tryz.underlying27 rfl (vs:=(aL b1_ x1_ y1_)) zae rfl) fun a S=>?_
   refine tc S (F:=QV 163 (zba q0 q1) (.bool (decide (q0<q1)))) (rc2 Tryz.func32 (S.at 1 rfl) (S.at 0 rfl)) (zfT (T.keep S.below) (show Q1 40 (q0) ((aG b0_ x0_ y0_)) _ from⟨b0_,x0_,y0_,rfl,hqa0,hkx0,hky0,(S.num 10 rfl),(S.num 11 rfl)⟩) (show Q1 40 (q1) ((aG b1_ x1_ y1_)) _ from⟨b1_,x1_,y1_,rfl,hqa1,hkx1,hky1,(S.num 8 rfl),(S.num 9 rfl)⟩) (by omega) (by omega)) fun v a V20 hF hb S=>?_
   obtain⟨b5,x5,y5,rfl,hq5,hk9,hk10,ok9,ok10⟩:=hF
   have S:=S.know ok9
   have S:=S.know ok10
   refine tv S (zad rfl (S.at 0 rfl)) fun a S=>?_
   refine tv S (zaq rfl (S.at 0 rfl) rfl) fun a S=>?_
   refine tv S (zaq rfl (S.at 1 rfl) rfl) fun a S=>?_
   refine ti S (cs:=[.bool false,.slice none 0 0,.slice none 0 0]) (zap rfl (Tryz.zeroValue27 _) rfl) (fun g7=>[⟨g1,27,(aL b0_ x0_ y0_)⟩,⟨g2,27,(aL b1_ x1_ y1_)⟩,⟨g3,27,(aL b1 x1 y1)⟩,⟨g4,27,(aL b2 x2 y2)⟩,⟨g5,27,(aL b3 x3 y3)⟩,⟨g6,27,(aL b4 x4 y4)⟩,⟨g7,27,[.bool false,.slice none 0 0,.slice none 0 0]⟩]) fun g7 a V21 hgg7 S=>?_
   refine zal S (i:=6) (vs:=(aL b5 x5 y5)) rfl (fun ht=>zah rfl (S.at 0 rfl) (S.at 2 rfl) zae rfl (zuz rfl) ht) (zuz rfl) rfl rfl rfl (lb':=[⟨g1,27,(aL b0_ x0_ y0_)⟩,⟨g2,27,(aL b1_ x1_ y1_)⟩,⟨g3,27,(aL b1 x1 y1)⟩,⟨g4,27,(aL b2 x2 y2)⟩,⟨g5,27,(aL b3 x3 y3)⟩,⟨g6,27,(aL b4 x4 y4)⟩,⟨g7,27,(aL b5 x5 y5)⟩]) rfl (fun V22 S=>?_)
   refine tv S (zam rfl (S.at 1 rfl)) fun a S=>?_
   refine hK12 _ _ ?_
   refine wp_seq_k fun K13 hK13=>?_
   refine zaa ?_
   refine tv S (zab rfl (S.at 9 rfl) (S.bx 0 rfl) Tryz.underlying27 rfl (vs:=(aL b0_ x0_ y0_)) zae rfl) fun a S=>?_
   refine tv S (zab rfl (S.at 9 rfl) (S.bx 1 rfl) Tryz.underlying27 rfl (vs:=(aL b1_ x1_ y1_)) zae rfl) fun a S=>?_
   refine tc S (F:=QV 128 (zba q0 q1) (.bool (decide (q0<q1)))) (rc2 Tryz.func33 (S.at 1 rfl) (S.at 0 rfl)) (znJ (show Q1 40 (q0) ((aG b0_ x0_ y0_)) _ from⟨b0_,x0_,y0_,rfl,hqa0,hkx0,hky0,(S.num 12 rfl),(S.num 13 rfl)⟩) (show Q1 40 (q1) ((aG b1_ x1_ y1_)) _ from⟨b1_,x1_,y1_,rfl,hqa1,hkx1,hky1,(S.num 10 rfl),(S.num 11 rfl)⟩) (by decide) (by decide) hDL) fun v a V23 hF hb S=>?_
   obtain⟨b6,x6,y6,rfl,hq6,hk11,hk12,ok11,ok12⟩:=hF
   have S:=S.know ok11
   have S:=S.know ok12
   refine tv S (zad rfl (S.at 0 rfl)) fun a S=>?_
   refine tv S (zaq rfl (S.at 0 rfl) rfl) fun a S=>?_
   refine tv S (zaq rfl (S.at 1 rfl) rfl) fun a S=>?_
   refine ti S (cs:=[.bool false,.slice none 0 0,.slice none 0 0]) (zap rfl (Tryz.zeroValue27 _) rfl) (fun g8=>[⟨g1,27,(aL b0_ x0_ y0_)⟩,⟨g2,27,(aL b1_ x1_ y1_)⟩,⟨g3,27,(aL b1 x1 y1)⟩,⟨g4,27,(aL b2 x2 y2)⟩,⟨g5,27,(aL b3 x3 y3)⟩,⟨g6,27,(aL b4 x4 y4)⟩,⟨g7,27,(aL b5 x5 y5)⟩,⟨g8,27,[.bool false,.slice none 0 0,.slice none 0 0]⟩]) fun g8 a V24 hgg8 S=>?_
   refine zal S (i:=7) (vs:=(aL b6 x6 y6)) rfl (fun ht=>zah rfl (S.at 0 rfl) (S.at 2 rfl) zae rfl (zuz rfl) ht) (zuz rfl) rfl rfl rfl (lb':=[⟨g1,27,(aL b0_ x0_ y0_)⟩,⟨g2,27,(aL b1_ x1_ y1_)⟩,⟨g3,27,(aL b1 x1 y1)⟩,⟨g4,27,(aL b2 x2 y2)⟩,⟨g5,27,(aL b3 x3 y3)⟩,⟨g6,27,(aL b4 x4 y4)⟩,⟨g7,27,(aL b5 x5 y5)⟩,⟨g8,27,(aL b6 x6 y6)⟩]) rfl (fun V25 S=>?_)
   refine tv S (zam rfl (S.at 1 rfl)) fun a S=>?_
   refine hK13 _ _ ?_
   refine wp_seq_k fun K14 hK14=>?_
   have S:=S.keep [20,19,18,17,5,4] (ls':=[(20,.bool (decide (q0<q1))),(19,pT g8 0),(18,.bool (decide (q0<q1))),(17,pT g7 0),(5,pT g2 0),(4,pT g1 0)]) rfl
   obtain⟨W3,hW3⟩:∃W,W=V25:=⟨_,rfl⟩
   rw[←hW3]at S ⊢
   have S0:=S
   refine fr 36 [153,154,155,156,157,158,159,160,161,162,163,164,165,166,167,168,169,170,171,172,173,174,175,176,177,178,179,180,181,182,183,184,185,186,187,188] [IsV ((aG b5 x5 y5)),IsV ((aG b6 x6 y6)),IsV (.bool true),IsV (.bool true),IsV (.bool (decide (q0<q1))),IsV (.bool (decide (q0<q1))),IsV (.bool true),IsV (.bool true),IsV (.bool true),IsV ((aG b0_ x0_ y0_)),IsV ((aG b1_ x1_ y1_)),QT 81 (q0 - q1),IsV ((aG b0_ x0_ y0_)),IsV ((aG b1_ x1_ y1_)),QT 81 (q0 - q1),IsV (.bool true),IsV (.bool true),IsV (.bool true),IsV ((aG b0_ x0_ y0_)),IsV ((aG b1_ x1_ y1_)),QT 82 ((q0+q1)/2),IsV ((aG b0_ x0_ y0_)),IsV ((aG b1_ x1_ y1_)),QT 82 ((q0+q1)/2),IsV (.bool true),IsV (.bool true),IsV (.bool true),IsV ((aG b0_ x0_ y0_)),ZT 41 (Rat.floor q0),IsV ((aG b0_ x0_ y0_)),ZT 41 (Rat.floor q0),IsV (.bool true),IsV (.bool true),IsV (.bool true),IsV (.bool true),IsV (.bool true)] S ?_ ?_
   ·refine sc (fun _ _ S _ _=>sv rfl (zab rfl (S.at 3 rfl) (S.bx 6 rfl) Tryz.underlying27 rfl (vs:=(aL b5 x5 y5)) zae rfl)) ?_
    refine sc (fun _ _ S _ _=>sv rfl (zab rfl (S.at 1 rfl) (S.bx 7 rfl) Tryz.underlying27 rfl (vs:=(aL b6 x6 y6)) zae rfl)) ?_
    refine sc (fun _ _ S _ hd=>sl rfl (rc2 Tryz.func15 (hd.v 0 rfl rfl) (hd.v 1 rfl rfl)) (zdm (show QT 163 (zba q0 q1) ((aG b5 x5 y5)) _ from⟨b5,x5,y5,rfl,hq5,hk9,hk10,(S.num 3 rfl),(S.num 2 rfl)⟩) (show QT 128 (zba q0 q1) ((aG b6 x6 y6)) _ from⟨b6,x6,y6,rfl,hq6,hk11,hk12,(S.num 1 rfl),(S.num 0 rfl)⟩) rfl)) ?_
    refine sc (fun _ _ _ _ hd=>sv rfl (zad rfl (hd.v 2 rfl rfl))) ?_
    refine sc (fun _ _ S _ hd=>svg rfl (hd.v 3 rfl rfl) (zad rfl (S.at 2 rfl))) ?_
    refine sc (fun _ _ S _ hd=>svg rfl (hd.v 3 rfl rfl) (zad rfl (S.at 0 rfl))) ?_
    refine sc (fun _ _ _ _ hd=>svg rfl (hd.v 3 rfl rfl) (zbc (zrI rfl (hd.v 4 rfl rfl) (hd.v 5 rfl rfl)) (show((decide (q0<q1))==(decide (q0<q1)))=true from(by simp)))) ?_
    refine sc (fun _ _ _ _ hd=>sv rfl (zaM true rfl (hd.v 3 rfl rfl) (hd.v 6 rfl rfl))) ?_
    refine sc (fun _ _ _ _ hd=>sv rfl (zad rfl (hd.v 7 rfl rfl))) ?_
    refine sc (fun _ _ S _ hd=>svg rfl (hd.v 8 rfl rfl) (zab rfl (S.at 5 rfl) (S.bx 0 rfl) Tryz.underlying27 rfl (vs:=(aL b0_ x0_ y0_)) zae rfl)) ?_
    refine sc (fun _ _ S _ hd=>svg rfl (hd.v 8 rfl rfl) (zab rfl (S.at 4 rfl) (S.bx 1 rfl) Tryz.underlying27 rfl (vs:=(aL b1_ x1_ y1_)) zae rfl)) ?_
    refine sc (fun _ _ S _ hd=>slg rfl (hd.v 8 rfl rfl) (rc2 Tryz.func34 (hd.v 9 rfl rfl) (hd.v 10 rfl rfl)) (ztV (T.keep S.below) (show Q1 40 (q0) ((aG b0_ x0_ y0_)) _ from⟨b0_,x0_,y0_,rfl,hqa0,hkx0,hky0,(S.num 14 rfl),(S.num 15 rfl)⟩) (show Q1 40 (q1) ((aG b1_ x1_ y1_)) _ from⟨b1_,x1_,y1_,rfl,hqa1,hkx1,hky1,(S.num 12 rfl),(S.num 13 rfl)⟩) (by omega) (by omega))) ?_
    refine sc (fun _ _ S _ hd=>svg rfl (hd.v 8 rfl rfl) (zab rfl (S.at 5 rfl) (S.bx 0 rfl) Tryz.underlying27 rfl (vs:=(aL b0_ x0_ y0_)) zae rfl)) ?_
    refine sc (fun _ _ S _ hd=>svg rfl (hd.v 8 rfl rfl) (zab rfl (S.at 4 rfl) (S.bx 1 rfl) Tryz.underlying27 rfl (vs:=(aL b1_ x1_ y1_)) zae rfl)) ?_
    refine sc (fun _ _ S _ hd=>slg rfl (hd.v 8 rfl rfl) (rc2 Tryz.func35 (hd.v 12 rfl rfl) (hd.v 13 rfl rfl)) (zsn (show Q1 40 (q0) ((aG b0_ x0_ y0_)) _ from⟨b0_,x0_,y0_,rfl,hqa0,hkx0,hky0,(S.num 14 rfl),(S.num 15 rfl)⟩) (show Q1 40 (q1) ((aG b1_ x1_ y1_)) _ from⟨b1_,x1_,y1_,rfl,hqa1,hkx1,hky1,(S.num 12 rfl),(S.num 13 rfl)⟩) (by decide) (by decide))) ?_
    refine sc (fun _ _ _ _ hd=>slg rfl (hd.v 8 rfl rfl) (rc2 Tryz.func15 rfl rfl) (zdm (hd.r 11 rfl rfl) (hd.r 14 rfl rfl) rfl)) ?_
    refine sc (fun _ _ _ _ hd=>sv rfl (zaM true rfl (hd.v 8 rfl rfl) (hd.v 15 rfl rfl))) ?_
    refine sc (fun _ _ _ _ hd=>sv rfl (zad rfl (hd.v 16 rfl rfl))) ?_
    refine sc (fun _ _ S _ hd=>svg rfl (hd.v 17 rfl rfl) (zab rfl (S.at 5 rfl) (S.bx 0 rfl) Tryz.underlying27 rfl (vs:=(aL b0_ x0_ y0_)) zae rfl)) ?_
    refine sc (fun _ _ S _ hd=>svg rfl (hd.v 17 rfl rfl) (zab rfl (S.at 4 rfl) (S.bx 1 rfl) Tryz.underlying27 rfl (vs:=(aL b1_ x1_ y1_)) zae rfl)) ?_
    refine sc (fun _ _ S _ hd=>slg rfl (hd.v 17 rfl rfl) (rc2 Tryz.func36 (hd.v 18 rfl rfl) (hd.v 19 rfl rfl)) (zsf (T.keep S.below) (show Q1 40 (q0) ((aG b0_ x0_ y0_)) _ from⟨b0_,x0_,y0_,rfl,hqa0,hkx0,hky0,(S.num 14 rfl),(S.num 15 rfl)⟩) (show Q1 40 (q1) ((aG b1_ x1_ y1_)) _ from⟨b1_,x1_,y1_,rfl,hqa1,hkx1,hky1,(S.num 12 rfl),(S.num 13 rfl)⟩) (by omega) (by omega))) ?_
    refine sc (fun _ _ S _ hd=>svg rfl (hd.v 17 rfl rfl) (zab rfl (S.at 5 rfl) (S.bx 0 rfl) Tryz.underlying27 rfl (vs:=(aL b0_ x0_ y0_)) zae rfl)) ?_
    refine sc (fun _ _ S _ hd=>svg rfl (hd.v 17 rfl rfl) (zab rfl (S.at 4 rfl) (S.bx 1 rfl) Tryz.underlying27 rfl (vs:=(aL b1_ x1_ y1_)) zae rfl)) ?_
    refine sc (fun _ _ S _ hd=>slg rfl (hd.v 17 rfl rfl) (rc2 Tryz.func37 (hd.v 21 rfl rfl) (hd.v 22 rfl rfl)) (zt9 (show Q1 40 (q0) ((aG b0_ x0_ y0_)) _ from⟨b0_,x0_,y0_,rfl,hqa0,hkx0,hky0,(S.num 14 rfl),(S.num 15 rfl)⟩) (show Q1 40 (q1) ((aG b1_ x1_ y1_)) _ from⟨b1_,x1_,y1_,rfl,hqa1,hkx1,hky1,(S.num 12 rfl),(S.num 13 rfl)⟩) (by decide) (by decide))) ?_
    refine sc (fun _ _ _ _ hd=>slg rfl (hd.v 17 rfl rfl) (rc2 Tryz.func15 rfl rfl) (zdm (hd.r 20 rfl rfl) (hd.r 23 rfl rfl) rfl)) ?_
    refine sc (fun _ _ _ _ hd=>sv rfl (zaM true rfl (hd.v 17 rfl rfl) (hd.v 24 rfl rfl))) ?_
    refine sc (fun _ _ _ _ hd=>sv rfl (zad rfl (hd.v 25 rfl rfl))) ?_
    refine sc (fun _ _ S _ hd=>svg rfl (hd.v 26 rfl rfl) (zab rfl (S.at 5 rfl) (S.bx 0 rfl) Tryz.underlying27 rfl (vs:=(aL b0_ x0_ y0_)) zae rfl)) ?_
    refine sc (fun _ _ S _ hd=>slg rfl (hd.v 26 rfl rfl) (rc1 Tryz.func39 (hd.v 27 rfl rfl)) (zml (T.keep S.below) (show Q1 40 (q0) ((aG b0_ x0_ y0_)) _ from⟨b0_,x0_,y0_,rfl,hqa0,hkx0,hky0,(S.num 14 rfl),(S.num 15 rfl)⟩) (by omega))) ?_
    refine sc (fun _ _ S _ hd=>svg rfl (hd.v 26 rfl rfl) (zab rfl (S.at 5 rfl) (S.bx 0 rfl) Tryz.underlying27 rfl (vs:=(aL b0_ x0_ y0_)) zae rfl)) ?_
    refine sc (fun _ _ S _ hd=>slg rfl (hd.v 26 rfl rfl) (rc1 Tryz.func40 (hd.v 29 rfl rfl)) (zfA (show Q1 40 (q0) ((aG b0_ x0_ y0_)) _ from⟨b0_,x0_,y0_,rfl,hqa0,hkx0,hky0,(S.num 14 rfl),(S.num 15 rfl)⟩) (by decide))) ?_
    refine sc (fun _ _ _ _ hd=>slg rfl (hd.v 26 rfl rfl) (rc2 Tryz.func38 rfl rfl) (zqk (hd.r 28 rfl rfl) (hd.r 30 rfl rfl) rfl)) ?_
    refine sc (fun _ _ _ _ hd=>sv rfl (zaM true rfl (hd.v 26 rfl rfl) (hd.v 31 rfl rfl))) ?_
    refine sc (fun _ _ _ _ hd=>sv rfl (zad rfl (hd.v 32 rfl rfl))) ?_
    refine sc (fun _ _ S _ hd=>slg rfl (hd.v 33 rfl rfl) (rc0 Tryz.func10) (zcl (T.keep S.below))) ?_
    refine sc (fun _ _ _ _ hd=>sv rfl (zaM true rfl (hd.v 33 rfl rfl) (hd.v 34 rfl rfl))) ?_
    exact sn
   ·intro a3 V26 S hB hf
    have S:=S.add (hf.v 35 rfl rfl)
    clear hf S0
    show wpList _ _ _ [_] _ _
    refine tv S (zam rfl (S.at 0 rfl)) fun a S=>?_
    refine hK14 _ _ ?_
    refine wp_ret ?_
    exact za5 rfl S (S.at 0 rfl) ⟨_,rfl,rfl,S.below⟩
theorem zhF (b0_:Bool)(x0_ y0_:Num)(b1_:Bool)(x1_ y1_:Num)(A:Option Addr)(c:Nat)(l:List (Bool×Num×Num))(n:Int){V:World}(T:TT V)(ox0:x0_.ok V V.heap.size)(oy0:y0_.ok V V.heap.size)(ox1:x1_.ok V V.heap.size)(oy1:y1_.ok V V.heap.size)(hG:zbR [(b0_,x0_,y0_),(b1_,x1_,y1_)]=true):
  Calls Tryz.prog 3 #[(aG b0_ x0_ y0_),(aG b1_ x1_ y1_),.slice A l.length c,.int .i64 n] V (zao V (fun v _=>v= .bool true)):=by
 obtain⟨q0,hqa0⟩:∃q,qOf b0_ x0_.N y0_.N=q:=⟨_,rfl⟩
 obtain⟨q1,hqa1⟩:∃q,qOf b1_ x1_.N y1_.N=q:=⟨_,rfl⟩
 refine zaD (e:=[x1_,y1_,x0_,y0_]) Tryz.func3 rfl Tryz.ntmps3 (zuz rfl) [(0,(aG b0_ x0_ y0_)),(1,(aG b1_ x1_ y1_)),(2,.slice A l.length c),(3,.int .i64 n)] rfl (zak ox1 (zak oy1 (zak ox0 (zak oy0 zaW)))) (fun a S=>?_)
 refine wp_seq_k fun K1 hK1=>?_
 refine zaa ?_
 refine ti S (cs:=(aL b0_ x0_ y0_)) (zaH rfl (S.at 0 rfl) rfl) (fun g1=>[⟨g1,27,(aL b0_ x0_ y0_)⟩]) fun g1 a V1 hgg1 S=>?_
 refine ti S (cs:=(aL b1_ x1_ y1_)) (zaH rfl (S.at 2 rfl) rfl) (fun g2=>[⟨g1,27,(aL b0_ x0_ y0_)⟩,⟨g2,27,(aL b1_ x1_ y1_)⟩]) fun g2 a V2 hgg2 S=>?_
 refine tv S (zau rfl) fun a S=>?_
 refine hK1 _ _ ?_
 refine wp_seq_k fun K2 hK2=>?_
 refine wp_seq_k fun K3 hK3=>?_
 refine zaa ?_
 refine tv S (zab rfl (S.at 2 rfl) (S.bx 0 rfl) Tryz.underlying27 rfl (vs:=(aL b0_ x0_ y0_)) zae rfl) fun a S=>?_
 refine tv S (zab rfl (S.at 2 rfl) (S.bx 1 rfl) Tryz.underlying27 rfl (vs:=(aL b1_ x1_ y1_)) zae rfl) fun a S=>?_
 refine ty S (F:=GL ([(b0_,x0_,y0_),(b1_,x1_,y1_)])) (zel rfl (S.at 1 rfl) (S.at 0 rfl) (S.num 2 rfl) (S.num 3 rfl) (S.num 0 rfl) (S.num 1 rfl)) fun v a V3 hF hb S=>?_
 obtain⟨ov1,hov1⟩:∃z,z=v:=⟨_,rfl⟩
 rw[←hov1]at hF S
 have rov1:=hF
 refine tc S (F:=(fun v _=>v= .bool true)) (rc1 Tryz.func9 (S.at 0 rfl)) (zdU rov1 hG) fun v a V4 hF hb S=>?_
 replace rov1:=rov1.keep hb
 subst hF
 refine tv S (zad rfl (S.at 0 rfl)) fun a S=>?_
 refine tk S (S.at 0 rfl) fun a S=>?_
 refine tk S (S.at 1 rfl) fun a S=>?_
 refine tv S (zaM true rfl (S.at 2 rfl) rfl) fun a S=>?_
 refine hK3 _ _ ?_
 refine wp_cond_true (S.at 0 rfl) ?_
 refine wp_seq_k fun K4 hK4=>?_
 have S:=S.keep [8] (ls':=[(8,.bool false)]) rfl
 refine zaa ?_
 refine tc S (F:=(fun v _=>v= .bool true)) (rc0 Tryz.func10) (zcl (T.keep S.below)) fun v a V5 hF hb S=>?_
 subst hF
 refine zbk S (v:= .bool true) (zam rfl (S.at 0 rfl)) rfl rfl (by decide) (ls':=[(29,.bool true)]) rfl (fun a S=>?_)
 refine hK4 _ _ ?_
 refine wp_ret ?_
 exact za5 rfl S (S.at 0 rfl) ⟨_,rfl,rfl,S.below⟩
theorem zhG (b0_:Bool)(x0_ y0_:Num)(b1_:Bool)(x1_ y1_:Num)(A:Option Addr)(c:Nat)(l:List (Bool×Num×Num))(n:Int){V:World}(T:TT V)(ox0:x0_.ok V V.heap.size)(oy0:y0_.ok V V.heap.size)(ox1:x1_.ok V V.heap.size)(oy1:y1_.ok V V.heap.size)(hR:QRds V V.heap.size A l)(hll:l.length≤100000000000000)(hG2:zbR l=true)(hG:zbR [(b0_,x0_,y0_),(b1_,x1_,y1_)]=false):
  Calls Tryz.prog 3 #[(aG b0_ x0_ y0_),(aG b1_ x1_ y1_),.slice A l.length c,.int .i64 n] V (zao V (fun v _=>v= .bool true)):=by
 have hsz:=zf7 hG
 have hkx0:x0_.n≤40:=by omega
 have hky0:y0_.n≤40:=by omega
 have hkx1:x1_.n≤40:=by omega
 have hky1:y1_.n≤40:=by omega
 obtain⟨q0,hqa0⟩:∃q,qOf b0_ x0_.N y0_.N=q:=⟨_,rfl⟩
 obtain⟨q1,hqa1⟩:∃q,qOf b1_ x1_.N y1_.N=q:=⟨_,rfl⟩
 obtain⟨hn0,hd0⟩:=zcL hqa0 ox0 oy0
 obtain⟨hn1,hd1⟩:=zcL hqa1 ox1 oy1
 have hDL:=zhj hd0 hd1 (by omega)
 refine zaD (e:=[x1_,y1_,x0_,y0_]) Tryz.func3 rfl Tryz.ntmps3 (zuz rfl) [(0,(aG b0_ x0_ y0_)),(1,(aG b1_ x1_ y1_)),(2,.slice A l.length c),(3,.int .i64 n)] rfl (zak ox1 (zak oy1 (zak ox0 (zak oy0 zaW)))) (fun a S=>?_)
 refine wp_seq_k fun K1 hK1=>?_
 refine zaa ?_
 refine ti S (cs:=(aL b0_ x0_ y0_)) (zaH rfl (S.at 0 rfl) rfl) (fun g1=>[⟨g1,27,(aL b0_ x0_ y0_)⟩]) fun g1 a V1 hgg1 S=>?_
 refine ti S (cs:=(aL b1_ x1_ y1_)) (zaH rfl (S.at 2 rfl) rfl) (fun g2=>[⟨g1,27,(aL b0_ x0_ y0_)⟩,⟨g2,27,(aL b1_ x1_ y1_)⟩]) fun g2 a V2 hgg2 S=>?_
 refine tv S (zau rfl) fun a S=>?_
 refine hK1 _ _ ?_
 refine wp_seq_k fun K2 hK2=>?_
 refine wp_seq_k fun K3 hK3=>?_
 refine zaa ?_
 refine tv S (zab rfl (S.at 2 rfl) (S.bx 0 rfl) Tryz.underlying27 rfl (vs:=(aL b0_ x0_ y0_)) zae rfl) fun a S=>?_
 refine tv S (zab rfl (S.at 2 rfl) (S.bx 1 rfl) Tryz.underlying27 rfl (vs:=(aL b1_ x1_ y1_)) zae rfl) fun a S=>?_
 refine ty S (F:=GL ([(b0_,x0_,y0_),(b1_,x1_,y1_)])) (zel rfl (S.at 1 rfl) (S.at 0 rfl) (S.num 2 rfl) (S.num 3 rfl) (S.num 0 rfl) (S.num 1 rfl)) fun v a V3 hF hb S=>?_
 obtain⟨ov1,hov1⟩:∃z,z=v:=⟨_,rfl⟩
 rw[←hov1]at hF S
 have rov1:=hF
 refine tc S (F:=(fun v _=>v= .bool false)) (rc1 Tryz.func9 (S.at 0 rfl)) (zdU rov1 hG) fun v a V4 hF hb S=>?_
 replace rov1:=rov1.keep hb
 subst hF
 refine tv S (zad rfl (S.at 0 rfl)) fun a S=>?_
 refine tvg S (S.at 0 rfl) (zad rfl (S.at 10 rfl)) fun a S=>?_
 refine tcg S (S.at 1 rfl) (F:=(fun v _=>v= .bool true)) (rc1 Tryz.func9 (S.at 0 rfl)) (zdU (zoF hR hll S.below) hG2) fun v a V5 hF hb S=>?_
 replace rov1:=rov1.keep hb
 subst hF
 refine tv S (zaM false rfl (S.at 2 rfl) (S.at 0 rfl)) fun a S=>?_
 refine hK3 _ _ ?_
 refine wp_cond_true (S.at 0 rfl) ?_
 refine wp_seq_k fun K4 hK4=>?_
 have S:=S.keep [8] (ls':=[(8,.bool false)]) rfl
 refine zaa ?_
 refine tc S (F:=(fun v _=>v= .bool true)) (rc0 Tryz.func10) (zcl (T.keep S.below)) fun v a V6 hF hb S=>?_
 subst hF
 refine zbk S (v:= .bool true) (zam rfl (S.at 0 rfl)) rfl rfl (by decide) (ls':=[(29,.bool true)]) rfl (fun a S=>?_)
 refine hK4 _ _ ?_
 refine wp_ret ?_
 exact za5 rfl S (S.at 0 rfl) ⟨_,rfl,rfl,S.below⟩
end Go.Proofs.YtafokgknenienaaGreatDoor
