/- A part. -/
import Derived.Test.YtipckjmgdghkiaaGreatDoorGPNum
set_option maxHeartbeats 4000000
set_option maxRecDepth 100000
namespace Go.Proofs.YtipckjmgdghkiaaGreatDoor
open Go Go.RowKit
variable {v v' v1 v2:Value}{V V':World}{K K' N M:Nat}{q q' q1 q2:Rat}{Z Z':Int}
theorem zuX {n:Int}{b:Bool}{x y:Num}(h:b=decide (n<0)/\x.N=n.natAbs/\x.n=lenL n.natAbs)(h1:y.N=1)(h2:y.n=lenL 1):IsQ (n:Rat) b x y:=by
 refine⟨?_,?_,?_,?_,?_⟩
 ·rw[Rat.num_intCast];exact h.1
 ·rw[Rat.num_intCast];exact h.2.1
 ·rw[h.2.1];exact h.2.2
 ·rw[Rat.den_intCast];exact h1
 ·rw[h1];exact h2
theorem zkH {b:Bool}{x y:Num}(hc:decide (Int.sign (zOf b x.N)=0)=true)(h:qOf b x.N y.N=q/\y.N≠0):q=0:=by
 have h1:=zmk ⟨h.2,h.1⟩
 rw[of_decide_eq_true hc]at h1
 exact zd2.1 h1.symm
theorem zqe {b:Bool}{x y:Num}(hc:decide (Int.sign (zOf b x.N)=0)=false)(h:qOf b x.N y.N=q/\y.N≠0):q≠0:=fun h0=>by
 have h1:=zmk ⟨h.2,h.1⟩
 rw[h0,zel]at h1
 exact of_decide_eq_false hc h1
theorem zm1 (h:q=0):30=erq q:=by unfold erq;rw[if_pos h]
theorem zqf (h:q≠0):0=erq q:=by unfold erq;rw[if_neg h]
theorem zlX (h:q2=0):(0:Rat)=q1/q2:=by rw[h,Rat.div_def,Rat.inv_zero,Rat.mul_zero]
theorem zr5:q1*q2⁻¹ =q1/q2:=(Rat.div_def q1 q2).symm
theorem ztT {n:Int}{V:World}(hn: -9223372036854775808<=n/\n<=9223372036854775807):
  Calls Tryz.prog 38 #[.int .i64 n] V (zaf V (QT 2 (n:Rat))):=by
 refine fb Tryz.func38 Tryz.ntmps38 zau (fun a S=>?_)
 refine wsp fun K1 hK1=>?_
 refine ti S (cs:=lZ) (zam rfl (Tryz.zeroValue27 _) rfl) (fun g1=>[⟨g1,27,lZ⟩]) fun g1 a V1 hgg1 S=>?_
 refine hK1 _ _ ?_
 refine wsp fun K2 hK2=>?_
 refine mv S 1 fun a S=>?_
 refine tc S (F:=ZT 2 (n)) (rc1 Tryz.func84 (S.at 0 rfl)) (zvL (n:=n) hn) fun v a V2 hF hb S=>?_
 obtain⟨b1,x1,rfl,hz1,hk1,ok1⟩:=hF
 have S:=S.know ok1
 refine tc S (F:=NT 1 (1)) (rcc Tryz.func85) zvd fun v a V3 hF hb S=>?_
 obtain⟨x2,rfl,hN1,hn1,hk2,ok2⟩:=hF
 have S:=S.know ok2
 refine tv S (zaU rfl (S.at 1 rfl) (S.at 0 rfl) (zhM _ _ _ _ _ _ _)) fun a S=>?_
 refine sto S 0 (fun ht=>zaj rfl (S.at 4 rfl) (S.at 0 rfl) zah rfl (zvZ rfl) ht) fun V4 S=>?_
 refine hK2 _ _ ?_
 refine wp_ret ?_
 exact zar rfl S (S.at 4 rfl) (i:=0) rfl Tryz.underlying27 rfl zah ⟨_,rfl,⟨b1,x1,x2,rfl,zuX hz1 hN1 hn1,hk1,zv2 hk2 (by decide),(S.num 1 rfl),(S.num 0 rfl)⟩,S.below⟩
theorem zuY:Calls Tryz.prog 38 #[.int .i64 0] V (zaf V (QT 1 (0:Rat))):=zdd (ztT (n:=0) (by decide)) (fun _ _ h=>h.sml (K':=1) znc)
theorem ztU {K:Nat}{q:Rat}{v1:Value}{V:World}(T:TT V)(h1:Q1 K (q) v1 V)(hK0:K<=10000):
  Calls Tryz.prog 169 #[v1] V (zaf V (QT (max K 1) q)):=by
 obtain⟨b1,x1,y1,rfl,hq1,hk1,hk2,ok1,ok2⟩:=h1
 refine fb Tryz.func169 Tryz.ntmps169 (zaa ok1 (zaa ok2 zau)) (fun a S=>?_)
 refine wsp fun K1 hK1=>?_
 refine tb S 0 (aL b1 x1 y1) fun g1 a V1 hgg1 S=>?_
 refine ti S (cs:=lZ) (zam rfl (Tryz.zeroValue27 _) rfl) (fun g2=>[⟨g1,27,(aL b1 x1 y1)⟩,⟨g2,27,lZ⟩]) fun g2 a V2 hgg2 S=>?_
 refine hK1 _ _ ?_
 refine wsp fun K2 hK2=>?_
 refine tv S (zad rfl (S.at 1 rfl) (S.bx 0 rfl) Tryz.underlying27 rfl (vs:=(aL b1 x1 y1)) zah rfl) fun a S=>?_
 refine tc S (F:=QM (max K 1) (q)) (rc1 Tryz.func77 (S.at 0 rfl)) (zcN (q2m S 0 hq1 hk1 hk2)) fun v a V3 hF hb S=>?_
 obtain⟨b2,x2,y2,rfl,hq2,hk3,hk4,ok3,ok4⟩:=hF
 have S:=S.know ok3
 have S:=S.know ok4
 refine tc S (F:=QT (max K 1) (q)) (rc1 Tryz.func81 (S.at 0 rfl)) (zhE (T.keep S.below) (show QM (max K 1) (q) ((aG b2 x2 y2)) _ from⟨b2,x2,y2,rfl,hq2,hk3,hk4,(S.num 1 rfl),(S.num 0 rfl)⟩)) fun v a V4 hF hb S=>?_
 obtain⟨b3,x3,y3,rfl,hq3,hk5,hk6,ok5,ok6⟩:=hF
 have S:=S.know ok5
 have S:=S.know ok6
 refine sto S 1 (fun ht=>zaj rfl (S.at 3 rfl) (S.at 0 rfl) zah rfl (zvZ rfl) ht) fun V5 S=>?_
 refine hK2 _ _ ?_
 refine wp_ret ?_
 exact zar rfl S (S.at 3 rfl) (i:=1) rfl Tryz.underlying27 rfl zah ⟨_,rfl,((show QT (max K 1) (q) ((aG b3 x3 y3)) _ from⟨b3,x3,y3,rfl,hq3,hk5,hk6,(S.num 1 rfl),(S.num 0 rfl)⟩)).to rfl (by omega),S.below⟩
theorem ztV {K:Nat}{q:Rat}{v1:Value}{V:World}(T:TT V)(h1:Q1 K (q) v1 V)(hK0:K<=10000):
  Calls Tryz.prog 172 #[v1] V (zaf V (fun v _=>v= .int .i64 (zan q 0))):=by
 obtain⟨b1,x1,y1,rfl,hq1,hk1,hk2,ok1,ok2⟩:=h1
 refine fb Tryz.func172 Tryz.ntmps172 (zaa ok1 (zaa ok2 zau)) (fun a S=>?_)
 refine wsp fun K1 hK1=>?_
 refine tb S 0 (aL b1 x1 y1) fun g1 a V1 hgg1 S=>?_
 refine ac S fun a S=>?_
 refine hK1 _ _ ?_
 refine wsp fun K2 hK2=>?_
 refine tv S (zad rfl (S.at 1 rfl) (S.bx 0 rfl) Tryz.underlying27 rfl (vs:=(aL b1 x1 y1)) zah rfl) fun a S=>?_
 refine tc S (F:=QM (max K 1) (q)) (rc1 Tryz.func77 (S.at 0 rfl)) (zcN (q2m S 0 hq1 hk1 hk2)) fun v a V2 hF hb S=>?_
 obtain⟨b2,x2,y2,rfl,hq2,hk3,hk4,ok3,ok4⟩:=hF
 have S:=S.know ok3
 have S:=S.know ok4
 refine tv S (zoF rfl (S.at 0 rfl) (zoE _ _ _ _ _ _ _)) fun a S=>?_
 refine tc S (rc1 Tryz.func78 (S.at 0 rfl)) (zqc (T.keep S.below) (show Z1 (max K 1) (zOf b2 x2.N) ((aZ b2 x2)) _ from⟨b2,x2,rfl,rfl,hk3,(S.num 1 rfl)⟩)) fun v a V3 hF hb S=>?_
 subst hF
 refine av S (zak rfl (S.at 0 rfl)) fun a S=>?_
 refine hK2 _ _ ?_
 refine wp_ret ?_
 exact zay rfl S (S.at 0 rfl) ⟨_,rfl,congrArg (Value.int .i64) (zmk hq2),S.below⟩
theorem zkI {K K':Nat}{q1 q2:Rat}{v1 v2:Value}{V:World}(T:TT V)(h1:Q1 K (q1) v1 V)(h2:Q1 K' (q2) v2 V)(hK0:K<=1000:=by omega)(hK1:K'<=1000:=by omega):
  Calls Tryz.prog 105 #[v1,v2] V (zaf V (fun v _=>v= .int .i64 (zan q1 q2))):=by
 obtain⟨b1,x1,y1,rfl,hq1,hk1,hk2,ok1,ok2⟩:=h1
 obtain⟨b2,x2,y2,rfl,hq2,hk3,hk4,ok3,ok4⟩:=h2
 refine fb Tryz.func105 Tryz.ntmps105 (zaa ok3 (zaa ok4 (zaa ok1 (zaa ok2 zau)))) (fun a S=>?_)
 refine wsp fun K1 hK1=>?_
 refine tb S 0 (aL b1 x1 y1) fun g1 a V1 hgg1 S=>?_
 refine tb S 2 (aL b2 x2 y2) fun g2 a V2 hgg2 S=>?_
 refine ac S fun a S=>?_
 refine hK1 _ _ ?_
 refine wp_seq_k fun K2 hK2=>?_
 have S:=S.keep [4,3,2] (ls':=[(4,.int .i64 0),(3,pT g2 0),(2,pT g1 0)]) rfl
 obtain⟨W1,hW1⟩:∃W,W=V2:=⟨_,rfl⟩
 rw[<-hW1]at S ⊢
 have S0:=S
 refine fr 5 [5,6,7,8,9] [IsV ((aG b1 x1 y1)),QM (max K 1) (q1),IsV ((aG b2 x2 y2)),QM (max K' 1) (q2),iI ((zan q1 q2))] S ?_ ?_
 ·refine sc (fun _ _ S _ _=>sv rfl (zad rfl (S.at 2 rfl) (S.bx 0 rfl) Tryz.underlying27 rfl (vs:=(aL b1 x1 y1)) zah rfl)) ?_
  refine sc (fun _ _ S _ hd=>sl rfl (rc1 Tryz.func77 (hd.v 0 rfl rfl)) (zcN (q2m S 2 hq1 hk1 hk2))) ?_
  refine sc (fun _ _ S _ _=>sv rfl (zad rfl (S.at 1 rfl) (S.bx 1 rfl) Tryz.underlying27 rfl (vs:=(aL b2 x2 y2)) zah rfl)) ?_
  refine sc (fun _ _ S _ hd=>sl rfl (rc1 Tryz.func77 (hd.v 2 rfl rfl)) (zcN (q2m S 0 hq2 hk3 hk4))) ?_
  refine sc (fun _ _ S _ hd=>sl rfl (rc2 Tryz.func144 rfl rfl) (zoc (T.keep S.below) (hd.r 1 rfl rfl) (hd.r 3 rfl rfl) (by omega) (by omega))) ?_
  exact sn
 ·intro a1 V3 S hB hf
  have S:=S.add (hf.v 4 rfl rfl)
  clear hf S0
  show wpList _ _ _ [_] _ _
  refine av S (zak rfl (S.at 0 rfl)) fun a S=>?_
  refine hK2 _ _ ?_
  refine wp_ret ?_
  exact zay rfl S (S.at 0 rfl) ⟨_,rfl,rfl,S.below⟩
theorem zlY {K K':Nat}{q1 q2:Rat}{v1 v2:Value}{V:World}(T:TT V)(h1:Q1 K (q1) v1 V)(h2:Q1 K' (q2) v2 V)(hK0:K<=1000:=by omega)(hK1:K'<=1000:=by omega):
  Calls Tryz.prog 106 #[v1,v2] V (zaf V (fun v _=>v= .bool (decide (zan q1 q2=0)))):=by
 obtain⟨b1,x1,y1,rfl,hq1,hk1,hk2,ok1,ok2⟩:=h1
 obtain⟨b2,x2,y2,rfl,hq2,hk3,hk4,ok3,ok4⟩:=h2
 refine fb Tryz.func106 Tryz.ntmps106 (zaa ok3 (zaa ok4 (zaa ok1 (zaa ok2 zau)))) (fun a S=>?_)
 refine wsp fun K1 hK1=>?_
 refine tb S 0 (aL b1 x1 y1) fun g1 a V1 hgg1 S=>?_
 refine tb S 2 (aL b2 x2 y2) fun g2 a V2 hgg2 S=>?_
 refine ac S fun a S=>?_
 refine hK1 _ _ ?_
 refine wsp fun K2 hK2=>?_
 refine tv S (zad rfl (S.at 2 rfl) (S.bx 0 rfl) Tryz.underlying27 rfl (vs:=(aL b1 x1 y1)) zah rfl) fun a S=>?_
 refine tv S (zad rfl (S.at 2 rfl) (S.bx 1 rfl) Tryz.underlying27 rfl (vs:=(aL b2 x2 y2)) zah rfl) fun a S=>?_
 refine tc S (rc2 Tryz.func105 (S.at 1 rfl) (S.at 0 rfl)) (zkI (T.keep S.below) (q2m S 2 hq1 hk1 hk2) (q2m S 0 hq2 hk3 hk4)) fun v a V3 hF hb S=>?_
 subst hF
 refine tv S (zdx _ (by decide) rfl (S.at 0 rfl) rfl) fun a S=>?_
 refine av S (zak rfl (S.at 0 rfl)) fun a S=>?_
 refine hK2 _ _ ?_
 refine wp_ret ?_
 exact zay rfl S (S.at 0 rfl) ⟨_,rfl,rfl,S.below⟩
theorem zte {K K':Nat}{q1 q2:Rat}{v1 v2:Value}{V:World}(T:TT V)(h1:Q1 K (q1) v1 V)(h2:Q1 K' (q2) v2 V)(hK0:K<=1000:=by omega)(hK1:K'<=1000:=by omega):
  Calls Tryz.prog 37 #[v1,v2] V (zaf V (QT (max K 1+max K' 1+1) (q1 - q2))):=by
 obtain⟨b1,x1,y1,rfl,hq1,hk1,hk2,ok1,ok2⟩:=h1
 obtain⟨b2,x2,y2,rfl,hq2,hk3,hk4,ok3,ok4⟩:=h2
 refine fb Tryz.func37 Tryz.ntmps37 (zaa ok3 (zaa ok4 (zaa ok1 (zaa ok2 zau)))) (fun a S=>?_)
 refine wsp fun K1 hK1=>?_
 refine tb S 0 (aL b1 x1 y1) fun g1 a V1 hgg1 S=>?_
 refine tb S 2 (aL b2 x2 y2) fun g2 a V2 hgg2 S=>?_
 refine ti S (cs:=lZ) (zam rfl (Tryz.zeroValue27 _) rfl) (fun g3=>[⟨g1,27,(aL b1 x1 y1)⟩,⟨g2,27,(aL b2 x2 y2)⟩,⟨g3,27,lZ⟩]) fun g3 a V3 hgg3 S=>?_
 refine hK1 _ _ ?_
 refine wp_seq_k fun K2 hK2=>?_
 obtain⟨W1,hW1⟩:∃W,W=V3:=⟨_,rfl⟩
 rw[<-hW1]at S ⊢
 have S0:=S
 refine fr 7 [5,6,7,8,9,10,11] [IsV ((aG b1 x1 y1)),QM (max K 1) (q1),IsV ((aG b2 x2 y2)),QM (max K' 1) (q2),QM (max K' 1) (-q2),QM ((max K 1)+(max K' 1)+1) (q1+(-q2)),QT ((max K 1)+(max K' 1)+1) (q1+(-q2))] S ?_ ?_
 ·refine sc (fun _ _ S _ _=>sv rfl (zad rfl (S.at 2 rfl) (S.bx 0 rfl) Tryz.underlying27 rfl (vs:=(aL b1 x1 y1)) zah rfl)) ?_
  refine sc (fun _ _ S _ hd=>sl rfl (rc1 Tryz.func77 (hd.v 0 rfl rfl)) (zcN (q2m S 2 hq1 hk1 hk2))) ?_
  refine sc (fun _ _ S _ _=>sv rfl (zad rfl (S.at 1 rfl) (S.bx 1 rfl) Tryz.underlying27 rfl (vs:=(aL b2 x2 y2)) zah rfl)) ?_
  refine sc (fun _ _ S _ hd=>sl rfl (rc1 Tryz.func77 (hd.v 2 rfl rfl)) (zcN (q2m S 0 hq2 hk3 hk4))) ?_
  refine sc (fun _ _ _ _ hd=>sl rfl (rc1 Tryz.func83 rfl) (zod (hd.r 3 rfl rfl))) ?_
  refine sc (fun _ _ S _ hd=>sl rfl (rc2 Tryz.func82 rfl rfl) (zqd (T.keep S.below) (hd.r 1 rfl rfl) (hd.r 4 rfl rfl) (by omega) (by omega))) ?_
  refine sc (fun _ _ S _ hd=>sl rfl (rc1 Tryz.func81 rfl) (zhE (T.keep S.below) (hd.r 5 rfl rfl))) ?_
  exact sn
 ·intro a1 V4 S hB hf
  obtain⟨b3,x3,y3,hv1,hq3,hk5,hk6,ok5,ok6⟩:=hf.r 6 rfl rfl
  have S:=S.add hv1
  have S:=S.know ok5
  have S:=S.know ok6
  clear hf S0
  show wpList _ _ _ [_] _ _
  refine sto S 2 (fun ht=>zaj rfl (S.at 1 rfl) (S.at 0 rfl) zah rfl (zvZ rfl) ht) fun V5 S=>?_
  refine hK2 _ _ ?_
  refine wp_ret ?_
  exact zar rfl S (S.at 1 rfl) (i:=2) rfl Tryz.underlying27 rfl zah ⟨_,rfl,((show QT ((max K 1)+(max K' 1)+1) (q1+(-q2)) ((aG b3 x3 y3)) _ from⟨b3,x3,y3,rfl,hq3,hk5,hk6,(S.num 1 rfl),(S.num 0 rfl)⟩)).to (zjA q1 q2) (by omega),S.below⟩
theorem zuZ {K K':Nat}{q1 q2:Rat}{v1 v2:Value}{V:World}(T:TT V)(h1:Q1 K (q1) v1 V)(h2:Q1 K' (q2) v2 V)(hK0:K<=1000)(hK1:K'<=1000):
  Calls Tryz.prog 36 #[v1,v2] V (zaf V (QE (max K 1+max K' 1) (q1/q2) (erq q2))):=by
 obtain⟨b1,x1,y1,rfl,hq1,hk1,hk2,ok1,ok2⟩:=h1
 obtain⟨b2,x2,y2,rfl,hq2,hk3,hk4,ok3,ok4⟩:=h2
 refine fb Tryz.func36 Tryz.ntmps36 (zaa ok3 (zaa ok4 (zaa ok1 (zaa ok2 zau)))) (fun a S=>?_)
 refine wsp fun K1 hK1=>?_
 refine tb S 0 (aL b1 x1 y1) fun g1 a V1 hgg1 S=>?_
 refine tb S 2 (aL b2 x2 y2) fun g2 a V2 hgg2 S=>?_
 refine ti S (cs:=lZ) (zam rfl (Tryz.zeroValue27 _) rfl) (fun g3=>[⟨g1,27,(aL b1 x1 y1)⟩,⟨g2,27,(aL b2 x2 y2)⟩,⟨g3,27,lZ⟩]) fun g3 a V3 hgg3 S=>?_
 refine ac S fun a S=>?_
 refine hK1 _ _ ?_
 refine wp_seq_k fun K2 hK2=>?_
 obtain⟨W1,hW1⟩:∃W,W=V3:=⟨_,rfl⟩
 rw[<-hW1]at S ⊢
 have S0:=S
 refine frs [(96,3)] [some 8,some 9,some 10,some 11,some 6,some 7,none,none] [IsV ((aG b1 x1 y1)),QM (max K 1) (q1),IsV ((aG b2 x2 y2)),QM (max K' 1) (q2),zfx,zfx,zfx,zfx] [⟨4,6,96,lZ⟩,⟨5,7,96,lZ⟩] [⟨6,6,96,QM (max K 1) (q1)⟩,⟨7,7,96,QM (max K' 1) (q2)⟩] [] (lb:=[⟨g1,27,(aL b1 x1 y1)⟩,⟨g2,27,(aL b2 x2 y2)⟩,⟨g3,27,lZ⟩]) S (all_cons (zgt 0 rfl rfl) (all_cons (zgt 1 rfl rfl) zaO)) ?_ (all_cons ⟨rfl,_,rfl,rfl,rfl,fun _ _ _=>(zam rfl (Tryz.zeroValue96 _) rfl)⟩ (all_cons ⟨rfl,_,rfl,rfl,rfl,fun _ _ _=>(zam rfl (Tryz.zeroValue96 _) rfl)⟩ zaO)) (all_cons ⟨_,3,rfl,rfl,rfl,List.mem_of_getElem? (i:=0) rfl,(all_cons (fun h=>⟨rfl,rfl⟩) (all_cons (fun h=>by cases h) zaO)),zaO,fun _ _ _ _ hg hd=>zfw (hd.r 1 rfl rfl) (hd.r 1 rfl rfl).parts rfl hg rfl zaN⟩ (all_cons ⟨_,3,rfl,rfl,rfl,List.mem_of_getElem? (i:=0) rfl,(all_cons (fun h=>by cases h) (all_cons (fun h=>⟨rfl,rfl⟩) zaO)),zaO,fun _ _ _ _ hg hd=>zfw (hd.r 3 rfl rfl) (hd.r 3 rfl rfl).parts rfl hg rfl zaN⟩ zaO)) zaO ?_
 ·refine va (fun _ _ S _ _ _=>sv rfl (zad rfl (S.at 3 rfl) (S.bx 0 rfl) Tryz.underlying27 rfl (vs:=(aL b1 x1 y1)) zah rfl)) ?_
  refine va (fun _ _ S _ hd _=>sl rfl (rc1 Tryz.func77 (hd.v 0 rfl rfl)) (zcN (q2m S 2 hq1 hk1 hk2))) ?_
  refine va (fun _ _ S _ _ _=>sv rfl (zad rfl (S.at 2 rfl) (S.bx 1 rfl) Tryz.underlying27 rfl (vs:=(aL b2 x2 y2)) zah rfl)) ?_
  refine va (fun _ _ S _ hd _=>sl rfl (rc1 Tryz.func77 (hd.v 2 rfl rfl)) (zcN (q2m S 0 hq2 hk3 hk4))) ?_
  refine vb ?_
  refine vb ?_
  refine vs ?_
  refine vs ?_
  exact vn
 ·intro a1 V4 S hB hf hl hdis hs hp
  obtain⟨g4,csg4,hvg4,hgg4,hbg4,hlg4,hng4,hkg4⟩:=hl _ (List.mem_of_getElem? (i:=0) rfl)
  obtain⟨g5,csg5,hvg5,hgg5,hbg5,hlg5,hng5,hkg5⟩:=hl _ (List.mem_of_getElem? (i:=1) rfl)
  have hne_g4_g5:g4≠g5:=fun h=>hdis _ (List.mem_of_getElem? (i:=0) rfl) _ (List.mem_of_getElem? (i:=1) rfl) (by decide) (hvg4.trans (h▸hvg5.symm))
  obtain⟨gs1,vsgs1,hvgs1,-,hbgs1,hngs1,hPgs1⟩:=hs _ (List.mem_of_getElem? (i:=0) rfl)
  have hegs1:=zei ((hvg4).symm.trans hvgs1)
  subst hegs1
  obtain⟨b3,x3,y3,hv1,hq3,hk5,hk6,ok5,ok6⟩:=(show QM (max K 1) (q1) (.agg vsgs1.toArray) V4 from hPgs1)
  have hvsgs1:=zej (ws:=(aL b3 x3 y3)) hv1
  subst hvsgs1
  have S:=S.know ok5
  have S:=S.know ok6
  obtain⟨gs2,vsgs2,hvgs2,-,hbgs2,hngs2,hPgs2⟩:=hs _ (List.mem_of_getElem? (i:=1) rfl)
  have hegs2:=zei ((hvg5).symm.trans hvgs2)
  subst hegs2
  obtain⟨b4,x4,y4,hv2,hq4,hk7,hk8,ok7,ok8⟩:=(show QM (max K' 1) (q2) (.agg vsgs2.toArray) V4 from hPgs2)
  have hvsgs2:=zej (ws:=(aL b4 x4 y4)) hv2
  subst hvsgs2
  have S:=S.know ok7
  have S:=S.know ok8
  have S:=Frm.readd (S.add hvg4) (zv2 S0.below.size hgg4) hbgs1 rfl (za1 (zaB (S0.lt 0 rfl) hgg4) (za1 (zaB (S0.lt 1 rfl) hgg4) (za1 (zaB (S0.lt 2 rfl) hgg4) zfv)))
  have S:=Frm.readd (S.add hvg5) (zv2 S0.below.size hgg5) hbgs2 rfl (za1 (zaB (S0.lt 0 rfl) hgg5) (za1 (zaB (S0.lt 1 rfl) hgg5) (za1 (zaB (S0.lt 2 rfl) hgg5) (za1 hne_g4_g5 zfv))))
  have S:Frm 22 [(7,pT g5 0),(6,pT g4 0),(5,.int .i64 0),(4,pT g3 0),(3,pT g2 0),(2,pT g1 0),(0,(aG b1 x1 y1)),(1,(aG b2 x2 y2))] [⟨g1,27,(aL b1 x1 y1)⟩,⟨g2,27,(aL b2 x2 y2)⟩,⟨g3,27,lZ⟩,⟨g4,96,(aL b3 x3 y3)⟩,⟨g5,96,(aL b4 x4 y4)⟩] V _ _ _:=S
  clear hf hl hdis hs hp S0
  refine hK2 _ _ ?_
  refine wp_seq_k fun K3 hK3=>?_
  refine wp_seq_k fun K4 hK4=>?_
  have hq2z:qOf b4 x4.N y4.N=q2/\y4.N≠0:=⟨hq4.2,hq4.1⟩
  refine zaD ?_
  refine tv S (zab rfl (S.at 0 rfl) (zaA _)) fun a S=>?_
  refine tv S (zad rfl (S.at 0 rfl) (S.bx 4 rfl) Tryz.underlying94 rfl (vs:=[.bool b4,aS x4]) zcb rfl) fun a S=>?_
  refine tc S (rc1 Tryz.func78 (S.at 0 rfl)) (zqc (T.keep S.below) (show Z1 (max K' 1) (zOf b4 x4.N) ((aZ b4 x4)) _ from⟨b4,x4,rfl,rfl,hk7,(S.num 1 rfl)⟩)) fun v a V5 hF hb S=>?_
  subst hF
  refine tv S (zdx _ (by decide) rfl (S.at 0 rfl) rfl) fun a S=>?_
  refine hK4 _ _ ?_
  rcases zv9 (decide (Int.sign (zOf b4 x4.N)=0))with hc15|hc15
  ·refine wp_cond_true ((S.at 0 rfl).trans (congrArg Value.bool hc15)) ?_
   refine wsp fun K5 hK5=>?_
   refine tc S (F:=QT 1 ((0:Rat))) (rcc Tryz.func38) zuY fun v a V6 hF hb S=>?_
   obtain⟨b5,x5,y5,rfl,hq5,hk9,hk10,ok9,ok10⟩:=hF
   have S:=S.know ok9
   have S:=S.know ok10
   refine sto S 2 (fun ht=>zaj rfl (S.at 8 rfl) (S.at 0 rfl) zah rfl (zvZ rfl) ht) fun V7 S=>?_
   refine av S (zcB rfl) fun a S=>?_
   refine hK5 _ _ ?_
   refine wp_ret ?_
   exact ze4 rfl S (S.at 8 rfl) (i:=2) rfl Tryz.underlying27 rfl zah (S.at 0 rfl) ⟨_,rfl,⟨b5,x5,y5,congrArg (fun z=>Value.tuple #[(aG b5 x5 y5),.int .i64 z]) (show 30=erq q2 from zm1 (zkH hc15 hq2z)),(show _=q1/q2 from zlX (zkH hc15 hq2z))▸hq5,zv2 hk9 (by omega),zv2 hk10 (by omega),(S.num 1 rfl),(S.num 0 rfl)⟩,S.below⟩
  ·refine wp_cond_false ((S.at 0 rfl).trans (congrArg Value.bool hc15)) ?_
   refine wp_skip ?_
   refine hK3 _ _ ?_
   refine wp_seq_k fun K6 hK6=>?_
   have S:=S.keep [7,6,5,4] (ls':=[(7,pT g5 0),(6,pT g4 0),(5,.int .i64 0),(4,pT g3 0)]) rfl
   obtain⟨W2,hW2⟩:∃W,W=V5:=⟨_,rfl⟩
   rw[<-hW2]at S ⊢
   have S0:=S
   refine fr 5 [17,18,19,20,21] [IsV ((aG b3 x3 y3)),IsV ((aG b4 x4 y4)),QM (max K' 1) ((q2)⁻¹),QM ((max K 1)+(max K' 1)) (q1*((q2)⁻¹)),QT ((max K 1)+(max K' 1)) (q1*((q2)⁻¹))] S ?_ ?_
   ·refine sc (fun _ _ S _ _=>sv rfl (zad rfl (S.at 1 rfl) (S.bx 3 rfl) Tryz.underlying96 rfl (vs:=(aL b3 x3 y3)) zaN rfl)) ?_
    refine sc (fun _ _ S _ _=>sv rfl (zad rfl (S.at 0 rfl) (S.bx 4 rfl) Tryz.underlying96 rfl (vs:=(aL b4 x4 y4)) zaN rfl)) ?_
    refine sc (fun _ _ S _ hd=>sl rfl (rc1 Tryz.func80 (hd.v 1 rfl rfl)) (zjt (show QM (max K' 1) (q2) ((aG b4 x4 y4)) _ from⟨b4,x4,y4,rfl,hq4,hk7,hk8,(S.num 1 rfl),(S.num 0 rfl)⟩) (zqe hc15 hq2z))) ?_
    refine sc (fun _ _ S _ hd=>sl rfl (rc2 Tryz.func79 (hd.v 0 rfl rfl) rfl) (zuW (show QM (max K 1) (q1) ((aG b3 x3 y3)) _ from⟨b3,x3,y3,rfl,hq3,hk5,hk6,(S.num 3 rfl),(S.num 2 rfl)⟩) (hd.r 2 rfl rfl) (by omega) (by omega))) ?_
    refine sc (fun _ _ S _ hd=>sl rfl (rc1 Tryz.func81 rfl) (zhE (T.keep S.below) (hd.r 3 rfl rfl))) ?_
    exact sn
   ·intro a2 V8 S hB hf
    obtain⟨b6,x6,y6,hv3,hq6,hk11,hk12,ok11,ok12⟩:=hf.r 4 rfl rfl
    have S:=S.add hv3
    have S:=S.know ok11
    have S:=S.know ok12
    clear hf S0
    show wpList _ _ _ [_,_] _ _
    refine sto S 2 (fun ht=>zaj rfl (S.at 4 rfl) (S.at 0 rfl) zah rfl (zvZ rfl) ht) fun V9 S=>?_
    refine av S (zcB rfl) fun a S=>?_
    refine hK6 _ _ ?_
    refine wp_ret ?_
    exact ze4 rfl S (S.at 4 rfl) (i:=2) rfl Tryz.underlying27 rfl zah (S.at 0 rfl) ⟨_,rfl,⟨b6,x6,y6,congrArg (fun z=>Value.tuple #[(aG b6 x6 y6),.int .i64 z]) (show 0=erq q2 from zqf (zqe hc15 hq2z)),(show _=q1/q2 from zr5)▸hq6,zv2 hk11 (by omega),zv2 hk12 (by omega),(S.num 1 rfl),(S.num 0 rfl)⟩,S.below⟩
end Go.Proofs.YtipckjmgdghkiaaGreatDoor
