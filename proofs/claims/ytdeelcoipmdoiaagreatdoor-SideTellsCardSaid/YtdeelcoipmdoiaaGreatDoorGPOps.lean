/- A part. -/
import Derived.Test.YtdeelcoipmdoiaaGreatDoorGPNum
set_option maxHeartbeats 4000000
set_option maxRecDepth 100000
namespace Go.Proofs.YtdeelcoipmdoiaaGreatDoor
open Go Go.RowKit
variable {v v' v1 v2:Value}{V V':World}{K K' N M:Nat}{q q' q1 q2:Rat}{Z Z':Int}
theorem zs3 {K:Nat}{q:Rat}{v1:Value}{V:World}(T:TT V)(h1:Q1 K (q) v1 V)(hK0:K≤10000):
  Calls Tryz.prog 37 #[v1] V (zaj V (fun v _=>v= .int .i64 (zag q 0))):=by
 obtain⟨b1,x1,y1,rfl,hq1,hk1,hk2,ok1,ok2⟩:=h1
 refine fb Tryz.func37 Tryz.ntmps37 (zaa ok1 (zaa ok2 zaC)) (fun a S=>?_)
 refine wsp fun K1 hK1=>?_
 refine tb S 0 (aL b1 x1 y1) fun g1 a V1 hgg1 S=>?_
 refine ac S fun a S=>?_
 refine hK1 _ _ ?_
 refine wsp fun K2 hK2=>?_
 refine tv S (zak rfl (S.at 1 rfl) (S.bx 0 rfl) Tryz.underlying27 rfl (vs:=(aL b1 x1 y1)) zas rfl) fun a S=>?_
 refine tc S (F:=QM (max K 1) (q)) (rc1 Tryz.func62 (S.at 0 rfl)) (zdQ (q2m S 0 hq1 hk1 hk2) (by omega)) fun v a V2 hF hb S=>?_
 obtain⟨b2,x2,y2,rfl,hq2,hk3,hk4,ok3,ok4⟩:=hF
 have S:=S.know ok3
 have S:=S.know ok4
 refine tv S (zn6 rfl (S.at 0 rfl) (zn5 _ _ _ _ _ _ _)) fun a S=>?_
 refine tc S (rc1 Tryz.func63 (S.at 0 rfl)) (zs1 (T.keep S.below) (show Z1 (max K 1) (zOf b2 x2.N) ((aZ b2 x2)) _ from⟨b2,x2,rfl,rfl,hk3,(S.num 1 rfl)⟩) (by omega)) fun v a V3 hF hb S=>?_
 subst hF
 refine zav S (v:= .int .i64 (Int.sign (zOf b2 x2.N))) (zac rfl (S.at 0 rfl)) rfl rfl (by decide) (ls':=[(6,.int .i64 (Int.sign (zOf b2 x2.N))),(5,(aZ b2 x2)),(4,(aG b2 x2 y2)),(3,(aG b1 x1 y1)),(1,pT g1 0),(0,(aG b1 x1 y1))]) rfl (fun a S=>?_)
 refine hK2 _ _ ?_
 refine wp_ret ?_
 exact zao rfl S (S.at 0 rfl) ⟨_,rfl,congrArg (Value.int .i64) (zth hq2),S.below⟩
theorem zgn {K K':Nat}{q1 q2:Rat}{v1 v2:Value}{V:World}(T:TT V)(h1:Q1 K (q1) v1 V)(h2:Q1 K' (q2) v2 V)(hK0:K≤1000)(hK1:K'≤1000):
  Calls Tryz.prog 49 #[v1,v2] V (zaj V (fun v _=>v= .int .i64 (zag q1 q2))):=by
 obtain⟨b1,x1,y1,rfl,hq1,hk1,hk2,ok1,ok2⟩:=h1
 obtain⟨b2,x2,y2,rfl,hq2,hk3,hk4,ok3,ok4⟩:=h2
 refine fb Tryz.func49 Tryz.ntmps49 (zaa ok3 (zaa ok4 (zaa ok1 (zaa ok2 zaC)))) (fun a S=>?_)
 refine wsp fun K1 hK1=>?_
 refine tb S 0 (aL b1 x1 y1) fun g1 a V1 hgg1 S=>?_
 refine tb S 2 (aL b2 x2 y2) fun g2 a V2 hgg2 S=>?_
 refine ac S fun a S=>?_
 refine hK1 _ _ ?_
 refine wp_seq_k fun K2 hK2=>?_
 have S:=S.keep [4,3,2] (ls':=[(4,.int .i64 0),(3,pT g2 0),(2,pT g1 0)]) rfl
 obtain⟨W1,hW1⟩:∃W,W=V2:=⟨_,rfl⟩
 rw[←hW1]at S ⊢
 have S0:=S
 refine fr 5 [5,6,7,8,9] [IsV ((aG b1 x1 y1)),QM (max K 1) (q1),IsV ((aG b2 x2 y2)),QM (max K' 1) (q2),IsV (.int .i64 (zag q1 q2))] S ?_ ?_
 ·refine sc (fun _ _ S _ _=>sv rfl (zak rfl (S.at 2 rfl) (S.bx 0 rfl) Tryz.underlying27 rfl (vs:=(aL b1 x1 y1)) zas rfl)) ?_
  refine sc (fun _ _ S _ hd=>sl rfl (rc1 Tryz.func62 (hd.v 0 rfl rfl)) (zdQ (q2m S 2 hq1 hk1 hk2) (by omega))) ?_
  refine sc (fun _ _ S _ _=>sv rfl (zak rfl (S.at 1 rfl) (S.bx 1 rfl) Tryz.underlying27 rfl (vs:=(aL b2 x2 y2)) zas rfl)) ?_
  refine sc (fun _ _ S _ hd=>sl rfl (rc1 Tryz.func62 (hd.v 2 rfl rfl)) (zdQ (q2m S 0 hq2 hk3 hk4) (by omega))) ?_
  refine sc (fun _ _ S _ hd=>sl rfl (rc2 Tryz.func73 rfl rfl) (znE (T.keep S.below) (hd.r 1 rfl rfl) (hd.r 3 rfl rfl) (by omega) (by omega))) ?_
  exact sn
 ·intro a1 V3 S hB hf
  have S:=S.add (hf.v 4 rfl rfl)
  clear hf S0
  show wpList _ _ _ [_] _ _
  refine zav S (v:= .int .i64 (zag q1 q2)) (zac rfl (S.at 0 rfl)) rfl rfl (by decide) (ls':=[(9,.int .i64 (zag q1 q2)),(3,pT g2 0),(2,pT g1 0)]) rfl (fun a S=>?_)
  refine hK2 _ _ ?_
  refine wp_ret ?_
  exact zao rfl S (S.at 0 rfl) ⟨_,rfl,rfl,S.below⟩
theorem zlB {K K':Nat}{q1 q2:Rat}{v1 v2:Value}{V:World}(T:TT V)(h1:Q1 K (q1) v1 V)(h2:Q1 K' (q2) v2 V)(hK0:K≤1000)(hK1:K'≤1000):
  Calls Tryz.prog 72 #[v1,v2] V (zaj V (fun v _=>v= .bool (decide (zag q1 q2=0)))):=by
 obtain⟨b1,x1,y1,rfl,hq1,hk1,hk2,ok1,ok2⟩:=h1
 obtain⟨b2,x2,y2,rfl,hq2,hk3,hk4,ok3,ok4⟩:=h2
 refine fb Tryz.func72 Tryz.ntmps72 (zaa ok3 (zaa ok4 (zaa ok1 (zaa ok2 zaC)))) (fun a S=>?_)
 refine wsp fun K1 hK1=>?_
 refine tb S 0 (aL b1 x1 y1) fun g1 a V1 hgg1 S=>?_
 refine tb S 2 (aL b2 x2 y2) fun g2 a V2 hgg2 S=>?_
 refine ac S fun a S=>?_
 refine hK1 _ _ ?_
 refine wsp fun K2 hK2=>?_
 refine tv S (zak rfl (S.at 2 rfl) (S.bx 0 rfl) Tryz.underlying27 rfl (vs:=(aL b1 x1 y1)) zas rfl) fun a S=>?_
 refine tv S (zak rfl (S.at 2 rfl) (S.bx 1 rfl) Tryz.underlying27 rfl (vs:=(aL b2 x2 y2)) zas rfl) fun a S=>?_
 refine tc S (rc2 Tryz.func49 (S.at 1 rfl) (S.at 0 rfl)) (zgn (T.keep S.below) (q2m S 2 hq1 hk1 hk2) (q2m S 0 hq2 hk3 hk4) (by omega) (by omega)) fun v a V3 hF hb S=>?_
 subst hF
 refine tv S (zbG _ (by decide) rfl (S.at 0 rfl) rfl) fun a S=>?_
 refine zav S (v:= .bool (decide (zag q1 q2=0))) (zac rfl (S.at 0 rfl)) rfl rfl (by decide) (ls':=[(8,.bool (decide (zag q1 q2=0))),(7,.int .i64 (zag q1 q2)),(6,(aG b2 x2 y2)),(5,(aG b1 x1 y1)),(3,pT g2 0),(2,pT g1 0),(0,(aG b1 x1 y1)),(1,(aG b2 x2 y2))]) rfl (fun a S=>?_)
 refine hK2 _ _ ?_
 refine wp_ret ?_
 exact zao rfl S (S.at 0 rfl) ⟨_,rfl,rfl,S.below⟩
theorem zss {K K':Nat}{q1 q2:Rat}{v1 v2:Value}{V:World}(T:TT V)(h1:Q1 K (q1) v1 V)(h2:Q1 K' (q2) v2 V)(hK0:K≤1000)(hK1:K'≤1000):
  Calls Tryz.prog 64 #[v1,v2] V (zaj V (QT (max K 1+max K' 1+1) (q1 - q2))):=by
 obtain⟨b1,x1,y1,rfl,hq1,hk1,hk2,ok1,ok2⟩:=h1
 obtain⟨b2,x2,y2,rfl,hq2,hk3,hk4,ok3,ok4⟩:=h2
 refine fb Tryz.func64 Tryz.ntmps64 (zaa ok3 (zaa ok4 (zaa ok1 (zaa ok2 zaC)))) (fun a S=>?_)
 refine wsp fun K1 hK1=>?_
 refine tb S 0 (aL b1 x1 y1) fun g1 a V1 hgg1 S=>?_
 refine tb S 2 (aL b2 x2 y2) fun g2 a V2 hgg2 S=>?_
 refine ti S (cs:=lZ) (zay rfl (Tryz.zeroValue27 _) rfl) (fun g3=>[⟨g1,27,(aL b1 x1 y1)⟩,⟨g2,27,(aL b2 x2 y2)⟩,⟨g3,27,lZ⟩]) fun g3 a V3 hgg3 S=>?_
 refine hK1 _ _ ?_
 refine wp_seq_k fun K2 hK2=>?_
 obtain⟨W1,hW1⟩:∃W,W=V3:=⟨_,rfl⟩
 rw[←hW1]at S ⊢
 have S0:=S
 refine fr 7 [5,6,7,8,9,10,11] [IsV ((aG b1 x1 y1)),QM (max K 1) (q1),IsV ((aG b2 x2 y2)),QM (max K' 1) (q2),QM (max K' 1) (-q2),QM ((max K 1)+(max K' 1)+1) (q1+(-q2)),QT ((max K 1)+(max K' 1)+1) (q1+(-q2))] S ?_ ?_
 ·refine sc (fun _ _ S _ _=>sv rfl (zak rfl (S.at 2 rfl) (S.bx 0 rfl) Tryz.underlying27 rfl (vs:=(aL b1 x1 y1)) zas rfl)) ?_
  refine sc (fun _ _ S _ hd=>sl rfl (rc1 Tryz.func62 (hd.v 0 rfl rfl)) (zdQ (q2m S 2 hq1 hk1 hk2) (by omega))) ?_
  refine sc (fun _ _ S _ _=>sv rfl (zak rfl (S.at 1 rfl) (S.bx 1 rfl) Tryz.underlying27 rfl (vs:=(aL b2 x2 y2)) zas rfl)) ?_
  refine sc (fun _ _ S _ hd=>sl rfl (rc1 Tryz.func62 (hd.v 2 rfl rfl)) (zdQ (q2m S 0 hq2 hk3 hk4) (by omega))) ?_
  refine sc (fun _ _ _ _ hd=>sl rfl (rc1 Tryz.func84 rfl) (znF (hd.r 3 rfl rfl))) ?_
  refine sc (fun _ _ S _ hd=>sl rfl (rc2 Tryz.func83 rfl rfl) (zs2 (T.keep S.below) (hd.r 1 rfl rfl) (hd.r 4 rfl rfl) (by omega) (by omega))) ?_
  refine sc (fun _ _ S _ hd=>sl rfl (rc1 Tryz.func85 rfl) (zpH (T.keep S.below) (hd.r 5 rfl rfl) (by omega))) ?_
  exact sn
 ·intro a1 V4 S hB hf
  obtain⟨b3,x3,y3,hv1,hq3,hk5,hk6,ok5,ok6⟩:=hf.r 6 rfl rfl
  have S:=S.add hv1
  have S:=S.know ok5
  have S:=S.know ok6
  clear hf S0
  show wpList _ _ _ [_] _ _
  refine zaB S (i:=2) (vs:=(aL b3 x3 y3)) rfl (fun ht=>zaw rfl (S.at 1 rfl) (S.at 0 rfl) zas rfl (zu0 rfl) ht) (zu0 rfl) rfl rfl rfl (lb':=[⟨g1,27,(aL b1 x1 y1)⟩,⟨g2,27,(aL b2 x2 y2)⟩,⟨g3,27,(aL b3 x3 y3)⟩]) rfl (fun V5 S=>?_)
  refine hK2 _ _ ?_
  refine wp_ret ?_
  exact zaW rfl S (S.at 1 rfl) (i:=2) rfl Tryz.underlying27 rfl zas ⟨_,rfl,((show QT ((max K 1)+(max K' 1)+1) (q1+(-q2)) ((aG b3 x3 y3)) _ from⟨b3,x3,y3,rfl,hq3,hk5,hk6,(S.num 1 rfl),(S.num 0 rfl)⟩)).to (zje q1 q2) (by omega),S.below⟩
end Go.Proofs.YtdeelcoipmdoiaaGreatDoor
