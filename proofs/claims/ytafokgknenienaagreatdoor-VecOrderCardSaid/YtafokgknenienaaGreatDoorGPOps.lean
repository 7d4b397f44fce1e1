/- A part. -/
import Derived.Test.YtafokgknenienaaGreatDoorGPNum
set_option maxHeartbeats 4000000
set_option maxRecDepth 100000
namespace Go.Proofs.YtafokgknenienaaGreatDoor
open Go Go.RowKit
variable {v v' v1 v2:Value}{V V':World}{K K' N M:Nat}{q q' q1 q2:Rat}{Z Z':Int}
theorem zsb {n:Int}{b:Bool}{x y:Num}(h:b=decide (n<0)∧x.N=n.natAbs∧x.n=lenL n.natAbs)(h1:y.N=1)(h2:y.n=lenL 1):IsQ (n:Rat) b x y:=by
 refine⟨?_,?_,?_,?_,?_⟩
 ·rw[Rat.num_intCast];exact h.1
 ·rw[Rat.num_intCast];exact h.2.1
 ·rw[h.2.1];exact h.2.2
 ·rw[Rat.den_intCast];exact h1
 ·rw[h1];exact h2
theorem zsc {n:Int}{V:World}(hn: -9223372036854775808≤n∧n≤9223372036854775807):
  Calls Tryz.prog 22 #[.int .i64 n] V (zai V (QT 2 (n:Rat))):=by
 refine zao (e:=[]) Tryz.func22 rfl Tryz.ntmps22 (zta rfl) [(0,.int .i64 n)] rfl zaz (fun a S=>?_)
 refine wp_seq_k fun K1 hK1=>?_
 refine zab ?_
 refine ti S (cs:=[.bool false,.slice none 0 0,.slice none 0 0]) (zas rfl (Tryz.zeroValue27 _) rfl) (fun g1=>[⟨g1,27,[.bool false,.slice none 0 0,.slice none 0 0]⟩]) fun g1 a V1 hgg1 S=>?_
 refine hK1 _ _ ?_
 refine wp_seq_k fun K2 hK2=>?_
 refine zab ?_
 refine tv S (zad rfl (S.at 1 rfl)) fun a S=>?_
 refine tc S (F:=ZT 2 (n)) (rc1 Tryz.func96 (S.at 0 rfl)) (zs0 (n:=n) hn) fun v a V2 hF hb S=>?_
 obtain⟨b1,x1,rfl,hz1,hk1,ok1⟩:=hF
 have S:=S.know ok1
 refine tc S (F:=NT 1 (1)) (rcc Tryz.func97) zsp fun v a V3 hF hb S=>?_
 obtain⟨x2,rfl,hN1,hn1,hk2,ok2⟩:=hF
 have S:=S.know ok2
 refine tv S (za2 rfl (S.at 1 rfl) (S.at 0 rfl) (zgA _ _ _ _ _ _ _)) fun a S=>?_
 refine zap S (i:=0) (vs:=(aL b1 x1 x2)) rfl (fun ht=>zal rfl (S.at 4 rfl) (S.at 0 rfl) zag rfl (zta rfl) ht) (zta rfl) rfl rfl rfl (lb':=[⟨g1,27,(aL b1 x1 x2)⟩]) rfl (fun V4 S=>?_)
 refine hK2 _ _ ?_
 refine wp_ret ?_
 exact zaw rfl S (S.at 4 rfl) (i:=0) rfl Tryz.underlying27 rfl zag ⟨_,rfl,⟨b1,x1,x2,rfl,zsb hz1 hN1 hn1,hk1,ztd hk2 (by decide),(S.num 1 rfl),(S.num 0 rfl)⟩,S.below⟩
theorem zrc {K:Nat}{q:Rat}{v1:Value}{V:World}(T:TT V)(h1:Q1 K (q) v1 V)(hK0:K≤10000):
  Calls Tryz.prog 24 #[v1] V (zai V (QT (max K 1) q)):=by
 obtain⟨b1,x1,y1,rfl,hq1,hk1,hk2,ok1,ok2⟩:=h1
 refine zao (e:=[x1,y1]) Tryz.func24 rfl Tryz.ntmps24 (zta rfl) [(0,(aG b1 x1 y1))] rfl (zaa ok1 (zaa ok2 zaz)) (fun a S=>?_)
 refine wp_seq_k fun K1 hK1=>?_
 refine zab ?_
 refine ti S (cs:=(aL b1 x1 y1)) (zar rfl (S.at 0 rfl) rfl) (fun g1=>[⟨g1,27,(aL b1 x1 y1)⟩]) fun g1 a V1 hgg1 S=>?_
 refine ti S (cs:=[.bool false,.slice none 0 0,.slice none 0 0]) (zas rfl (Tryz.zeroValue27 _) rfl) (fun g2=>[⟨g1,27,(aL b1 x1 y1)⟩,⟨g2,27,[.bool false,.slice none 0 0,.slice none 0 0]⟩]) fun g2 a V2 hgg2 S=>?_
 refine hK1 _ _ ?_
 refine wp_seq_k fun K2 hK2=>?_
 refine zab ?_
 refine tv S (zac rfl (S.at 1 rfl) (S.bx 0 rfl) Tryz.underlying27 rfl (vs:=(aL b1 x1 y1)) zag rfl) fun a S=>?_
 refine tc S (F:=QM (max K 1) (q)) (rc1 Tryz.func86 (S.at 0 rfl)) (zcG (show Q1 K (q) ((aG b1 x1 y1)) _ from⟨b1,x1,y1,rfl,hq1,hk1,hk2,(S.num 0 rfl),(S.num 1 rfl)⟩) (by omega)) fun v a V3 hF hb S=>?_
 obtain⟨b2,x2,y2,rfl,hq2,hk3,hk4,ok3,ok4⟩:=hF
 have S:=S.know ok3
 have S:=S.know ok4
 refine tc S (F:=QT (max K 1) (q)) (rc1 Tryz.func78 (S.at 0 rfl)) (zgs (T.keep S.below) (show QM (max K 1) (q) ((aG b2 x2 y2)) _ from⟨b2,x2,y2,rfl,hq2,hk3,hk4,(S.num 1 rfl),(S.num 0 rfl)⟩) (by omega)) fun v a V4 hF hb S=>?_
 obtain⟨b3,x3,y3,rfl,hq3,hk5,hk6,ok5,ok6⟩:=hF
 have S:=S.know ok5
 have S:=S.know ok6
 refine zap S (i:=1) (vs:=(aL b3 x3 y3)) rfl (fun ht=>zal rfl (S.at 3 rfl) (S.at 0 rfl) zag rfl (zta rfl) ht) (zta rfl) rfl rfl rfl (lb':=[⟨g1,27,(aL b1 x1 y1)⟩,⟨g2,27,(aL b3 x3 y3)⟩]) rfl (fun V5 S=>?_)
 refine hK2 _ _ ?_
 refine wp_ret ?_
 exact zaw rfl S (S.at 3 rfl) (i:=1) rfl Tryz.underlying27 rfl zag ⟨_,rfl,((show QT (max K 1) (q) ((aG b3 x3 y3)) _ from⟨b3,x3,y3,rfl,hq3,hk5,hk6,(S.num 1 rfl),(S.num 0 rfl)⟩)).to rfl (by omega),S.below⟩
theorem zrd {K:Nat}{q:Rat}{v1:Value}{V:World}(T:TT V)(h1:Q1 K (q) v1 V)(hK0:K≤10000):
  Calls Tryz.prog 16 #[v1] V (zai V (fun v _=>v= .int .i64 (zaI q 0))):=by
 obtain⟨b1,x1,y1,rfl,hq1,hk1,hk2,ok1,ok2⟩:=h1
 refine zao (e:=[x1,y1]) Tryz.func16 rfl Tryz.ntmps16 (zta rfl) [(0,(aG b1 x1 y1))] rfl (zaa ok1 (zaa ok2 zaz)) (fun a S=>?_)
 refine wp_seq_k fun K1 hK1=>?_
 refine zab ?_
 refine ti S (cs:=(aL b1 x1 y1)) (zar rfl (S.at 0 rfl) rfl) (fun g1=>[⟨g1,27,(aL b1 x1 y1)⟩]) fun g1 a V1 hgg1 S=>?_
 refine tv S (zav rfl) fun a S=>?_
 refine hK1 _ _ ?_
 refine wp_seq_k fun K2 hK2=>?_
 refine zab ?_
 refine tv S (zac rfl (S.at 1 rfl) (S.bx 0 rfl) Tryz.underlying27 rfl (vs:=(aL b1 x1 y1)) zag rfl) fun a S=>?_
 refine tc S (F:=QM (max K 1) (q)) (rc1 Tryz.func86 (S.at 0 rfl)) (zcG (show Q1 K (q) ((aG b1 x1 y1)) _ from⟨b1,x1,y1,rfl,hq1,hk1,hk2,(S.num 0 rfl),(S.num 1 rfl)⟩) (by omega)) fun v a V2 hF hb S=>?_
 obtain⟨b2,x2,y2,rfl,hq2,hk3,hk4,ok3,ok4⟩:=hF
 have S:=S.know ok3
 have S:=S.know ok4
 refine tv S (zmI rfl (S.at 0 rfl) (zmH _ _ _ _ _ _ _)) fun a S=>?_
 refine tc S (F:=(fun v _=>v= .int .i64 (Int.sign (zOf b2 x2.N)))) (rc1 Tryz.func87 (S.at 0 rfl)) (zrb (T.keep S.below) (show Z1 (max K 1) (zOf b2 x2.N) ((aZ b2 x2)) _ from⟨b2,x2,rfl,rfl,hk3,(S.num 1 rfl)⟩) (by omega)) fun v a V3 hF hb S=>?_
 subst hF
 refine za5 S (v:= .int .i64 (Int.sign (zOf b2 x2.N))) (zan rfl (S.at 0 rfl)) rfl rfl (by decide) (ls':=[(6,.int .i64 (Int.sign (zOf b2 x2.N))),(5,(aZ b2 x2)),(4,(aG b2 x2 y2)),(3,(aG b1 x1 y1)),(1,pT g1 0),(0,(aG b1 x1 y1))]) rfl (fun a S=>?_)
 refine hK2 _ _ ?_
 refine wp_ret ?_
 exact zaH rfl S (S.at 0 rfl) ⟨_,rfl,congrArg (Value.int .i64) (zrs hq2),S.below⟩
theorem znY {K K':Nat}{q1 q2:Rat}{v1 v2:Value}{V:World}(T:TT V)(h1:Q1 K (q1) v1 V)(h2:Q1 K' (q2) v2 V)(hK0:K≤1000)(hK1:K'≤1000):
  Calls Tryz.prog 18 #[v1,v2] V (zai V (fun v _=>v= .int .i64 (zaI q1 q2))):=by
 obtain⟨b1,x1,y1,rfl,hq1,hk1,hk2,ok1,ok2⟩:=h1
 obtain⟨b2,x2,y2,rfl,hq2,hk3,hk4,ok3,ok4⟩:=h2
 refine zao (e:=[x2,y2,x1,y1]) Tryz.func18 rfl Tryz.ntmps18 (zta rfl) [(0,(aG b1 x1 y1)),(1,(aG b2 x2 y2))] rfl (zaa ok3 (zaa ok4 (zaa ok1 (zaa ok2 zaz)))) (fun a S=>?_)
 refine wp_seq_k fun K1 hK1=>?_
 refine zab ?_
 refine ti S (cs:=(aL b1 x1 y1)) (zar rfl (S.at 0 rfl) rfl) (fun g1=>[⟨g1,27,(aL b1 x1 y1)⟩]) fun g1 a V1 hgg1 S=>?_
 refine ti S (cs:=(aL b2 x2 y2)) (zar rfl (S.at 2 rfl) rfl) (fun g2=>[⟨g1,27,(aL b1 x1 y1)⟩,⟨g2,27,(aL b2 x2 y2)⟩]) fun g2 a V2 hgg2 S=>?_
 refine tv S (zav rfl) fun a S=>?_
 refine hK1 _ _ ?_
 refine wp_seq_k fun K2 hK2=>?_
 have S:=S.keep [4,3,2] (ls':=[(4,.int .i64 0),(3,pT g2 0),(2,pT g1 0)]) rfl
 obtain⟨W1,hW1⟩:∃W,W=V2:=⟨_,rfl⟩
 rw[←hW1]at S ⊢
 have S0:=S
 refine fr 5 [5,6,7,8,9] [IsV ((aG b1 x1 y1)),QM (max K 1) (q1),IsV ((aG b2 x2 y2)),QM (max K' 1) (q2),IsV (.int .i64 (zaI q1 q2))] S ?_ ?_
 ·refine sc (fun _ _ S _ _=>sv rfl (zac rfl (S.at 2 rfl) (S.bx 0 rfl) Tryz.underlying27 rfl (vs:=(aL b1 x1 y1)) zag rfl)) ?_
  refine sc (fun _ _ S _ hd=>sl rfl (rc1 Tryz.func86 (hd.v 0 rfl rfl)) (zcG (show Q1 K (q1) ((aG b1 x1 y1)) _ from⟨b1,x1,y1,rfl,hq1,hk1,hk2,(S.num 2 rfl),(S.num 3 rfl)⟩) (by omega))) ?_
  refine sc (fun _ _ S _ _=>sv rfl (zac rfl (S.at 1 rfl) (S.bx 1 rfl) Tryz.underlying27 rfl (vs:=(aL b2 x2 y2)) zag rfl)) ?_
  refine sc (fun _ _ S _ hd=>sl rfl (rc1 Tryz.func86 (hd.v 2 rfl rfl)) (zcG (show Q1 K' (q2) ((aG b2 x2 y2)) _ from⟨b2,x2,y2,rfl,hq2,hk3,hk4,(S.num 0 rfl),(S.num 1 rfl)⟩) (by omega))) ?_
  refine sc (fun _ _ S _ hd=>sl rfl (rc2 Tryz.func93 rfl rfl) (zmg (T.keep S.below) (hd.r 1 rfl rfl) (hd.r 3 rfl rfl) (by omega) (by omega))) ?_
  exact sn
 ·intro a1 V3 S hB hf
  have S:=S.add (hf.v 4 rfl rfl)
  clear hf S0
  show wpList _ _ _ [_] _ _
  refine za5 S (v:= .int .i64 (zaI q1 q2)) (zan rfl (S.at 0 rfl)) rfl rfl (by decide) (ls':=[(9,.int .i64 (zaI q1 q2)),(3,pT g2 0),(2,pT g1 0)]) rfl (fun a S=>?_)
  refine hK2 _ _ ?_
  refine wp_ret ?_
  exact zaH rfl S (S.at 0 rfl) ⟨_,rfl,rfl,S.below⟩
theorem zkj {K K':Nat}{q1 q2:Rat}{v1 v2:Value}{V:World}(T:TT V)(h1:Q1 K (q1) v1 V)(h2:Q1 K' (q2) v2 V)(hK0:K≤1000)(hK1:K'≤1000):
  Calls Tryz.prog 20 #[v1,v2] V (zai V (fun v _=>v= .bool (decide (zaI q1 q2=0)))):=by
 obtain⟨b1,x1,y1,rfl,hq1,hk1,hk2,ok1,ok2⟩:=h1
 obtain⟨b2,x2,y2,rfl,hq2,hk3,hk4,ok3,ok4⟩:=h2
 refine zao (e:=[x2,y2,x1,y1]) Tryz.func20 rfl Tryz.ntmps20 (zta rfl) [(0,(aG b1 x1 y1)),(1,(aG b2 x2 y2))] rfl (zaa ok3 (zaa ok4 (zaa ok1 (zaa ok2 zaz)))) (fun a S=>?_)
 refine wp_seq_k fun K1 hK1=>?_
 refine zab ?_
 refine ti S (cs:=(aL b1 x1 y1)) (zar rfl (S.at 0 rfl) rfl) (fun g1=>[⟨g1,27,(aL b1 x1 y1)⟩]) fun g1 a V1 hgg1 S=>?_
 refine ti S (cs:=(aL b2 x2 y2)) (zar rfl (S.at 2 rfl) rfl) (fun g2=>[⟨g1,27,(aL b1 x1 y1)⟩,⟨g2,27,(aL b2 x2 y2)⟩]) fun g2 a V2 hgg2 S=>?_
 refine tv S (zav rfl) fun a S=>?_
 refine hK1 _ _ ?_
 refine wp_seq_k fun K2 hK2=>?_
 refine zab ?_
 refine tv S (zac rfl (S.at 2 rfl) (S.bx 0 rfl) Tryz.underlying27 rfl (vs:=(aL b1 x1 y1)) zag rfl) fun a S=>?_
 refine tv S (zac rfl (S.at 2 rfl) (S.bx 1 rfl) Tryz.underlying27 rfl (vs:=(aL b2 x2 y2)) zag rfl) fun a S=>?_
 refine tc S (F:=(fun v _=>v= .int .i64 (zaI q1 q2))) (rc2 Tryz.func18 (S.at 1 rfl) (S.at 0 rfl)) (znY (T.keep S.below) (show Q1 K (q1) ((aG b1 x1 y1)) _ from⟨b1,x1,y1,rfl,hq1,hk1,hk2,(S.num 2 rfl),(S.num 3 rfl)⟩) (show Q1 K' (q2) ((aG b2 x2 y2)) _ from⟨b2,x2,y2,rfl,hq2,hk3,hk4,(S.num 0 rfl),(S.num 1 rfl)⟩) (by omega) (by omega)) fun v a V3 hF hb S=>?_
 subst hF
 refine tv S (zbZ _ (by decide) rfl (S.at 0 rfl) rfl) fun a S=>?_
 refine za5 S (v:= .bool (decide (zaI q1 q2=0))) (zan rfl (S.at 0 rfl)) rfl rfl (by decide) (ls':=[(8,.bool (decide (zaI q1 q2=0))),(7,.int .i64 (zaI q1 q2)),(6,(aG b2 x2 y2)),(5,(aG b1 x1 y1)),(3,pT g2 0),(2,pT g1 0),(0,(aG b1 x1 y1)),(1,(aG b2 x2 y2))]) rfl (fun a S=>?_)
 refine hK2 _ _ ?_
 refine wp_ret ?_
 exact zaH rfl S (S.at 0 rfl) ⟨_,rfl,rfl,S.below⟩
theorem zqz {K:Nat}{q:Rat}{v1:Value}{V:World}(T:TT V)(h1:Q1 K (q) v1 V)(hK0:K≤10000):
  Calls Tryz.prog 26 #[v1] V (zai V (QT (max K 1) (-q))):=by
 obtain⟨b1,x1,y1,rfl,hq1,hk1,hk2,ok1,ok2⟩:=h1
 refine zao (e:=[x1,y1]) Tryz.func26 rfl Tryz.ntmps26 (zta rfl) [(0,(aG b1 x1 y1))] rfl (zaa ok1 (zaa ok2 zaz)) (fun a S=>?_)
 refine wp_seq_k fun K1 hK1=>?_
 refine zab ?_
 refine ti S (cs:=(aL b1 x1 y1)) (zar rfl (S.at 0 rfl) rfl) (fun g1=>[⟨g1,27,(aL b1 x1 y1)⟩]) fun g1 a V1 hgg1 S=>?_
 refine ti S (cs:=[.bool false,.slice none 0 0,.slice none 0 0]) (zas rfl (Tryz.zeroValue27 _) rfl) (fun g2=>[⟨g1,27,(aL b1 x1 y1)⟩,⟨g2,27,[.bool false,.slice none 0 0,.slice none 0 0]⟩]) fun g2 a V2 hgg2 S=>?_
 refine hK1 _ _ ?_
 refine wp_seq_k fun K2 hK2=>?_
 refine zab ?_
 refine tv S (zac rfl (S.at 1 rfl) (S.bx 0 rfl) Tryz.underlying27 rfl (vs:=(aL b1 x1 y1)) zag rfl) fun a S=>?_
 refine tc S (F:=QM (max K 1) (q)) (rc1 Tryz.func86 (S.at 0 rfl)) (zcG (show Q1 K (q) ((aG b1 x1 y1)) _ from⟨b1,x1,y1,rfl,hq1,hk1,hk2,(S.num 0 rfl),(S.num 1 rfl)⟩) (by omega)) fun v a V3 hF hb S=>?_
 obtain⟨b2,x2,y2,rfl,hq2,hk3,hk4,ok3,ok4⟩:=hF
 have S:=S.know ok3
 have S:=S.know ok4
 refine tc S (F:=QM (max K 1) (-q)) (rc1 Tryz.func98 (S.at 0 rfl)) (zhp (show QM (max K 1) (q) ((aG b2 x2 y2)) _ from⟨b2,x2,y2,rfl,hq2,hk3,hk4,(S.num 1 rfl),(S.num 0 rfl)⟩)) fun v a V4 hF hb S=>?_
 obtain⟨b3,x3,y3,rfl,hq3,hk5,hk6,ok5,ok6⟩:=hF
 have S:=S.know ok5
 have S:=S.know ok6
 refine tc S (F:=QT (max K 1) (-q)) (rc1 Tryz.func78 (S.at 0 rfl)) (zgs (T.keep S.below) (show QM (max K 1) (-q) ((aG b3 x3 y3)) _ from⟨b3,x3,y3,rfl,hq3,hk5,hk6,(S.num 1 rfl),(S.num 0 rfl)⟩) (by omega)) fun v a V5 hF hb S=>?_
 obtain⟨b4,x4,y4,rfl,hq4,hk7,hk8,ok7,ok8⟩:=hF
 have S:=S.know ok7
 have S:=S.know ok8
 refine zap S (i:=1) (vs:=(aL b4 x4 y4)) rfl (fun ht=>zal rfl (S.at 4 rfl) (S.at 0 rfl) zag rfl (zta rfl) ht) (zta rfl) rfl rfl rfl (lb':=[⟨g1,27,(aL b1 x1 y1)⟩,⟨g2,27,(aL b4 x4 y4)⟩]) rfl (fun V6 S=>?_)
 refine hK2 _ _ ?_
 refine wp_ret ?_
 exact zaw rfl S (S.at 4 rfl) (i:=1) rfl Tryz.underlying27 rfl zag ⟨_,rfl,((show QT (max K 1) (-q) ((aG b4 x4 y4)) _ from⟨b4,x4,y4,rfl,hq4,hk7,hk8,(S.num 1 rfl),(S.num 0 rfl)⟩)).to rfl (by omega),S.below⟩
theorem zqA {K K':Nat}{q1 q2:Rat}{v1 v2:Value}{V:World}(T:TT V)(h1:Q1 K (q1) v1 V)(h2:Q1 K' (q2) v2 V)(hK0:K≤1000)(hK1:K'≤1000):
  Calls Tryz.prog 34 #[v1,v2] V (zai V (QT (max K 1+max K' 1+1) (q1 - q2))):=by
 obtain⟨b1,x1,y1,rfl,hq1,hk1,hk2,ok1,ok2⟩:=h1
 obtain⟨b2,x2,y2,rfl,hq2,hk3,hk4,ok3,ok4⟩:=h2
 refine zao (e:=[x2,y2,x1,y1]) Tryz.func34 rfl Tryz.ntmps34 (zta rfl) [(0,(aG b1 x1 y1)),(1,(aG b2 x2 y2))] rfl (zaa ok3 (zaa ok4 (zaa ok1 (zaa ok2 zaz)))) (fun a S=>?_)
 refine wp_seq_k fun K1 hK1=>?_
 refine zab ?_
 refine ti S (cs:=(aL b1 x1 y1)) (zar rfl (S.at 0 rfl) rfl) (fun g1=>[⟨g1,27,(aL b1 x1 y1)⟩]) fun g1 a V1 hgg1 S=>?_
 refine ti S (cs:=(aL b2 x2 y2)) (zar rfl (S.at 2 rfl) rfl) (fun g2=>[⟨g1,27,(aL b1 x1 y1)⟩,⟨g2,27,(aL b2 x2 y2)⟩]) fun g2 a V2 hgg2 S=>?_
 refine ti S (cs:=[.bool false,.slice none 0 0,.slice none 0 0]) (zas rfl (Tryz.zeroValue27 _) rfl) (fun g3=>[⟨g1,27,(aL b1 x1 y1)⟩,⟨g2,27,(aL b2 x2 y2)⟩,⟨g3,27,[.bool false,.slice none 0 0,.slice none 0 0]⟩]) fun g3 a V3 hgg3 S=>?_
 refine hK1 _ _ ?_
 refine wp_seq_k fun K2 hK2=>?_
 obtain⟨W1,hW1⟩:∃W,W=V3:=⟨_,rfl⟩
 rw[←hW1]at S ⊢
 have S0:=S
 refine fr 7 [5,6,7,8,9,10,11] [IsV ((aG b1 x1 y1)),QM (max K 1) (q1),IsV ((aG b2 x2 y2)),QM (max K' 1) (q2),QM (max K' 1) (-q2),QM ((max K 1)+(max K' 1)+1) (q1+(-q2)),QT ((max K 1)+(max K' 1)+1) (q1+(-q2))] S ?_ ?_
 ·refine sc (fun _ _ S _ _=>sv rfl (zac rfl (S.at 2 rfl) (S.bx 0 rfl) Tryz.underlying27 rfl (vs:=(aL b1 x1 y1)) zag rfl)) ?_
  refine sc (fun _ _ S _ hd=>sl rfl (rc1 Tryz.func86 (hd.v 0 rfl rfl)) (zcG (show Q1 K (q1) ((aG b1 x1 y1)) _ from⟨b1,x1,y1,rfl,hq1,hk1,hk2,(S.num 2 rfl),(S.num 3 rfl)⟩) (by omega))) ?_
  refine sc (fun _ _ S _ _=>sv rfl (zac rfl (S.at 1 rfl) (S.bx 1 rfl) Tryz.underlying27 rfl (vs:=(aL b2 x2 y2)) zag rfl)) ?_
  refine sc (fun _ _ S _ hd=>sl rfl (rc1 Tryz.func86 (hd.v 2 rfl rfl)) (zcG (show Q1 K' (q2) ((aG b2 x2 y2)) _ from⟨b2,x2,y2,rfl,hq2,hk3,hk4,(S.num 0 rfl),(S.num 1 rfl)⟩) (by omega))) ?_
  refine sc (fun _ _ _ _ hd=>sl rfl (rc1 Tryz.func98 rfl) (zhp (hd.r 3 rfl rfl))) ?_
  refine sc (fun _ _ S _ hd=>sl rfl (rc2 Tryz.func101 rfl rfl) (znX (T.keep S.below) (hd.r 1 rfl rfl) (hd.r 4 rfl rfl) (by omega) (by omega))) ?_
  refine sc (fun _ _ S _ hd=>sl rfl (rc1 Tryz.func78 rfl) (zgs (T.keep S.below) (hd.r 5 rfl rfl) (by omega))) ?_
  exact sn
 ·intro a1 V4 S hB hf
  obtain⟨b3,x3,y3,hv1,hq3,hk5,hk6,ok5,ok6⟩:=hf.r 6 rfl rfl
  have S:=S.add hv1
  have S:=S.know ok5
  have S:=S.know ok6
  clear hf S0
  show wpList _ _ _ [_] _ _
  refine zap S (i:=2) (vs:=(aL b3 x3 y3)) rfl (fun ht=>zal rfl (S.at 1 rfl) (S.at 0 rfl) zag rfl (zta rfl) ht) (zta rfl) rfl rfl rfl (lb':=[⟨g1,27,(aL b1 x1 y1)⟩,⟨g2,27,(aL b2 x2 y2)⟩,⟨g3,27,(aL b3 x3 y3)⟩]) rfl (fun V5 S=>?_)
  refine hK2 _ _ ?_
  refine wp_ret ?_
  exact zaw rfl S (S.at 1 rfl) (i:=2) rfl Tryz.underlying27 rfl zag ⟨_,rfl,((show QT ((max K 1)+(max K' 1)+1) (q1+(-q2)) ((aG b3 x3 y3)) _ from⟨b3,x3,y3,rfl,hq3,hk5,hk6,(S.num 1 rfl),(S.num 0 rfl)⟩)).to (zig q1 q2) (by omega),S.below⟩
end Go.Proofs.YtafokgknenienaaGreatDoor
