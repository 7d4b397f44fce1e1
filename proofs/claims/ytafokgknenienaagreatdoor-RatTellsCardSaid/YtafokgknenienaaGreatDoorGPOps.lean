/- A part. -/
import Derived.Test.YtafokgknenienaaGreatDoorGPNum
set_option maxHeartbeats 4000000
set_option maxRecDepth 100000
namespace Go.Proofs.YtafokgknenienaaGreatDoor
open Go Go.RowKit
variable {v v' v1 v2:Value}{V V':World}{K K' N M:Nat}{q q' q1 q2:Rat}{Z Z':Int}
theorem zj3 {n:Int}{b:Bool}{x y:Num}(h:b=decide (n<0)∧x.N=n.natAbs∧x.n=lenL n.natAbs)(h1:y.N=1)(h2:y.n=lenL 1):IsQ (n:Rat) b x y:=by
 refine⟨?_,?_,?_,?_,?_⟩
 ·rw[Rat.num_intCast];exact h.1
 ·rw[Rat.num_intCast];exact h.2.1
 ·rw[h.2.1];exact h.2.2
 ·rw[Rat.den_intCast];exact h1
 ·rw[h1];exact h2
theorem zq9 (q1 q2:Rat):(q1+q2)/2=(q1+q2)/2:=rfl
theorem zsY {b:Bool}{x y:Num}(h:y.N≠0∧qOf b x.N y.N=q):y.N*2^1≠0∧mkRat (zOf b x.N) (y.N*2^1)=q/2:=by
 refine⟨by have:=h.1;omega,?_⟩
 rw[←h.2]
 unfold qOf
 have p2:((y.N:Nat):Rat)≠0:=fun h2=>h.1 (by exact_mod_cast h2)
 rw[Rat.mkRat_eq_div,Rat.mkRat_eq_div,Rat.natCast_mul]
 show(zOf b x.N:Rat)/((y.N:Rat)*2)=(zOf b x.N:Rat)/(y.N:Rat)/2
 grind
theorem zj4 {b:Bool}{x y:Num}(hc:decide (Int.sign (zOf b x.N)=0)=true)(h:qOf b x.N y.N=q∧y.N≠0):q=0:=by
 have h1:=ze7 ⟨h.2,h.1⟩
 rw[of_decide_eq_true hc]at h1
 exact ziu.1 h1.symm
theorem zpc {b:Bool}{x y:Num}(hc:decide (Int.sign (zOf b x.N)=0)=false)(h:qOf b x.N y.N=q∧y.N≠0):q≠0:=fun h0=>by
 have h1:=ze7 ⟨h.2,h.1⟩
 rw[h0,zfD]at h1
 exact of_decide_eq_false hc h1
theorem zra (h:q=0):30=erq q:=by unfold erq;rw[if_pos h]
theorem zsZ (h:q≠0):0=erq q:=by unfold erq;rw[if_neg h]
theorem zli (h:q2=0):(0:Rat)=q1/q2:=by rw[h,Rat.div_def,Rat.inv_zero,Rat.mul_zero]
theorem zrb:q1*q2⁻¹ =q1/q2:=(Rat.div_def q1 q2).symm
theorem zpd {b:Bool}{x y:Num}(h:y.N≠0∧qOf b x.N y.N=q):Int.fdiv (zOf b x.N) ((y.N:Nat):Int)=q.floor:=by
 refine(zf6 _ _ _ h.1 ?_).symm
 rw[←h.2]
 unfold qOf
 have p2:((y.N:Nat):Rat)≠0:=fun h2=>h.1 (by exact_mod_cast h2)
 rw[Rat.mkRat_eq_div]
 grind
theorem zs0 {n:Int}{V:World}(hn: -9223372036854775808≤n∧n≤9223372036854775807):
  Calls Tryz.prog 22 #[.int .i64 n] V (zao V (QT 2 (n:Rat))):=by
 refine zaD (e:=[]) Tryz.func22 rfl Tryz.ntmps22 (zuz rfl) [(0,.int .i64 n)] rfl zaW (fun a S=>?_)
 refine wp_seq_k fun K1 hK1=>?_
 refine zaa ?_
 refine ti S (cs:=[.bool false,.slice none 0 0,.slice none 0 0]) (zap rfl (Tryz.zeroValue27 _) rfl) (fun g1=>[⟨g1,27,[.bool false,.slice none 0 0,.slice none 0 0]⟩]) fun g1 a V1 hgg1 S=>?_
 refine hK1 _ _ ?_
 refine wp_seq_k fun K2 hK2=>?_
 refine zaa ?_
 refine tv S (zad rfl (S.at 1 rfl)) fun a S=>?_
 refine tc S (F:=ZT 2 (n)) (rc1 Tryz.func96 (S.at 0 rfl)) (zux (n:=n) hn) fun v a V2 hF hb S=>?_
 obtain⟨b1,x1,rfl,hz1,hk1,ok1⟩:=hF
 have S:=S.know ok1
 refine tc S (F:=NT 1 (1)) (rcc Tryz.func97) zpG fun v a V3 hF hb S=>?_
 obtain⟨x2,rfl,hN1,hn1,hk2,ok2⟩:=hF
 have S:=S.know ok2
 refine tv S (zaL rfl (S.at 1 rfl) (S.at 0 rfl) (zcs _ _ _ _ _ _ _)) fun a S=>?_
 refine zal S (i:=0) (vs:=(aL b1 x1 x2)) rfl (fun ht=>zah rfl (S.at 4 rfl) (S.at 0 rfl) zae rfl (zuz rfl) ht) (zuz rfl) rfl rfl rfl (lb':=[⟨g1,27,(aL b1 x1 x2)⟩]) rfl (fun V4 S=>?_)
 refine hK2 _ _ ?_
 refine wp_ret ?_
 exact za1 rfl S (S.at 4 rfl) (i:=0) rfl Tryz.underlying27 rfl zae ⟨_,rfl,⟨b1,x1,x2,rfl,zj3 hz1 hN1 hn1,hk1,zuC hk2 (by decide),(S.num 1 rfl),(S.num 0 rfl)⟩,S.below⟩
theorem zj5:Calls Tryz.prog 22 #[.int .i64 0] V (zao V (QT 1 (0:Rat))):=zbn (zs0 (n:=0) (by decide)) (fun _ _ h=>h.sml (K':=1) zjf)
theorem ztT:Calls Tryz.prog 22 #[.int .i64 1] V (zao V (QT 1 (1:Rat))):=zbn (zs0 (n:=1) (by decide)) (fun _ _ h=>h.sml (K':=1) zqi)
theorem zpe {K K' N:Nat}{Z:Int}{v1 v2:Value}{V:World}(T:TT V)(h1:Z1 K (Z) v1 V)(h2:N1 K' (N) v2 V)(hK0:K≤10000)(hK1:K'≤10000):
  Calls Tryz.prog 11 #[v1,v2] V (zao V (QE (max (max K K') 1) (mkRat Z N) (erz N))):=by
 obtain⟨b1,x1,rfl,hz1,hk1,ok1⟩:=h1
 obtain⟨x2,rfl,hN1,hk2,ok2⟩:=h2
 refine zaD (e:=[x2,x1]) Tryz.func11 rfl Tryz.ntmps11 (zuz rfl) [(0,(aZ b1 x1)),(1,aS x2)] rfl (zak ok2 (zak ok1 zaW)) (fun a S=>?_)
 refine wp_seq_k fun K1 hK1=>?_
 refine zaa ?_
 refine ti S (cs:=[.bool b1,aS x1]) (zaH rfl (S.at 0 rfl) rfl) (fun g1=>[⟨g1,25,[.bool b1,aS x1]⟩]) fun g1 a V1 hgg1 S=>?_
 refine ti S (cs:=[.bool false,.slice none 0 0,.slice none 0 0]) (zap rfl (Tryz.zeroValue27 _) rfl) (fun g2=>[⟨g1,25,[.bool b1,aS x1]⟩,⟨g2,27,[.bool false,.slice none 0 0,.slice none 0 0]⟩]) fun g2 a V2 hgg2 S=>?_
 refine tv S (zau rfl) fun a S=>?_
 refine hK1 _ _ ?_
 refine wp_seq_k fun K2 hK2=>?_
 refine wp_seq_k fun K3 hK3=>?_
 refine zaa ?_
 refine tv S (zad rfl (S.at 4 rfl)) fun a S=>?_
 refine tc S (F:=(fun v _=>v= .bool (decide (N=0)))) (rc1 Tryz.func77 (S.at 0 rfl)) (zg5 (show N1 K' (N) (aS x2) _ from⟨x2,rfl,hN1,hk2,(S.num 0 rfl)⟩)) fun v a V3 hF hb S=>?_
 subst hF
 refine hK3 _ _ ?_
 rcases zuJ (decide (N=0))with hc7|hc7
 ·refine wp_cond_true ((S.at 0 rfl).trans (congrArg Value.bool hc7)) ?_
  refine wp_seq_k fun K4 hK4=>?_
  refine zaa ?_
  refine tc S (F:=QT 1 ((0:Rat))) (rcc Tryz.func22) zj5 fun v a V4 hF hb S=>?_
  obtain⟨b2,x3,y1,rfl,hq1,hk3,hk4,ok3,ok4⟩:=hF
  have S:=S.know ok3
  have S:=S.know ok4
  refine zal S (i:=1) (vs:=(aL b2 x3 y1)) rfl (fun ht=>zah rfl (S.at 4 rfl) (S.at 0 rfl) zae rfl (zuz rfl) ht) (zuz rfl) rfl rfl rfl (lb':=[⟨g1,25,[.bool b1,aS x1]⟩,⟨g2,27,(aL b2 x3 y1)⟩]) rfl (fun V5 S=>?_)
  refine zbk S (v:= .int .i64 30) (zau rfl) rfl rfl (by decide) (ls':=[(8,(aG b2 x3 y1)),(7,.bool (decide (N=0))),(6,aS x2),(4,pT g2 0),(2,pT g1 0),(0,(aZ b1 x1)),(1,aS x2)]) rfl (fun a S=>?_)
  refine hK4 _ _ ?_
  refine wp_ret ?_
  exact zbD rfl S (S.at 4 rfl) (i:=1) rfl Tryz.underlying27 rfl zae (S.at 0 rfl) ⟨_,rfl,⟨b2,x3,y1,congrArg (fun z=>Value.tuple #[(aG b2 x3 y1),.int .i64 z]) (show 30=erz N by unfold erz;rw[if_pos (of_decide_eq_true hc7)]),(show(0:Rat)=mkRat Z N by rw[of_decide_eq_true hc7];simp)▸hq1,zuC hk3 (by omega),zuC hk4 (by omega),(S.num 1 rfl),(S.num 0 rfl)⟩,S.below⟩
 ·refine wp_cond_false ((S.at 0 rfl).trans (congrArg Value.bool hc7)) ?_
  refine wp_skip ?_
  refine hK2 _ _ ?_
  refine wp_seq_k fun K5 hK5=>?_
  refine zaa ?_
  refine tv S (zab rfl (S.at 4 rfl) (S.bx 0 rfl) Tryz.underlying25 rfl (vs:=[.bool b1,aS x1]) zav rfl) fun a S=>?_
  refine tv S (zbp rfl (S.at 0 rfl) (zck _ _ _ _)) fun a S=>?_
  refine tv S (zad rfl (S.at 8 rfl)) fun a S=>?_
  refine tv S (zaL rfl (S.at 1 rfl) (S.at 0 rfl) (zde _ _ _ _ _ _ _)) fun a S=>?_
  refine tc S (F:=QT (max K K') (mkRat Z N)) (rc1 Tryz.func78 (S.at 0 rfl)) (zdw (T.keep S.below) (show QM (max K K') (mkRat Z N) ((aG b1 x1 x2)) _ from⟨b1,x1,x2,rfl,⟨by rw[hN1];exact of_decide_eq_false hc7,by unfold qOf;rw[hz1,hN1]⟩,zuC hk1 (by omega),zuC hk2 (by omega),(S.num 1 rfl),(S.num 0 rfl)⟩) (by omega)) fun v a V6 hF hb S=>?_
  obtain⟨b3,x4,y2,rfl,hq2,hk5,hk6,ok5,ok6⟩:=hF
  have S:=S.know ok5
  have S:=S.know ok6
  refine zal S (i:=1) (vs:=(aL b3 x4 y2)) rfl (fun ht=>zah rfl (S.at 8 rfl) (S.at 0 rfl) zae rfl (zuz rfl) ht) (zuz rfl) rfl rfl rfl (lb':=[⟨g1,25,[.bool b1,aS x1]⟩,⟨g2,27,(aL b3 x4 y2)⟩]) rfl (fun V7 S=>?_)
  refine zbk S (v:= .int .i64 0) (zau rfl) rfl rfl (by decide) (ls':=[(13,(aG b3 x4 y2)),(12,(aG b1 x1 x2)),(11,aS x2),(10,(aZ b1 x1)),(9,(aZ b1 x1)),(7,.bool (decide (N=0))),(6,aS x2),(4,pT g2 0),(2,pT g1 0),(0,(aZ b1 x1)),(1,aS x2)]) rfl (fun a S=>?_)
  refine hK5 _ _ ?_
  refine wp_ret ?_
  exact zbD rfl S (S.at 8 rfl) (i:=1) rfl Tryz.underlying27 rfl zae (S.at 0 rfl) ⟨_,rfl,⟨b3,x4,y2,congrArg (fun z=>Value.tuple #[(aG b3 x4 y2),.int .i64 z]) (show 0=erz N by unfold erz;rw[if_neg (of_decide_eq_false hc7)]),hq2,zuC hk5 (by omega),zuC hk6 (by omega),(S.num 1 rfl),(S.num 0 rfl)⟩,S.below⟩
theorem zs1 {K:Nat}{q:Rat}{v1:Value}{V:World}(T:TT V)(h1:Q1 K (q) v1 V)(hK0:K≤10000):
  Calls Tryz.prog 24 #[v1] V (zao V (QT (max K 1) q)):=by
 obtain⟨b1,x1,y1,rfl,hq1,hk1,hk2,ok1,ok2⟩:=h1
 refine zaD (e:=[x1,y1]) Tryz.func24 rfl Tryz.ntmps24 (zuz rfl) [(0,(aG b1 x1 y1))] rfl (zak ok1 (zak ok2 zaW)) (fun a S=>?_)
 refine wp_seq_k fun K1 hK1=>?_
 refine zaa ?_
 refine ti S (cs:=(aL b1 x1 y1)) (zaH rfl (S.at 0 rfl) rfl) (fun g1=>[⟨g1,27,(aL b1 x1 y1)⟩]) fun g1 a V1 hgg1 S=>?_
 refine ti S (cs:=[.bool false,.slice none 0 0,.slice none 0 0]) (zap rfl (Tryz.zeroValue27 _) rfl) (fun g2=>[⟨g1,27,(aL b1 x1 y1)⟩,⟨g2,27,[.bool false,.slice none 0 0,.slice none 0 0]⟩]) fun g2 a V2 hgg2 S=>?_
 refine hK1 _ _ ?_
 refine wp_seq_k fun K2 hK2=>?_
 refine zaa ?_
 refine tv S (zab rfl (S.at 1 rfl) (S.bx 0 rfl) Tryz.underlying27 rfl (vs:=(aL b1 x1 y1)) zae rfl) fun a S=>?_
 refine tc S (F:=QM (max K 1) (q)) (rc1 Tryz.func86 (S.at 0 rfl)) (zbA (show Q1 K (q) ((aG b1 x1 y1)) _ from⟨b1,x1,y1,rfl,hq1,hk1,hk2,(S.num 0 rfl),(S.num 1 rfl)⟩) (by omega)) fun v a V3 hF hb S=>?_
 obtain⟨b2,x2,y2,rfl,hq2,hk3,hk4,ok3,ok4⟩:=hF
 have S:=S.know ok3
 have S:=S.know ok4
 refine tc S (F:=QT (max K 1) (q)) (rc1 Tryz.func78 (S.at 0 rfl)) (zdw (T.keep S.below) (show QM (max K 1) (q) ((aG b2 x2 y2)) _ from⟨b2,x2,y2,rfl,hq2,hk3,hk4,(S.num 1 rfl),(S.num 0 rfl)⟩) (by omega)) fun v a V4 hF hb S=>?_
 obtain⟨b3,x3,y3,rfl,hq3,hk5,hk6,ok5,ok6⟩:=hF
 have S:=S.know ok5
 have S:=S.know ok6
 refine zal S (i:=1) (vs:=(aL b3 x3 y3)) rfl (fun ht=>zah rfl (S.at 3 rfl) (S.at 0 rfl) zae rfl (zuz rfl) ht) (zuz rfl) rfl rfl rfl (lb':=[⟨g1,27,(aL b1 x1 y1)⟩,⟨g2,27,(aL b3 x3 y3)⟩]) rfl (fun V5 S=>?_)
 refine hK2 _ _ ?_
 refine wp_ret ?_
 exact za1 rfl S (S.at 3 rfl) (i:=1) rfl Tryz.underlying27 rfl zae ⟨_,rfl,((show QT (max K 1) (q) ((aG b3 x3 y3)) _ from⟨b3,x3,y3,rfl,hq3,hk5,hk6,(S.num 1 rfl),(S.num 0 rfl)⟩)).to rfl (by omega),S.below⟩
theorem zpf {K:Nat}{q:Rat}{v1:Value}{V:World}(T:TT V)(h1:Q1 K (q) v1 V)(hK0:K≤10000):
  Calls Tryz.prog 16 #[v1] V (zao V (fun v _=>v= .int .i64 (zaK q 0))):=by
 obtain⟨b1,x1,y1,rfl,hq1,hk1,hk2,ok1,ok2⟩:=h1
 refine zaD (e:=[x1,y1]) Tryz.func16 rfl Tryz.ntmps16 (zuz rfl) [(0,(aG b1 x1 y1))] rfl (zak ok1 (zak ok2 zaW)) (fun a S=>?_)
 refine wp_seq_k fun K1 hK1=>?_
 refine zaa ?_
 refine ti S (cs:=(aL b1 x1 y1)) (zaH rfl (S.at 0 rfl) rfl) (fun g1=>[⟨g1,27,(aL b1 x1 y1)⟩]) fun g1 a V1 hgg1 S=>?_
 refine tv S (zau rfl) fun a S=>?_
 refine hK1 _ _ ?_
 refine wp_seq_k fun K2 hK2=>?_
 refine zaa ?_
 refine tv S (zab rfl (S.at 1 rfl) (S.bx 0 rfl) Tryz.underlying27 rfl (vs:=(aL b1 x1 y1)) zae rfl) fun a S=>?_
 refine tc S (F:=QM (max K 1) (q)) (rc1 Tryz.func86 (S.at 0 rfl)) (zbA (show Q1 K (q) ((aG b1 x1 y1)) _ from⟨b1,x1,y1,rfl,hq1,hk1,hk2,(S.num 0 rfl),(S.num 1 rfl)⟩) (by omega)) fun v a V2 hF hb S=>?_
 obtain⟨b2,x2,y2,rfl,hq2,hk3,hk4,ok3,ok4⟩:=hF
 have S:=S.know ok3
 have S:=S.know ok4
 refine tv S (znZ rfl (S.at 0 rfl) (znY _ _ _ _ _ _ _)) fun a S=>?_
 refine tc S (F:=(fun v _=>v= .int .i64 (Int.sign (zOf b2 x2.N)))) (rc1 Tryz.func87 (S.at 0 rfl)) (ziY (T.keep S.below) (show Z1 (max K 1) (zOf b2 x2.N) ((aZ b2 x2)) _ from⟨b2,x2,rfl,rfl,hk3,(S.num 1 rfl)⟩) (by omega)) fun v a V3 hF hb S=>?_
 subst hF
 refine zbk S (v:= .int .i64 (Int.sign (zOf b2 x2.N))) (zam rfl (S.at 0 rfl)) rfl rfl (by decide) (ls':=[(6,.int .i64 (Int.sign (zOf b2 x2.N))),(5,(aZ b2 x2)),(4,(aG b2 x2 y2)),(3,(aG b1 x1 y1)),(1,pT g1 0),(0,(aG b1 x1 y1))]) rfl (fun a S=>?_)
 refine hK2 _ _ ?_
 refine wp_ret ?_
 exact za5 rfl S (S.at 0 rfl) ⟨_,rfl,congrArg (Value.int .i64) (ze7 hq2),S.below⟩
theorem zse {K K':Nat}{q1 q2:Rat}{v1 v2:Value}{V:World}(T:TT V)(h1:Q1 K (q1) v1 V)(h2:Q1 K' (q2) v2 V)(hK0:K≤1000)(hK1:K'≤1000):
  Calls Tryz.prog 18 #[v1,v2] V (zao V (fun v _=>v= .int .i64 (zaK q1 q2))):=by
 obtain⟨b1,x1,y1,rfl,hq1,hk1,hk2,ok1,ok2⟩:=h1
 obtain⟨b2,x2,y2,rfl,hq2,hk3,hk4,ok3,ok4⟩:=h2
 refine zaD (e:=[x2,y2,x1,y1]) Tryz.func18 rfl Tryz.ntmps18 (zuz rfl) [(0,(aG b1 x1 y1)),(1,(aG b2 x2 y2))] rfl (zak ok3 (zak ok4 (zak ok1 (zak ok2 zaW)))) (fun a S=>?_)
 refine wp_seq_k fun K1 hK1=>?_
 refine zaa ?_
 refine ti S (cs:=(aL b1 x1 y1)) (zaH rfl (S.at 0 rfl) rfl) (fun g1=>[⟨g1,27,(aL b1 x1 y1)⟩]) fun g1 a V1 hgg1 S=>?_
 refine ti S (cs:=(aL b2 x2 y2)) (zaH rfl (S.at 2 rfl) rfl) (fun g2=>[⟨g1,27,(aL b1 x1 y1)⟩,⟨g2,27,(aL b2 x2 y2)⟩]) fun g2 a V2 hgg2 S=>?_
 refine tv S (zau rfl) fun a S=>?_
 refine hK1 _ _ ?_
 refine wp_seq_k fun K2 hK2=>?_
 have S:=S.keep [4,3,2] (ls':=[(4,.int .i64 0),(3,pT g2 0),(2,pT g1 0)]) rfl
 obtain⟨W1,hW1⟩:∃W,W=V2:=⟨_,rfl⟩
 rw[←hW1]at S ⊢
 have S0:=S
 refine fr 5 [5,6,7,8,9] [IsV ((aG b1 x1 y1)),QM (max K 1) (q1),IsV ((aG b2 x2 y2)),QM (max K' 1) (q2),IsV (.int .i64 (zaK q1 q2))] S ?_ ?_
 ·refine sc (fun _ _ S _ _=>sv rfl (zab rfl (S.at 2 rfl) (S.bx 0 rfl) Tryz.underlying27 rfl (vs:=(aL b1 x1 y1)) zae rfl)) ?_
  refine sc (fun _ _ S _ hd=>sl rfl (rc1 Tryz.func86 (hd.v 0 rfl rfl)) (zbA (show Q1 K (q1) ((aG b1 x1 y1)) _ from⟨b1,x1,y1,rfl,hq1,hk1,hk2,(S.num 2 rfl),(S.num 3 rfl)⟩) (by omega))) ?_
  refine sc (fun _ _ S _ _=>sv rfl (zab rfl (S.at 1 rfl) (S.bx 1 rfl) Tryz.underlying27 rfl (vs:=(aL b2 x2 y2)) zae rfl)) ?_
  refine sc (fun _ _ S _ hd=>sl rfl (rc1 Tryz.func86 (hd.v 2 rfl rfl)) (zbA (show Q1 K' (q2) ((aG b2 x2 y2)) _ from⟨b2,x2,y2,rfl,hq2,hk3,hk4,(S.num 0 rfl),(S.num 1 rfl)⟩) (by omega))) ?_
  refine sc (fun _ _ S _ hd=>sl rfl (rc2 Tryz.func93 rfl rfl) (zid (T.keep S.below) (hd.r 1 rfl rfl) (hd.r 3 rfl rfl) (by omega) (by omega))) ?_
  exact sn
 ·intro a1 V3 S hB hf
  have S:=S.add (hf.v 4 rfl rfl)
  clear hf S0
  show wpList _ _ _ [_] _ _
  refine zbk S (v:= .int .i64 (zaK q1 q2)) (zam rfl (S.at 0 rfl)) rfl rfl (by decide) (ls':=[(9,.int .i64 (zaK q1 q2)),(3,pT g2 0),(2,pT g1 0)]) rfl (fun a S=>?_)
  refine hK2 _ _ ?_
  refine wp_ret ?_
  exact za5 rfl S (S.at 0 rfl) ⟨_,rfl,rfl,S.below⟩
theorem zs2 {K K':Nat}{q1 q2:Rat}{v1 v2:Value}{V:World}(T:TT V)(h1:Q1 K (q1) v1 V)(h2:Q1 K' (q2) v2 V)(hK0:K≤1000)(hK1:K'≤1000):
  Calls Tryz.prog 20 #[v1,v2] V (zao V (fun v _=>v= .bool (decide (zaK q1 q2=0)))):=by
 obtain⟨b1,x1,y1,rfl,hq1,hk1,hk2,ok1,ok2⟩:=h1
 obtain⟨b2,x2,y2,rfl,hq2,hk3,hk4,ok3,ok4⟩:=h2
 refine zaD (e:=[x2,y2,x1,y1]) Tryz.func20 rfl Tryz.ntmps20 (zuz rfl) [(0,(aG b1 x1 y1)),(1,(aG b2 x2 y2))] rfl (zak ok3 (zak ok4 (zak ok1 (zak ok2 zaW)))) (fun a S=>?_)
 refine wp_seq_k fun K1 hK1=>?_
 refine zaa ?_
 refine ti S (cs:=(aL b1 x1 y1)) (zaH rfl (S.at 0 rfl) rfl) (fun g1=>[⟨g1,27,(aL b1 x1 y1)⟩]) fun g1 a V1 hgg1 S=>?_
 refine ti S (cs:=(aL b2 x2 y2)) (zaH rfl (S.at 2 rfl) rfl) (fun g2=>[⟨g1,27,(aL b1 x1 y1)⟩,⟨g2,27,(aL b2 x2 y2)⟩]) fun g2 a V2 hgg2 S=>?_
 refine tv S (zau rfl) fun a S=>?_
 refine hK1 _ _ ?_
 refine wp_seq_k fun K2 hK2=>?_
 refine zaa ?_
 refine tv S (zab rfl (S.at 2 rfl) (S.bx 0 rfl) Tryz.underlying27 rfl (vs:=(aL b1 x1 y1)) zae rfl) fun a S=>?_
 refine tv S (zab rfl (S.at 2 rfl) (S.bx 1 rfl) Tryz.underlying27 rfl (vs:=(aL b2 x2 y2)) zae rfl) fun a S=>?_
 refine tc S (F:=(fun v _=>v= .int .i64 (zaK q1 q2))) (rc2 Tryz.func18 (S.at 1 rfl) (S.at 0 rfl)) (zse (T.keep S.below) (show Q1 K (q1) ((aG b1 x1 y1)) _ from⟨b1,x1,y1,rfl,hq1,hk1,hk2,(S.num 2 rfl),(S.num 3 rfl)⟩) (show Q1 K' (q2) ((aG b2 x2 y2)) _ from⟨b2,x2,y2,rfl,hq2,hk3,hk4,(S.num 0 rfl),(S.num 1 rfl)⟩) (by omega) (by omega)) fun v a V3 hF hb S=>?_
 subst hF
 refine tv S (zct _ (by decide) rfl (S.at 0 rfl) rfl) fun a S=>?_
 refine zbk S (v:= .bool (decide (zaK q1 q2=0))) (zam rfl (S.at 0 rfl)) rfl rfl (by decide) (ls':=[(8,.bool (decide (zaK q1 q2=0))),(7,.int .i64 (zaK q1 q2)),(6,(aG b2 x2 y2)),(5,(aG b1 x1 y1)),(3,pT g2 0),(2,pT g1 0),(0,(aG b1 x1 y1)),(1,(aG b2 x2 y2))]) rfl (fun a S=>?_)
 refine hK2 _ _ ?_
 refine wp_ret ?_
 exact za5 rfl S (S.at 0 rfl) ⟨_,rfl,rfl,S.below⟩
theorem ztU {K:Nat}{q:Rat}{v1:Value}{V:World}(T:TT V)(h1:Q1 K (q) v1 V)(hK0:K≤10000):
  Calls Tryz.prog 26 #[v1] V (zao V (QT (max K 1) (-q))):=by
 obtain⟨b1,x1,y1,rfl,hq1,hk1,hk2,ok1,ok2⟩:=h1
 refine zaD (e:=[x1,y1]) Tryz.func26 rfl Tryz.ntmps26 (zuz rfl) [(0,(aG b1 x1 y1))] rfl (zak ok1 (zak ok2 zaW)) (fun a S=>?_)
 refine wp_seq_k fun K1 hK1=>?_
 refine zaa ?_
 refine ti S (cs:=(aL b1 x1 y1)) (zaH rfl (S.at 0 rfl) rfl) (fun g1=>[⟨g1,27,(aL b1 x1 y1)⟩]) fun g1 a V1 hgg1 S=>?_
 refine ti S (cs:=[.bool false,.slice none 0 0,.slice none 0 0]) (zap rfl (Tryz.zeroValue27 _) rfl) (fun g2=>[⟨g1,27,(aL b1 x1 y1)⟩,⟨g2,27,[.bool false,.slice none 0 0,.slice none 0 0]⟩]) fun g2 a V2 hgg2 S=>?_
 refine hK1 _ _ ?_
 refine wp_seq_k fun K2 hK2=>?_
 refine zaa ?_
 refine tv S (zab rfl (S.at 1 rfl) (S.bx 0 rfl) Tryz.underlying27 rfl (vs:=(aL b1 x1 y1)) zae rfl) fun a S=>?_
 refine tc S (F:=QM (max K 1) (q)) (rc1 Tryz.func86 (S.at 0 rfl)) (zbA (show Q1 K (q) ((aG b1 x1 y1)) _ from⟨b1,x1,y1,rfl,hq1,hk1,hk2,(S.num 0 rfl),(S.num 1 rfl)⟩) (by omega)) fun v a V3 hF hb S=>?_
 obtain⟨b2,x2,y2,rfl,hq2,hk3,hk4,ok3,ok4⟩:=hF
 have S:=S.know ok3
 have S:=S.know ok4
 refine tc S (F:=QM (max K 1) (-q)) (rc1 Tryz.func98 (S.at 0 rfl)) (zez (show QM (max K 1) (q) ((aG b2 x2 y2)) _ from⟨b2,x2,y2,rfl,hq2,hk3,hk4,(S.num 1 rfl),(S.num 0 rfl)⟩)) fun v a V4 hF hb S=>?_
 obtain⟨b3,x3,y3,rfl,hq3,hk5,hk6,ok5,ok6⟩:=hF
 have S:=S.know ok5
 have S:=S.know ok6
 refine tc S (F:=QT (max K 1) (-q)) (rc1 Tryz.func78 (S.at 0 rfl)) (zdw (T.keep S.below) (show QM (max K 1) (-q) ((aG b3 x3 y3)) _ from⟨b3,x3,y3,rfl,hq3,hk5,hk6,(S.num 1 rfl),(S.num 0 rfl)⟩) (by omega)) fun v a V5 hF hb S=>?_
 obtain⟨b4,x4,y4,rfl,hq4,hk7,hk8,ok7,ok8⟩:=hF
 have S:=S.know ok7
 have S:=S.know ok8
 refine zal S (i:=1) (vs:=(aL b4 x4 y4)) rfl (fun ht=>zah rfl (S.at 4 rfl) (S.at 0 rfl) zae rfl (zuz rfl) ht) (zuz rfl) rfl rfl rfl (lb':=[⟨g1,27,(aL b1 x1 y1)⟩,⟨g2,27,(aL b4 x4 y4)⟩]) rfl (fun V6 S=>?_)
 refine hK2 _ _ ?_
 refine wp_ret ?_
 exact za1 rfl S (S.at 4 rfl) (i:=1) rfl Tryz.underlying27 rfl zae ⟨_,rfl,((show QT (max K 1) (-q) ((aG b4 x4 y4)) _ from⟨b4,x4,y4,rfl,hq4,hk7,hk8,(S.num 1 rfl),(S.num 0 rfl)⟩)).to rfl (by omega),S.below⟩
theorem ztV {K K':Nat}{q1 q2:Rat}{v1 v2:Value}{V:World}(T:TT V)(h1:Q1 K (q1) v1 V)(h2:Q1 K' (q2) v2 V)(hK0:K≤1000)(hK1:K'≤1000):
  Calls Tryz.prog 34 #[v1,v2] V (zao V (QT (max K 1+max K' 1+1) (q1 - q2))):=by
 obtain⟨b1,x1,y1,rfl,hq1,hk1,hk2,ok1,ok2⟩:=h1
 obtain⟨b2,x2,y2,rfl,hq2,hk3,hk4,ok3,ok4⟩:=h2
 refine zaD (e:=[x2,y2,x1,y1]) Tryz.func34 rfl Tryz.ntmps34 (zuz rfl) [(0,(aG b1 x1 y1)),(1,(aG b2 x2 y2))] rfl (zak ok3 (zak ok4 (zak ok1 (zak ok2 zaW)))) (fun a S=>?_)
 refine wp_seq_k fun K1 hK1=>?_
 refine zaa ?_
 refine ti S (cs:=(aL b1 x1 y1)) (zaH rfl (S.at 0 rfl) rfl) (fun g1=>[⟨g1,27,(aL b1 x1 y1)⟩]) fun g1 a V1 hgg1 S=>?_
 refine ti S (cs:=(aL b2 x2 y2)) (zaH rfl (S.at 2 rfl) rfl) (fun g2=>[⟨g1,27,(aL b1 x1 y1)⟩,⟨g2,27,(aL b2 x2 y2)⟩]) fun g2 a V2 hgg2 S=>?_
 refine ti S (cs:=[.bool false,.slice none 0 0,.slice none 0 0]) (zap rfl (Tryz.zeroValue27 _) rfl) (fun g3=>[⟨g1,27,(aL b1 x1 y1)⟩,⟨g2,27,(aL b2 x2 y2)⟩,⟨g3,27,[.bool false,.slice none 0 0,.slice none 0 0]⟩]) fun g3 a V3 hgg3 S=>?_
 refine hK1 _ _ ?_
 refine wp_seq_k fun K2 hK2=>?_
 obtain⟨W1,hW1⟩:∃W,W=V3:=⟨_,rfl⟩
 rw[←hW1]at S ⊢
 have S0:=S
 refine fr 7 [5,6,7,8,9,10,11] [IsV ((aG b1 x1 y1)),QM (max K 1) (q1),IsV ((aG b2 x2 y2)),QM (max K' 1) (q2),QM (max K' 1) (-q2),QM ((max K 1)+(max K' 1)+1) (q1+(-q2)),QT ((max K 1)+(max K' 1)+1) (q1+(-q2))] S ?_ ?_
 ·refine sc (fun _ _ S _ _=>sv rfl (zab rfl (S.at 2 rfl) (S.bx 0 rfl) Tryz.underlying27 rfl (vs:=(aL b1 x1 y1)) zae rfl)) ?_
  refine sc (fun _ _ S _ hd=>sl rfl (rc1 Tryz.func86 (hd.v 0 rfl rfl)) (zbA (show Q1 K (q1) ((aG b1 x1 y1)) _ from⟨b1,x1,y1,rfl,hq1,hk1,hk2,(S.num 2 rfl),(S.num 3 rfl)⟩) (by omega))) ?_
  refine sc (fun _ _ S _ _=>sv rfl (zab rfl (S.at 1 rfl) (S.bx 1 rfl) Tryz.underlying27 rfl (vs:=(aL b2 x2 y2)) zae rfl)) ?_
  refine sc (fun _ _ S _ hd=>sl rfl (rc1 Tryz.func86 (hd.v 2 rfl rfl)) (zbA (show Q1 K' (q2) ((aG b2 x2 y2)) _ from⟨b2,x2,y2,rfl,hq2,hk3,hk4,(S.num 0 rfl),(S.num 1 rfl)⟩) (by omega))) ?_
  refine sc (fun _ _ _ _ hd=>sl rfl (rc1 Tryz.func98 rfl) (zez (hd.r 3 rfl rfl))) ?_
  refine sc (fun _ _ S _ hd=>sl rfl (rc2 Tryz.func101 rfl rfl) (zlh (T.keep S.below) (hd.r 1 rfl rfl) (hd.r 4 rfl rfl) (by omega) (by omega))) ?_
  refine sc (fun _ _ S _ hd=>sl rfl (rc1 Tryz.func78 rfl) (zdw (T.keep S.below) (hd.r 5 rfl rfl) (by omega))) ?_
  exact sn
 ·intro a1 V4 S hB hf
  obtain⟨b3,x3,y3,hv1,hq3,hk5,hk6,ok5,ok6⟩:=hf.r 6 rfl rfl
  have S:=S.add hv1
  have S:=S.know ok5
  have S:=S.know ok6
  clear hf S0
  show wpList _ _ _ [_] _ _
  refine zal S (i:=2) (vs:=(aL b3 x3 y3)) rfl (fun ht=>zah rfl (S.at 1 rfl) (S.at 0 rfl) zae rfl (zuz rfl) ht) (zuz rfl) rfl rfl rfl (lb':=[⟨g1,27,(aL b1 x1 y1)⟩,⟨g2,27,(aL b2 x2 y2)⟩,⟨g3,27,(aL b3 x3 y3)⟩]) rfl (fun V5 S=>?_)
  refine hK2 _ _ ?_
  refine wp_ret ?_
  exact za1 rfl S (S.at 1 rfl) (i:=2) rfl Tryz.underlying27 rfl zae ⟨_,rfl,((show QT ((max K 1)+(max K' 1)+1) (q1+(-q2)) ((aG b3 x3 y3)) _ from⟨b3,x3,y3,rfl,hq3,hk5,hk6,(S.num 1 rfl),(S.num 0 rfl)⟩)).to (zly q1 q2) (by omega),S.below⟩
theorem zsf {K K':Nat}{q1 q2:Rat}{v1 v2:Value}{V:World}(T:TT V)(h1:Q1 K (q1) v1 V)(h2:Q1 K' (q2) v2 V)(hK0:K≤1000)(hK1:K'≤1000):
  Calls Tryz.prog 36 #[v1,v2] V (zao V (QT (max K 1+max K' 1+2) ((q1+q2)/2))):=by
 obtain⟨b1,x1,y1,rfl,hq1,hk1,hk2,ok1,ok2⟩:=h1
 obtain⟨b2,x2,y2,rfl,hq2,hk3,hk4,ok3,ok4⟩:=h2
 refine zaD (e:=[x2,y2,x1,y1]) Tryz.func36 rfl Tryz.ntmps36 (zuz rfl) [(0,(aG b1 x1 y1)),(1,(aG b2 x2 y2))] rfl (zak ok3 (zak ok4 (zak ok1 (zak ok2 zaW)))) (fun a S=>?_)
 refine wp_seq_k fun K1 hK1=>?_
 refine zaa ?_
 refine ti S (cs:=(aL b1 x1 y1)) (zaH rfl (S.at 0 rfl) rfl) (fun g1=>[⟨g1,27,(aL b1 x1 y1)⟩]) fun g1 a V1 hgg1 S=>?_
 refine ti S (cs:=(aL b2 x2 y2)) (zaH rfl (S.at 2 rfl) rfl) (fun g2=>[⟨g1,27,(aL b1 x1 y1)⟩,⟨g2,27,(aL b2 x2 y2)⟩]) fun g2 a V2 hgg2 S=>?_
 refine ti S (cs:=[.bool false,.slice none 0 0,.slice none 0 0]) (zap rfl (Tryz.zeroValue27 _) rfl) (fun g3=>[⟨g1,27,(aL b1 x1 y1)⟩,⟨g2,27,(aL b2 x2 y2)⟩,⟨g3,27,[.bool false,.slice none 0 0,.slice none 0 0]⟩]) fun g3 a V3 hgg3 S=>?_
 refine hK1 _ _ ?_
 refine wp_seq_k fun K2 hK2=>?_
 obtain⟨W1,hW1⟩:∃W,W=V3:=⟨_,rfl⟩
 rw[←hW1]at S ⊢
 have S0:=S
 refine fr 6 [6,7,8,9,10,5] [IsV ((aG b1 x1 y1)),QM (max K 1) (q1),IsV ((aG b2 x2 y2)),QM (max K' 1) (q2),QM ((max K 1)+(max K' 1)+1) (q1+q2),RBx (W1) (75) ([.bool false,.slice none 0 0,.slice none 0 0])] S ?_ ?_
 ·refine sc (fun _ _ S _ _=>sv rfl (zab rfl (S.at 2 rfl) (S.bx 0 rfl) Tryz.underlying27 rfl (vs:=(aL b1 x1 y1)) zae rfl)) ?_
  refine sc (fun _ _ S _ hd=>sl rfl (rc1 Tryz.func86 (hd.v 0 rfl rfl)) (zbA (show Q1 K (q1) ((aG b1 x1 y1)) _ from⟨b1,x1,y1,rfl,hq1,hk1,hk2,(S.num 2 rfl),(S.num 3 rfl)⟩) (by omega))) ?_
  refine sc (fun _ _ S _ _=>sv rfl (zab rfl (S.at 1 rfl) (S.bx 1 rfl) Tryz.underlying27 rfl (vs:=(aL b2 x2 y2)) zae rfl)) ?_
  refine sc (fun _ _ S _ hd=>sl rfl (rc1 Tryz.func86 (hd.v 2 rfl rfl)) (zbA (show Q1 K' (q2) ((aG b2 x2 y2)) _ from⟨b2,x2,y2,rfl,hq2,hk3,hk4,(S.num 0 rfl),(S.num 1 rfl)⟩) (by omega))) ?_
  refine sc (fun _ _ S _ hd=>sl rfl (rc2 Tryz.func101 rfl rfl) (zlh (T.keep S.below) (hd.r 1 rfl rfl) (hd.r 3 rfl rfl) (by omega) (by omega))) ?_
  refine sc (fun _ _ _ hB _=>sy rfl (zlJ (cs:=[.bool false,.slice none 0 0,.slice none 0 0]) (zap rfl (Tryz.zeroValue75 _) rfl) hB.size)) ?_
  exact sn
 ·intro a1 V4 S hB hf
  obtain⟨b3,x3,y3,hv1,hq3,hk5,hk6,ok5,ok6⟩:=hf.r 4 rfl rfl
  have S:=S.add hv1
  have S:=S.know ok5
  have S:=S.know ok6
  obtain⟨g4,hvg4,hgg4,hbg4⟩:=hf.r 5 rfl rfl
  have S:=Frm.box (S.add hvg4) S0 hgg4 hbg4 rfl
  have S:Frm 18 [(5,pT g4 0),(10,(aG b3 x3 y3)),(4,pT g3 0),(3,pT g2 0),(2,pT g1 0),(0,(aG b1 x1 y1)),(1,(aG b2 x2 y2))] [⟨g1,27,(aL b1 x1 y1)⟩,⟨g2,27,(aL b2 x2 y2)⟩,⟨g3,27,[.bool false,.slice none 0 0,.slice none 0 0]⟩,⟨g4,75,[.bool false,.slice none 0 0,.slice none 0 0]⟩] V _ _ _:=S
  clear hf S0
  show wpList _ _ _ [_] _ _
  refine zal S (i:=3) (vs:=(aL b3 x3 y3)) rfl (fun ht=>zah rfl (S.at 0 rfl) (S.at 1 rfl) zaF rfl (zuz rfl) ht) (zuz rfl) rfl rfl rfl (lb':=[⟨g1,27,(aL b1 x1 y1)⟩,⟨g2,27,(aL b2 x2 y2)⟩,⟨g3,27,[.bool false,.slice none 0 0,.slice none 0 0]⟩,⟨g4,75,(aL b3 x3 y3)⟩]) rfl (fun V5 S=>?_)
  refine hK2 _ _ ?_
  refine wp_seq_k fun K3 hK3=>?_
  obtain⟨W2,hW2⟩:∃W,W=V5:=⟨_,rfl⟩
  rw[←hW2]at S ⊢
  have S0:=S
  refine fr 7 [11,12,13,14,15,16,17] [IsV (pT g4 0),IsV ((aZ b3 x3)),IsV (pT g4 2),IsV (aS y3),NT (((max K 1)+(max K' 1)+1)+1) (y3.N*2^1),QA (max ((max K 1)+(max K' 1)+1) (((max K 1)+(max K' 1)+1)+1)) (zOf b3 x3.N) (y3.N*2^1),QT (max ((max K 1)+(max K' 1)+1) (((max K 1)+(max K' 1)+1)+1)) ((q1+q2)/2)] S ?_ ?_
  ·refine sc (fun _ _ S _ _=>sv rfl (zaf rfl (S.at 0 rfl) (zaw _))) ?_
   refine sc (fun _ _ S _ hd=>sv rfl (zab rfl (hd.v 0 rfl rfl) (S.bx 3 rfl) Tryz.underlying73 rfl (vs:=[.bool b3,aS x3]) zbw rfl)) ?_
   refine sc (fun _ _ S _ _=>sv rfl (zaf rfl (S.at 0 rfl) (zaN _))) ?_
   refine sc (fun _ _ S _ hd=>sv rfl (zar rfl (hd.v 2 rfl rfl) (S.bx 3 rfl) (Tryz.isAgg23 _) rfl)) ?_
   refine sc (fun _ _ S _ hd=>sl rfl (zuf Tryz.func106 (hd.v 3 rfl rfl)) (pUp (k:=1) (show N1 ((max K 1)+(max K' 1)+1) (y3.N) (aS y3) _ from⟨y3,rfl,rfl,hk6,(S.num 0 rfl)⟩) (by omega) (by omega))) ?_
   refine sc (fun _ _ S _ hd=>by
    obtain⟨v,hv,hq⟩:=zss (T:=75) (K3:=(max ((max K 1)+(max K' 1)+1) (((max K 1)+(max K' 1)+1)+1))) (by decide) (show Z1 ((max K 1)+(max K' 1)+1) (zOf b3 x3.N) ((aZ b3 x3)) _ from⟨b3,x3,rfl,rfl,hk5,(S.num 1 rfl)⟩) ((hd.r 4 rfl rfl)).any (by omega) (by omega)
    exact sv rfl (zaL rfl (hd.v 1 rfl rfl) rfl hv) hq) ?_
   refine sc (fun _ _ S _ hd=>sl rfl (rc1 Tryz.func78 rfl) (zdw (T.keep S.below) (((hd.r 5 rfl rfl)).qm (zsY hq3)) (by omega))) ?_
   exact sn
  ·intro a2 V6 S hB hf
   obtain⟨b4,x4,y4,hv2,hq4,hk7,hk8,ok7,ok8⟩:=hf.r 6 rfl rfl
   have S:=S.add hv2
   have S:=S.know ok7
   have S:=S.know ok8
   clear hf S0
   show wpList _ _ _ [_] _ _
   refine zal S (i:=2) (vs:=(aL b4 x4 y4)) rfl (fun ht=>zah rfl (S.at 3 rfl) (S.at 0 rfl) zae rfl (zuz rfl) ht) (zuz rfl) rfl rfl rfl (lb':=[⟨g1,27,(aL b1 x1 y1)⟩,⟨g2,27,(aL b2 x2 y2)⟩,⟨g3,27,(aL b4 x4 y4)⟩,⟨g4,75,(aL b3 x3 y3)⟩]) rfl (fun V7 S=>?_)
   refine hK3 _ _ ?_
   refine wp_ret ?_
   exact za1 rfl S (S.at 3 rfl) (i:=2) rfl Tryz.underlying27 rfl zae ⟨_,rfl,((show QT (max ((max K 1)+(max K' 1)+1) (((max K 1)+(max K' 1)+1)+1)) ((q1+q2)/2) ((aG b4 x4 y4)) _ from⟨b4,x4,y4,rfl,hq4,hk7,hk8,(S.num 1 rfl),(S.num 0 rfl)⟩)).to (zq9 q1 q2) (by omega),S.below⟩
theorem ztW {K K':Nat}{q1 q2:Rat}{v1 v2:Value}{V:World}(T:TT V)(h1:Q1 K (q1) v1 V)(h2:Q1 K' (q2) v2 V)(hK0:K≤1000)(hK1:K'≤1000):
  Calls Tryz.prog 13 #[v1,v2] V (zao V (QE (max K 1+max K' 1) (q1/q2) (erq q2))):=by
 obtain⟨b1,x1,y1,rfl,hq1,hk1,hk2,ok1,ok2⟩:=h1
 obtain⟨b2,x2,y2,rfl,hq2,hk3,hk4,ok3,ok4⟩:=h2
 refine zaD (e:=[x2,y2,x1,y1]) Tryz.func13 rfl Tryz.ntmps13 (zuz rfl) [(0,(aG b1 x1 y1)),(1,(aG b2 x2 y2))] rfl (zak ok3 (zak ok4 (zak ok1 (zak ok2 zaW)))) (fun a S=>?_)
 refine wp_seq_k fun K1 hK1=>?_
 refine zaa ?_
 refine ti S (cs:=(aL b1 x1 y1)) (zaH rfl (S.at 0 rfl) rfl) (fun g1=>[⟨g1,27,(aL b1 x1 y1)⟩]) fun g1 a V1 hgg1 S=>?_
 refine ti S (cs:=(aL b2 x2 y2)) (zaH rfl (S.at 2 rfl) rfl) (fun g2=>[⟨g1,27,(aL b1 x1 y1)⟩,⟨g2,27,(aL b2 x2 y2)⟩]) fun g2 a V2 hgg2 S=>?_
 refine ti S (cs:=[.bool false,.slice none 0 0,.slice none 0 0]) (zap rfl (Tryz.zeroValue27 _) rfl) (fun g3=>[⟨g1,27,(aL b1 x1 y1)⟩,⟨g2,27,(aL b2 x2 y2)⟩,⟨g3,27,[.bool false,.slice none 0 0,.slice none 0 0]⟩]) fun g3 a V3 hgg3 S=>?_
 refine tv S (zau rfl) fun a S=>?_
 refine hK1 _ _ ?_
 refine wp_seq_k fun K2 hK2=>?_
 obtain⟨W1,hW1⟩:∃W,W=V3:=⟨_,rfl⟩
 rw[←hW1]at S ⊢
 have S0:=S
 refine frs [(75,3)] [some 8,some 9,some 10,some 11,some 6,some 7,none,none] [IsV ((aG b1 x1 y1)),QM (max K 1) (q1),IsV ((aG b2 x2 y2)),QM (max K' 1) (q2),zcQ,zcQ,zcQ,zcQ] [⟨4,6,75,[.bool false,.slice none 0 0,.slice none 0 0]⟩,⟨5,7,75,[.bool false,.slice none 0 0,.slice none 0 0]⟩] [⟨6,6,75,QM (max K 1) (q1)⟩,⟨7,7,75,QM (max K' 1) (q2)⟩] [] (lb:=[⟨g1,27,(aL b1 x1 y1)⟩,⟨g2,27,(aL b2 x2 y2)⟩,⟨g3,27,[.bool false,.slice none 0 0,.slice none 0 0]⟩]) S (all_cons (zc4 0 rfl rfl) (all_cons (zc4 1 rfl rfl) zat)) ?_ (all_cons ⟨rfl,_,rfl,rfl,rfl,fun _ _ _=>(zap rfl (Tryz.zeroValue75 _) rfl)⟩ (all_cons ⟨rfl,_,rfl,rfl,rfl,fun _ _ _=>(zap rfl (Tryz.zeroValue75 _) rfl)⟩ zat)) (all_cons ⟨_,3,rfl,rfl,rfl,List.mem_of_getElem? (i:=0) rfl,(all_cons (fun h=>⟨rfl,rfl⟩) (all_cons (fun h=>by cases h) zat)),zat,fun _ _ _ _ hg hd=>zcN (hd.r 1 rfl rfl) (hd.r 1 rfl rfl).parts rfl hg rfl zaF⟩ (all_cons ⟨_,3,rfl,rfl,rfl,List.mem_of_getElem? (i:=0) rfl,(all_cons (fun h=>by cases h) (all_cons (fun h=>⟨rfl,rfl⟩) zat)),zat,fun _ _ _ _ hg hd=>zcN (hd.r 3 rfl rfl) (hd.r 3 rfl rfl).parts rfl hg rfl zaF⟩ zat)) zat ?_
 ·refine va (fun _ _ S _ _ _=>sv rfl (zab rfl (S.at 3 rfl) (S.bx 0 rfl) Tryz.underlying27 rfl (vs:=(aL b1 x1 y1)) zae rfl)) ?_
  refine va (fun _ _ S _ hd _=>sl rfl (rc1 Tryz.func86 (hd.v 0 rfl rfl)) (zbA (show Q1 K (q1) ((aG b1 x1 y1)) _ from⟨b1,x1,y1,rfl,hq1,hk1,hk2,(S.num 2 rfl),(S.num 3 rfl)⟩) (by omega))) ?_
  refine va (fun _ _ S _ _ _=>sv rfl (zab rfl (S.at 2 rfl) (S.bx 1 rfl) Tryz.underlying27 rfl (vs:=(aL b2 x2 y2)) zae rfl)) ?_
  refine va (fun _ _ S _ hd _=>sl rfl (rc1 Tryz.func86 (hd.v 2 rfl rfl)) (zbA (show Q1 K' (q2) ((aG b2 x2 y2)) _ from⟨b2,x2,y2,rfl,hq2,hk3,hk4,(S.num 0 rfl),(S.num 1 rfl)⟩) (by omega))) ?_
  refine vb ?_
  refine vb ?_
  refine vs ?_
  refine vs ?_
  exact vn
 ·intro a1 V4 S hB hf hl hdis hs hp
  obtain⟨g4,csg4,hvg4,hgg4,hbg4,hlg4,hng4,hkg4⟩:=hl _ (List.mem_of_getElem? (i:=0) rfl)
  obtain⟨g5,csg5,hvg5,hgg5,hbg5,hlg5,hng5,hkg5⟩:=hl _ (List.mem_of_getElem? (i:=1) rfl)
  have hne_g4_g5:g4≠g5:=fun h=>hdis _ (List.mem_of_getElem? (i:=0) rfl) _ (List.mem_of_getElem? (i:=1) rfl) (by decide) (hvg4.trans (h▸hvg5.symm))
  obtain⟨gs1,vsgs1,hvgs1,-,hbgs1,hngs1,hPgs1⟩:=hs _ (List.mem_of_getElem? (i:=0) rfl)
  have hegs1:=zch ((hvg4).symm.trans hvgs1)
  subst hegs1
  obtain⟨b3,x3,y3,hv1,hq3,hk5,hk6,ok5,ok6⟩:=(show QM (max K 1) (q1) (.agg vsgs1.toArray) V4 from hPgs1)
  have hvsgs1:=zci (ws:=(aL b3 x3 y3)) hv1
  subst hvsgs1
  have S:=S.know ok5
  have S:=S.know ok6
  obtain⟨gs2,vsgs2,hvgs2,-,hbgs2,hngs2,hPgs2⟩:=hs _ (List.mem_of_getElem? (i:=1) rfl)
  have hegs2:=zch ((hvg5).symm.trans hvgs2)
  subst hegs2
  obtain⟨b4,x4,y4,hv2,hq4,hk7,hk8,ok7,ok8⟩:=(show QM (max K' 1) (q2) (.agg vsgs2.toArray) V4 from hPgs2)
  have hvsgs2:=zci (ws:=(aL b4 x4 y4)) hv2
  subst hvsgs2
  have S:=S.know ok7
  have S:=S.know ok8
  have S:=Frm.readd (S.add hvg4) (zuC S0.below.size hgg4) hbgs1 rfl (zaR (zax (S0.lt 0 rfl) hgg4) (zaR (zax (S0.lt 1 rfl) hgg4) (zaR (zax (S0.lt 2 rfl) hgg4) zcM)))
  have S:=Frm.readd (S.add hvg5) (zuC S0.below.size hgg5) hbgs2 rfl (zaR (zax (S0.lt 0 rfl) hgg5) (zaR (zax (S0.lt 1 rfl) hgg5) (zaR (zax (S0.lt 2 rfl) hgg5) (zaR hne_g4_g5 zcM))))
  have S:Frm 22 [(7,pT g5 0),(6,pT g4 0),(5,.int .i64 0),(4,pT g3 0),(3,pT g2 0),(2,pT g1 0),(0,(aG b1 x1 y1)),(1,(aG b2 x2 y2))] [⟨g1,27,(aL b1 x1 y1)⟩,⟨g2,27,(aL b2 x2 y2)⟩,⟨g3,27,[.bool false,.slice none 0 0,.slice none 0 0]⟩,⟨g4,75,(aL b3 x3 y3)⟩,⟨g5,75,(aL b4 x4 y4)⟩] V _ _ _:=S
  clear hf hl hdis hs hp S0
  refine hK2 _ _ ?_
  refine wp_seq_k fun K3 hK3=>?_
  refine wp_seq_k fun K4 hK4=>?_
  have hq2z:qOf b4 x4.N y4.N=q2∧y4.N≠0:=⟨hq4.2,hq4.1⟩
  refine zaa ?_
  refine tv S (zaf rfl (S.at 0 rfl) (zaw _)) fun a S=>?_
  refine tv S (zab rfl (S.at 0 rfl) (S.bx 4 rfl) Tryz.underlying73 rfl (vs:=[.bool b4,aS x4]) zbw rfl) fun a S=>?_
  refine tc S (F:=(fun v _=>v= .int .i64 (Int.sign (zOf b4 x4.N)))) (rc1 Tryz.func87 (S.at 0 rfl)) (ziY (T.keep S.below) (show Z1 (max K' 1) (zOf b4 x4.N) ((aZ b4 x4)) _ from⟨b4,x4,rfl,rfl,hk7,(S.num 1 rfl)⟩) (by omega)) fun v a V5 hF hb S=>?_
  subst hF
  refine tv S (zct _ (by decide) rfl (S.at 0 rfl) rfl) fun a S=>?_
  refine hK4 _ _ ?_
  rcases zuJ (decide (Int.sign (zOf b4 x4.N)=0))with hc15|hc15
  ·refine wp_cond_true ((S.at 0 rfl).trans (congrArg Value.bool hc15)) ?_
   refine wp_seq_k fun K5 hK5=>?_
   refine zaa ?_
   refine tc S (F:=QT 1 ((0:Rat))) (rcc Tryz.func22) zj5 fun v a V6 hF hb S=>?_
   obtain⟨b5,x5,y5,rfl,hq5,hk9,hk10,ok9,ok10⟩:=hF
   have S:=S.know ok9
   have S:=S.know ok10
   refine zal S (i:=2) (vs:=(aL b5 x5 y5)) rfl (fun ht=>zah rfl (S.at 8 rfl) (S.at 0 rfl) zae rfl (zuz rfl) ht) (zuz rfl) rfl rfl rfl (lb':=[⟨g1,27,(aL b1 x1 y1)⟩,⟨g2,27,(aL b2 x2 y2)⟩,⟨g3,27,(aL b5 x5 y5)⟩,⟨g4,75,(aL b3 x3 y3)⟩,⟨g5,75,(aL b4 x4 y4)⟩]) rfl (fun V7 S=>?_)
   refine zbk S (v:= .int .i64 30) (zau rfl) rfl rfl (by decide) (ls':=[(16,(aG b5 x5 y5)),(15,.bool (decide (Int.sign (zOf b4 x4.N)=0))),(14,.int .i64 (Int.sign (zOf b4 x4.N))),(13,(aZ b4 x4)),(12,pT g5 0),(7,pT g5 0),(6,pT g4 0),(4,pT g3 0),(3,pT g2 0),(2,pT g1 0),(0,(aG b1 x1 y1)),(1,(aG b2 x2 y2))]) rfl (fun a S=>?_)
   refine hK5 _ _ ?_
   refine wp_ret ?_
   exact zbD rfl S (S.at 8 rfl) (i:=2) rfl Tryz.underlying27 rfl zae (S.at 0 rfl) ⟨_,rfl,⟨b5,x5,y5,congrArg (fun z=>Value.tuple #[(aG b5 x5 y5),.int .i64 z]) (show 30=erq q2 from zra (zj4 hc15 hq2z)),(show _=q1/q2 from zli (zj4 hc15 hq2z))▸hq5,zuC hk9 (by omega),zuC hk10 (by omega),(S.num 1 rfl),(S.num 0 rfl)⟩,S.below⟩
  ·refine wp_cond_false ((S.at 0 rfl).trans (congrArg Value.bool hc15)) ?_
   refine wp_skip ?_
   refine hK3 _ _ ?_
   refine wp_seq_k fun K6 hK6=>?_
   have S:=S.keep [7,6,5,4] (ls':=[(7,pT g5 0),(6,pT g4 0),(5,.int .i64 0),(4,pT g3 0)]) rfl
   obtain⟨W2,hW2⟩:∃W,W=V5:=⟨_,rfl⟩
   rw[←hW2]at S ⊢
   have S0:=S
   refine fr 5 [17,18,19,20,21] [IsV ((aG b3 x3 y3)),IsV ((aG b4 x4 y4)),QM (max K' 1) ((q2)⁻¹),QM ((max K 1)+(max K' 1)) (q1*((q2)⁻¹)),QT ((max K 1)+(max K' 1)) (q1*((q2)⁻¹))] S ?_ ?_
   ·refine sc (fun _ _ S _ _=>sv rfl (zab rfl (S.at 1 rfl) (S.bx 3 rfl) Tryz.underlying75 rfl (vs:=(aL b3 x3 y3)) zaF rfl)) ?_
    refine sc (fun _ _ S _ _=>sv rfl (zab rfl (S.at 0 rfl) (S.bx 4 rfl) Tryz.underlying75 rfl (vs:=(aL b4 x4 y4)) zaF rfl)) ?_
    refine sc (fun _ _ S _ hd=>sl rfl (rc1 Tryz.func89 (hd.v 1 rfl rfl)) (ziZ (show QM (max K' 1) (q2) ((aG b4 x4 y4)) _ from⟨b4,x4,y4,rfl,hq4,hk7,hk8,(S.num 1 rfl),(S.num 0 rfl)⟩) (zpc hc15 hq2z))) ?_
    refine sc (fun _ _ S _ hd=>sl rfl (rc2 Tryz.func88 (hd.v 0 rfl rfl) rfl) (ztS (show QM (max K 1) (q1) ((aG b3 x3 y3)) _ from⟨b3,x3,y3,rfl,hq3,hk5,hk6,(S.num 3 rfl),(S.num 2 rfl)⟩) (hd.r 2 rfl rfl) (by omega) (by omega))) ?_
    refine sc (fun _ _ S _ hd=>sl rfl (rc1 Tryz.func78 rfl) (zdw (T.keep S.below) (hd.r 3 rfl rfl) (by omega))) ?_
    exact sn
   ·intro a2 V8 S hB hf
    obtain⟨b6,x6,y6,hv3,hq6,hk11,hk12,ok11,ok12⟩:=hf.r 4 rfl rfl
    have S:=S.add hv3
    have S:=S.know ok11
    have S:=S.know ok12
    clear hf S0
    show wpList _ _ _ [_,_] _ _
    refine zal S (i:=2) (vs:=(aL b6 x6 y6)) rfl (fun ht=>zah rfl (S.at 4 rfl) (S.at 0 rfl) zae rfl (zuz rfl) ht) (zuz rfl) rfl rfl rfl (lb':=[⟨g1,27,(aL b1 x1 y1)⟩,⟨g2,27,(aL b2 x2 y2)⟩,⟨g3,27,(aL b6 x6 y6)⟩,⟨g4,75,(aL b3 x3 y3)⟩,⟨g5,75,(aL b4 x4 y4)⟩]) rfl (fun V9 S=>?_)
    refine zbk S (v:= .int .i64 0) (zau rfl) rfl rfl (by decide) (ls':=[(21,(aG b6 x6 y6)),(7,pT g5 0),(6,pT g4 0),(4,pT g3 0)]) rfl (fun a S=>?_)
    refine hK6 _ _ ?_
    refine wp_ret ?_
    exact zbD rfl S (S.at 4 rfl) (i:=2) rfl Tryz.underlying27 rfl zae (S.at 0 rfl) ⟨_,rfl,⟨b6,x6,y6,congrArg (fun z=>Value.tuple #[(aG b6 x6 y6),.int .i64 z]) (show 0=erq q2 from zsZ (zpc hc15 hq2z)),(show _=q1/q2 from zrb)▸hq6,zuC hk11 (by omega),zuC hk12 (by omega),(S.num 1 rfl),(S.num 0 rfl)⟩,S.below⟩
theorem zml {K:Nat}{q:Rat}{v1:Value}{V:World}(T:TT V)(h1:Q1 K (q) v1 V)(hK0:K≤5000):
  Calls Tryz.prog 39 #[v1] V (zao V (ZT (max K 1+1) q.floor)):=by
 obtain⟨b1,x1,y1,rfl,hq1,hk1,hk2,ok1,ok2⟩:=h1
 refine zaD (e:=[x1,y1]) Tryz.func39 rfl Tryz.ntmps39 (zuz rfl) [(0,(aG b1 x1 y1))] rfl (zak ok1 (zak ok2 zaW)) (fun a S=>?_)
 refine wp_seq_k fun K1 hK1=>?_
 refine zaa ?_
 refine ti S (cs:=(aL b1 x1 y1)) (zaH rfl (S.at 0 rfl) rfl) (fun g1=>[⟨g1,27,(aL b1 x1 y1)⟩]) fun g1 a V1 hgg1 S=>?_
 refine ti S (cs:=[.bool false,.slice none 0 0]) (zap rfl (Tryz.zeroValue25 _) rfl) (fun g2=>[⟨g1,27,(aL b1 x1 y1)⟩,⟨g2,25,[.bool false,.slice none 0 0]⟩]) fun g2 a V2 hgg2 S=>?_
 refine hK1 _ _ ?_
 refine wp_seq_k fun K2 hK2=>?_
 refine zaa ?_
 refine tv S (zab rfl (S.at 1 rfl) (S.bx 0 rfl) Tryz.underlying27 rfl (vs:=(aL b1 x1 y1)) zae rfl) fun a S=>?_
 refine tc S (F:=QM (max K 1) (q)) (rc1 Tryz.func86 (S.at 0 rfl)) (zbA (show Q1 K (q) ((aG b1 x1 y1)) _ from⟨b1,x1,y1,rfl,hq1,hk1,hk2,(S.num 0 rfl),(S.num 1 rfl)⟩) (by omega)) fun v a V3 hF hb S=>?_
 obtain⟨b2,x2,y2,rfl,hq2,hk3,hk4,ok3,ok4⟩:=hF
 have S:=S.know ok3
 have S:=S.know ok4
 refine ti S (cs:=[.bool false,.slice none 0 0,.slice none 0 0]) (zap rfl (Tryz.zeroValue75 _) rfl) (fun g3=>[⟨g1,27,(aL b1 x1 y1)⟩,⟨g2,25,[.bool false,.slice none 0 0]⟩,⟨g3,75,[.bool false,.slice none 0 0,.slice none 0 0]⟩]) fun g3 a V4 hgg3 S=>?_
 refine zal S (i:=2) (vs:=(aL b2 x2 y2)) rfl (fun ht=>zah rfl (S.at 0 rfl) (S.at 1 rfl) zaF rfl (zuz rfl) ht) (zuz rfl) rfl rfl rfl (lb':=[⟨g1,27,(aL b1 x1 y1)⟩,⟨g2,25,[.bool false,.slice none 0 0]⟩,⟨g3,75,(aL b2 x2 y2)⟩]) rfl (fun V5 S=>?_)
 refine hK2 _ _ ?_
 refine wp_seq_k fun K3 hK3=>?_
 refine zaa ?_
 refine tv S (zaf rfl (S.at 0 rfl) (zaw _)) fun a S=>?_
 refine tv S (zaf rfl (S.at 0 rfl) (zay _)) fun a S=>?_
 refine tv S (zab rfl (S.at 0 rfl) (S.bx 2 rfl) Tryz.underlying25 rfl (vs:=[.bool b2,aS x2]) zav rfl) fun a S=>?_
 refine tv S (zaf rfl (S.at 3 rfl) (zaN _)) fun a S=>?_
 refine tv S (zar rfl (S.at 0 rfl) (S.bx 2 rfl) (Tryz.isAgg23 _) rfl) fun a S=>?_
 refine tv S (zbp rfl (S.at 0 rfl) (zdQ _ _ _)) fun a S=>?_
 refine tc S (F:=ZDiv (max K 1) (max K 1) (zOf b2 x2.N) (zOf false y2.N)) (rc2 Tryz.func107 (S.at 3 rfl) (S.at 0 rfl)) (zud (T.keep S.below) (show Z1 (max K 1) (zOf b2 x2.N) ((aZ b2 x2)) _ from⟨b2,x2,rfl,rfl,hk3,(S.num 1 rfl)⟩) (show Z1 (max K 1) (zOf false y2.N) ((aZ false y2)) _ from⟨false,y2,rfl,congrArg (zOf false) rfl,hk4,(S.num 0 rfl)⟩) (by omega) (by omega)) fun v a V6 hF hb S=>?_
 obtain⟨tv1,tv2,rfl,tf1,tf2⟩:=hF
 obtain⟨b3,x3,rfl,hz1,hk5,ok5⟩:=tf1
 obtain⟨b4,x4,rfl,hz2,hk6,ok6⟩:=tf2
 have S:=S.know ok6
 have S:=S.know ok5
 refine tv S (zad rfl (S.at 0 rfl)) fun a S=>?_
 refine tv S (zaq rfl (S.at 0 rfl) rfl) fun a S=>?_
 refine tv S (zaq rfl (S.at 1 rfl) rfl) fun a S=>?_
 refine tv S (zaq rfl (S.at 2 rfl) rfl) fun a S=>?_
 refine ti S (cs:=[.bool false,.slice none 0 0]) (zap rfl (Tryz.zeroValue25 _) rfl) (fun g4=>[⟨g1,27,(aL b1 x1 y1)⟩,⟨g2,25,[.bool false,.slice none 0 0]⟩,⟨g3,75,(aL b2 x2 y2)⟩,⟨g4,25,[.bool false,.slice none 0 0]⟩]) fun g4 a V7 hgg4 S=>?_
 refine ti S (cs:=[.bool false,.slice none 0 0]) (zap rfl (Tryz.zeroValue25 _) rfl) (fun g5=>[⟨g1,27,(aL b1 x1 y1)⟩,⟨g2,25,[.bool false,.slice none 0 0]⟩,⟨g3,75,(aL b2 x2 y2)⟩,⟨g4,25,[.bool false,.slice none 0 0]⟩,⟨g5,25,[.bool false,.slice none 0 0]⟩]) fun g5 a V8 hgg5 S=>?_
 refine zal S (i:=3) (vs:=[.bool b3,aS x3]) rfl (fun ht=>zah rfl (S.at 1 rfl) (S.at 4 rfl) zav rfl (zuz rfl) ht) (zuz rfl) rfl rfl rfl (lb':=[⟨g1,27,(aL b1 x1 y1)⟩,⟨g2,25,[.bool false,.slice none 0 0]⟩,⟨g3,75,(aL b2 x2 y2)⟩,⟨g4,25,[.bool b3,aS x3]⟩,⟨g5,25,[.bool false,.slice none 0 0]⟩]) rfl (fun V9 S=>?_)
 refine zal S (i:=4) (vs:=[.bool b4,aS x4]) rfl (fun ht=>zah rfl (S.at 0 rfl) (S.at 3 rfl) zav rfl (zuz rfl) ht) (zuz rfl) rfl rfl rfl (lb':=[⟨g1,27,(aL b1 x1 y1)⟩,⟨g2,25,[.bool false,.slice none 0 0]⟩,⟨g3,75,(aL b2 x2 y2)⟩,⟨g4,25,[.bool b3,aS x3]⟩,⟨g5,25,[.bool b4,aS x4]⟩]) rfl (fun V10 S=>?_)
 refine tv S (zam rfl (S.at 2 rfl)) fun a S=>?_
 refine hK3 _ _ ?_
 refine wp_seq_k fun K4 hK4=>?_
 have S:=S.keep [4,2] (ls':=[(4,pT g4 0),(2,pT g2 0)]) rfl
 refine zaa ?_
 refine tv S (zab rfl (S.at 0 rfl) (S.bx 3 rfl) Tryz.underlying25 rfl (vs:=[.bool b3,aS x3]) zav rfl) fun a S=>?_
 refine zal S (i:=1) (vs:=[.bool b3,aS x3]) rfl (fun ht=>zah rfl (S.at 2 rfl) (S.at 0 rfl) zav rfl (zuz rfl) ht) (zuz rfl) rfl rfl rfl (lb':=[⟨g1,27,(aL b1 x1 y1)⟩,⟨g2,25,[.bool b3,aS x3]⟩,⟨g3,75,(aL b2 x2 y2)⟩,⟨g4,25,[.bool b3,aS x3]⟩,⟨g5,25,[.bool b4,aS x4]⟩]) rfl (fun V11 S=>?_)
 refine hK4 _ _ ?_
 refine wp_ret ?_
 exact za1 rfl S (S.at 2 rfl) (i:=1) rfl Tryz.underlying25 rfl zav ⟨_,rfl,((show ZT ((max K 1)+1) (Int.fdiv (zOf b2 x2.N) (zOf false y2.N)) ((aZ b3 x3)) _ from⟨b3,x3,rfl,hz1,hk5,(S.num 0 rfl)⟩)).to (zpd hq2) (by omega),S.below⟩
end Go.Proofs.YtafokgknenienaaGreatDoor
