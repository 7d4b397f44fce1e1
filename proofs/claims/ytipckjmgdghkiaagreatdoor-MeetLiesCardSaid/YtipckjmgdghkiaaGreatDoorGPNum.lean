/- A part. -/
import Derived.Test.YtipckjmgdghkiaaGreatDoorGRPro
set_option maxHeartbeats 4000000
set_option maxRecDepth 100000
namespace Go.Proofs.YtipckjmgdghkiaaGreatDoor
open Go Go.RowKit
variable {v v' v1 v2:Value}{V V':World}{K K' N M:Nat}{q q' q1 q2:Rat}{Z Z':Int}
theorem zkG (N:Nat):decide (((bitsN N:Nat):Int)=0)=decide (N=0):=by
 rw[decide_eq_decide]
 unfold bitsN
 by_cases h:N=0
 ·simp[h]
 ·simp[h];omega
theorem zh9 {b:Bool}{x y z:Num}(h0:y.N=0)(hq:qOf b x.N y.N=q)(hz:z.N=1):qOf false (⟨none,0,0,0⟩:Num).N z.N=q:=by
 rw[<-hq,h0,hz];simp[qOf,zOf]
theorem zoa {b:Bool}{y:Num}(hz:zOf b y.N=Z):zOf b (y.N*N)=Z*(N:Nat):=by
 rw[<-hz];cases b <;> simp[zOf,Int.neg_mul]
theorem zmZ (b:Bool){x y p r:Num}(h0:y.N≠0)(hq:qOf b x.N y.N=q)(h1:p.N=x.N/Nat.gcd x.N y.N)(h2:p.n=lenL (x.N/Nat.gcd x.N y.N))(h3:r.N=y.N/Nat.gcd x.N y.N)(h4:r.n=lenL (y.N/Nat.gcd x.N y.N)){u:Bool}(hu:u=(b&&decide ((0:Int)<((p.n:Nat):Int)))):IsQ q u p r:=by
 subst hq
 have hp:=zdH (z:=zOf b x.N) h0
 have ha:=zd1 (z:=zOf b x.N) h0
 rw[zbu]at hp ha
 have e1:p.N=(mkRat (zOf b x.N) y.N).num.natAbs:=by rw[ha.1];exact h1
 refine⟨?_,e1,by rw[h2,h1],by rw[h3];exact hp.2.symm,by rw[h4,h3]⟩
 rw[hu]
 show _=decide ((mkRat (zOf b x.N) y.N).num<0)
 rw[ha.2]
 cases b
 ·rw[zbQ];simp
 ·rw[zce,Bool.true_and,decide_eq_decide]
  have e2:p.n=lenL p.N:=by rw[h2,h1]
  have hg:0<Nat.gcd x.N y.N:=Nat.gcd_pos_of_pos_right _ (by omega)
  have hd:Nat.gcd x.N y.N∣x.N:=Nat.gcd_dvd_left _ _
  by_cases hx:x.N=0
  ·rw[hx,Nat.zero_div]at h1
   rw[e2,h1,zaS,hx];simp
  ·have h5:p.N≠0:=by
    rw[h1]
    have:=Nat.div_mul_cancel hd
    intro h6
    rw[h6]at this;omega
   have:=zcd h5
   omega
theorem ziC {a b:Nat}:zcj a b=0↔a=b:=by
 unfold zcj;split
 ·simp;omega
 ·split
  ·simp;omega
  ·simp;omega
theorem ztR {z1 z2:Int}{d1 d2:Nat}(h1:d1≠0)(h2:d2≠0):zan (mkRat z1 d1) (mkRat z2 d2)=zcw (z1*(d2:Nat)) (z2*(d1:Nat)):=by
 have p1:(0:Rat)<(d1:Nat):=Rat.natCast_pos.mpr (by omega)
 have p2:(0:Rat)<(d2:Nat):=Rat.natCast_pos.mpr (by omega)
 have e1:mkRat z1 d1*(d1:Nat)=(z1:Int):=by rw[Rat.mkRat_eq_div];grind
 have e2:mkRat z2 d2*(d2:Nat)=(z2:Int):=by rw[Rat.mkRat_eq_div];grind
 have p3:(0:Rat)<(d1:Nat)*(d2:Nat):=Rat.mul_pos p1 p2
 have a1:((z1*(d2:Nat):Int):Rat)=mkRat z1 d1*((d1:Nat)*(d2:Nat)):=by rw[Rat.intCast_mul,<-e1,show(((d2:Nat):Int):Rat)=(d2:Nat)from rfl];grind
 have a2:((z2*(d1:Nat):Int):Rat)=mkRat z2 d2*((d1:Nat)*(d2:Nat)):=by rw[Rat.intCast_mul,<-e2,show(((d1:Nat):Int):Rat)=(d1:Nat)from rfl];grind
 have key:∀a b:Rat,∀m n:Int,(m:Rat)=a*((d1:Nat)*(d2:Nat))->(n:Rat)=b*((d1:Nat)*(d2:Nat))->(a<b↔m<n):=fun a b m n hm hn=>by
  rw[<-Rat.intCast_lt_intCast,hm,hn];exact(Rat.mul_lt_mul_right p3).symm
 unfold zan zcw
 simp only[key _ _ _ _ a1 a2,key _ _ _ _ a2 a1]
theorem ziD {b b':Bool}{x y x' y':Num}(h:y.N≠0/\qOf b x.N y.N=q1)(h':y'.N≠0/\qOf b' x'.N y'.N=q2):zcw (zOf b x.N*((y'.N:Nat):Int)) (zOf b' x'.N*((y.N:Nat):Int))=zan q1 q2:=by
 rw[<-h.2,<-h'.2];exact(ztR h.1 h'.1).symm
theorem zp9 (a b:Int){d:Int}(h:0<d):zcw (a*d) (b*d)=zcw a b:=by
 unfold zcw
 simp only[Int.mul_lt_mul_right h]
theorem zqa {b b':Bool}{x y x' y':Num}(hc:decide (zcj y.N y'.N=0)=true)(h:y.N≠0/\qOf b x.N y.N=q1)(h':y'.N≠0/\qOf b' x'.N y'.N=q2):zcw (zOf b x.N) (zOf b' x'.N)=zan q1 q2:=by
 have e:=ziC.1 (of_decide_eq_true hc)
 rw[<-ziD h h',<-e,zp9 _ _ (by have:=h.1;omega)]
theorem zuT {b:Bool}{x y:Num}(h:y.N≠0/\qOf b x.N y.N=q):y.N≠0/\qOf (!b) x.N y.N= -q:=by
 refine⟨h.1,?_⟩
 rw[<-h.2]
 unfold qOf
 rw[Rat.neg_mkRat]
 cases b <;> simp[zOf]
theorem zuU {b:Bool}{x y:Num}(h:y.N≠0/\qOf b x.N y.N=q)(hq:q≠0):x.N≠0/\qOf b y.N x.N=q⁻¹ :=by
 have hx:x.N≠0:=by
  intro h0
  apply hq
  rw[<-h.2,h0]
  cases b <;> simp[qOf,zOf]
 refine⟨hx,?_⟩
 rw[<-h.2]
 unfold qOf
 have p1:((x.N:Nat):Rat)≠0:=fun h=>hx (by exact_mod_cast h)
 have p2:((y.N:Nat):Rat)≠0:=fun h2=>h.1 (by exact_mod_cast h2)
 rw[Rat.mkRat_eq_div,Rat.mkRat_eq_div]
 cases b
 ·rw[zbQ,zbQ]
  show((y.N:Nat):Rat)/(x.N:Nat)=(((x.N:Nat):Rat)/(y.N:Nat))⁻¹
  grind
 ·rw[zce,zce,Rat.intCast_neg,Rat.intCast_neg]
  show -((y.N:Nat):Rat)/(x.N:Nat)=(-((x.N:Nat):Rat)/(y.N:Nat))⁻¹
  grind
theorem zuV {b b' u:Bool}{x y x' y' p r:Num}(h:y.N≠0/\qOf b x.N y.N=q1)(h':y'.N≠0/\qOf b' x'.N y'.N=q2)(h1:zOf u p.N=zOf (b != b') (x.N*x'.N))(h2:r.N=y.N*y'.N):r.N≠0/\qOf u p.N r.N=q1*q2:=by
 refine⟨by rw[h2];exact Nat.mul_ne_zero h.1 h'.1,?_⟩
 rw[<-h.2,<-h'.2]
 unfold qOf
 rw[Rat.mkRat_mul_mkRat,h1,h2]
 congr 1
 cases b <;> cases b' <;> simp[zOf,Int.neg_mul,Int.mul_neg]
theorem ztS {b:Bool}{x:Num}{Z:Int}(h:b=decide (Z<0)/\x.N=Z.natAbs/\x.n=lenL Z.natAbs):zOf b x.N=Z:=by rw[h.1,h.2.1];exact zc7 Z
theorem zob {b b' u:Bool}{x y x' y' p r:Num}(h:y.N≠0/\qOf b x.N y.N=q1)(h':y'.N≠0/\qOf b' x'.N y'.N=q2)(hz:zOf u p.N=zOf b x.N*((y'.N:Nat):Int)+zOf b' x'.N*((y.N:Nat):Int))(h2:r.N=y.N*y'.N):r.N≠0/\qOf u p.N r.N=q1+q2:=by
 refine⟨by rw[h2];exact Nat.mul_ne_zero h.1 h'.1,?_⟩
 rw[<-h.2,<-h'.2]
 unfold qOf
 rw[Rat.mkRat_add_mkRat _ _ h.1 h'.1,hz,h2]
theorem zr4 {b b' u:Bool}{x y x' y' p r:Num}(h:y.N≠0/\qOf b x.N y.N=q1)(h':y'.N≠0/\qOf b' x'.N y'.N=q2)(hz:zOf u p.N=zOf b x.N*((y'.N/Nat.gcd y.N y'.N:Nat):Int)+zOf b' x'.N*((y.N/Nat.gcd y.N y'.N:Nat):Int))(h2:r.N=y.N*(y'.N/Nat.gcd y.N y'.N)):r.N≠0/\qOf u p.N r.N=q1+q2:=by
 have hg:0<Nat.gcd y.N y'.N:=Nat.gcd_pos_of_pos_left _ (by have:=h.1;omega)
 obtain⟨c,hc⟩:=Nat.gcd_dvd_left y.N y'.N
 obtain⟨d,hd⟩:=Nat.gcd_dvd_right y.N y'.N
 have e1:y.N/Nat.gcd y.N y'.N=c:=by
  conv=>lhs;lhs;rw[hc]
  exact Nat.mul_div_cancel_left _ hg
 have e2:y'.N/Nat.gcd y.N y'.N=d:=by
   conv=>lhs;lhs;rw[hd]
   exact Nat.mul_div_cancel_left _ hg
 rw[e1,e2]at hz
 rw[e2]at h2
 generalize Nat.gcd y.N y'.N=g at hg hc hd
 have hd0:d≠0:=by intro h0;rw[h0,Nat.mul_zero]at hd;exact h'.1 hd
 refine⟨by rw[h2];exact Nat.mul_ne_zero h.1 hd0,?_⟩
 rw[<-h.2,<-h'.2]
 unfold qOf
 rw[Rat.mkRat_add_mkRat _ _ h.1 h'.1,hz,h2]
 have hyd:y.N*d≠0:=Nat.mul_ne_zero h.1 hd0
 rw[Rat.mkRat_eq_iff hyd (Nat.mul_ne_zero h.1 h'.1)]
 rw[hc,hd]
 simp only[Int.natCast_mul]
 grind
theorem zqb {b b' u:Bool}{x y x' y' p:Num}(hc:decide (zcj y.N y'.N=0)=true)(h:y.N≠0/\qOf b x.N y.N=q1)(h':y'.N≠0/\qOf b' x'.N y'.N=q2)(hz:zOf u p.N=zOf b x.N+zOf b' x'.N):y.N≠0/\qOf u p.N y.N=q1+q2:=by
 have e:=ziC.1 (of_decide_eq_true hc)
 refine⟨h.1,?_⟩
 rw[<-h.2,<-h'.2,<-e]
 unfold qOf
 rw[Rat.mkRat_add_mkRat _ _ h.1 h.1,hz,Rat.mkRat_eq_iff h.1 (Nat.mul_ne_zero h.1 h.1)]
 simp only[Int.natCast_mul]
 grind
theorem zm0 {x:Num}(hk:x.n<=K)(ho:x.oo V):bitsN x.N<=32*K:=by
 have h:=zaz ho.1.1 hk
 rw[zst]at h
 unfold bitsN
 split
 ·omega
 ·rename_i h0
  have:=(Nat.log2_lt h0).2 h
  omega
theorem zlW {K N:Nat}{v1:Value}{V:World}(h1:N1 K (N) v1 V):
  Calls Tryz.prog 113 #[v1] V (zaf V (fun v _=>v= .bool (decide (N=0)))):=by
 obtain⟨x1,rfl,hN1,hk1,ok1⟩:=h1
 refine fb Tryz.func113 Tryz.ntmps113 (zaa ok1 zau) (fun a S=>?_)
 refine wsp fun K1 hK1=>?_
 refine ac S fun a S=>?_
 refine hK1 _ _ ?_
 refine wsp fun K2 hK2=>?_
 refine mv S 1 fun a S=>?_
 refine tc S (rc1 Tryz.func119 (S.at 0 rfl)) (zqs (n1m S 0 hN1 hk1)) fun v a V1 hF hb S=>?_
 subst hF
 refine tv S (zdx _ (by decide) rfl (S.at 0 rfl) rfl) fun a S=>?_
 refine av S (zak rfl (S.at 0 rfl)) fun a S=>?_
 refine hK2 _ _ ?_
 refine wp_ret ?_
 exact zay rfl S (S.at 0 rfl) ⟨_,rfl,congrArg Value.bool (zkG N),S.below⟩
theorem zcN {K:Nat}{q:Rat}{v1:Value}{V:World}(h1:Q1 K (q) v1 V)(hK0:K<=1000000:=by omega):
  Calls Tryz.prog 77 #[v1] V (zaf V (QM (max K 1) q)):=by
 obtain⟨b1,x1,y1,rfl,hq1,hk1,hk2,ok1,ok2⟩:=h1
 refine fb Tryz.func77 Tryz.ntmps77 (zaa ok1 (zaa ok2 zau)) (fun a S=>?_)
 refine wsp fun K1 hK1=>?_
 refine tb S 0 (aL b1 x1 y1) fun g1 a V1 hgg1 S=>?_
 refine ti S (cs:=lZ) (zam rfl (Tryz.zeroValue96 _) rfl) (fun g2=>[⟨g1,27,(aL b1 x1 y1)⟩,⟨g2,96,lZ⟩]) fun g2 a V2 hgg2 S=>?_
 refine hK1 _ _ ?_
 refine wp_seq_k fun K2 hK2=>?_
 refine wsp fun K3 hK3=>?_
 refine tv S (zab rfl (S.at 1 rfl) (zbc _)) fun a S=>?_
 refine tv S (zap rfl (S.at 0 rfl) (S.bx 0 rfl) (Tryz.isAgg23 _) rfl) fun a S=>?_
 refine tc S (rc1 Tryz.func113 (S.at 0 rfl)) (zlW (n1r S 1 hk2)) fun v a V3 hF hb S=>?_
 subst hF
 refine hK3 _ _ ?_
 rcases zv9 (decide (y1.N=0))with hc5|hc5
 ·refine wp_cond_true ((S.at 0 rfl).trans (congrArg Value.bool hc5)) ?_
  refine wsp fun K4 hK4=>?_
  refine tc S (F:=NT 1 (1)) (rcc Tryz.func85) zvd fun v a V4 hF hb S=>?_
  obtain⟨x2,rfl,hN1,hn1,hk3,ok3⟩:=hF
  have S:=S.know ok3
  refine tv S (zcG rfl (S.at 0 rfl) (zmj _ _ _)) fun a S=>?_
  refine sto S 1 (fun ht=>zaj rfl (S.at 5 rfl) (S.at 0 rfl) zaN rfl (zvZ rfl) ht) fun V5 S=>?_
  refine hK4 _ _ ?_
  refine wp_ret ?_
  exact zar rfl S (S.at 5 rfl) (i:=1) rfl Tryz.underlying96 rfl zaN ⟨_,rfl,⟨false,⟨none,0,0,0⟩,x2,rfl,⟨by rw[hN1];decide,(zh9 (of_decide_eq_true hc5) hq1 hN1)⟩,Nat.zero_le _,zv2 hk3 (by omega),(S.env.nought).2 _ (List.mem_cons_self ..),(S.num 0 rfl)⟩,S.below⟩
 ·refine wp_cond_false ((S.at 0 rfl).trans (congrArg Value.bool hc5)) ?_
  refine wp_skip ?_
  refine hK2 _ _ ?_
  refine wsp fun K5 hK5=>?_
  refine tv S (zab rfl (S.at 4 rfl) (zbD _)) fun a S=>?_
  refine tv S (zad rfl (S.at 0 rfl) (S.bx 0 rfl) Tryz.underlying25 rfl (vs:=[.bool b1,aS x1]) zca rfl) fun a S=>?_
  refine tv S (zcG rfl (S.at 0 rfl) (zcP _ _ _ _)) fun a S=>?_
  refine tv S (zab rfl (S.at 7 rfl) (zbc _)) fun a S=>?_
  refine tv S (zap rfl (S.at 0 rfl) (S.bx 0 rfl) (Tryz.isAgg23 _) rfl) fun a S=>?_
  refine tv S (zaU rfl (S.at 2 rfl) (S.at 0 rfl) (zd3 _ _ _ _ _ _ _)) fun a S=>?_
  refine sto S 1 (fun ht=>zaj rfl (S.at 9 rfl) (S.at 0 rfl) zaN rfl (zvZ rfl) ht) fun V6 S=>?_
  refine hK5 _ _ ?_
  refine wp_ret ?_
  exact zar rfl S (S.at 9 rfl) (i:=1) rfl Tryz.underlying96 rfl zaN ⟨_,rfl,⟨b1,x1,y1,rfl,⟨of_decide_eq_false hc5,hq1⟩,zv2 hk1 (by omega),zv2 hk2 (by omega),(S.num 0 rfl),(S.num 1 rfl)⟩,S.below⟩
theorem zqc {K:Nat}{Z:Int}{v1:Value}{V:World}(T:TT V)(h1:Z1 K (Z) v1 V)(hK0:K<=10000:=by omega):
  Calls Tryz.prog 78 #[v1] V (zaf V (fun v _=>v= .int .i64 Z.sign)):=by
 obtain⟨b1,x1,rfl,hz1,hk1,ok1⟩:=h1
 refine fb Tryz.func78 Tryz.ntmps78 (zaa ok1 zau) (fun a S=>?_)
 refine wsp fun K1 hK1=>?_
 refine tb S 0 [.bool b1,aS x1] fun g1 a V1 hgg1 S=>?_
 refine ac S fun a S=>?_
 refine hK1 _ _ ?_
 refine wsp fun K2 hK2=>?_
 refine tv S (zab rfl (S.at 1 rfl) (zax _)) fun a S=>?_
 refine tv S (zad rfl (S.at 0 rfl) (S.bx 0 rfl) Tryz.underlying25 rfl (vs:=[.bool b1,aS x1]) zca rfl) fun a S=>?_
 refine tc S (rc1 Tryz.func114 (S.at 0 rfl)) (zt0 (T.keep S.below) (show Z1 K (Z) ((aZ b1 x1)) _ from⟨b1,x1,rfl,hz1,hk1,(S.num 0 rfl)⟩) (by omega)) fun v a V2 hF hb S=>?_
 subst hF
 refine av S (zak rfl (S.at 0 rfl)) fun a S=>?_
 refine hK2 _ _ ?_
 refine wp_ret ?_
 exact zay rfl S (S.at 0 rfl) ⟨_,rfl,rfl,S.below⟩
theorem zeZ {K K' N:Nat}{Z:Int}{v1 v2:Value}{V:World}(h1:Z1 K (Z) v1 V)(h2:N1 K' (N) v2 V)(hK0:K<=100000:=by omega)(hK1:K'<=100000:=by omega):
  Calls Tryz.prog 120 #[v1,v2] V (zaf V (Z1 (K+K') (Z*(N:Nat)))):=by
 obtain⟨b1,x1,rfl,hz1,hk1,ok1⟩:=h1
 obtain⟨x2,rfl,hN1,hk2,ok2⟩:=h2
 refine fb Tryz.func120 Tryz.ntmps120 (zaa ok2 (zaa ok1 zau)) (fun a S=>?_)
 refine wsp fun K1 hK1=>?_
 refine tb S 0 [.bool b1,aS x1] fun g1 a V1 hgg1 S=>?_
 refine ti S (cs:=[.bool false,.slice none 0 0]) (zam rfl (Tryz.zeroValue25 _) rfl) (fun g2=>[⟨g1,94,[.bool b1,aS x1]⟩,⟨g2,25,[.bool false,.slice none 0 0]⟩]) fun g2 a V2 hgg2 S=>?_
 refine hK1 _ _ ?_
 refine wp_seq_k fun K2 hK2=>?_
 obtain⟨W1,hW1⟩:∃W,W=V2:=⟨_,rfl⟩
 rw[<-hW1]at S ⊢
 have S0:=S
 refine fr 9 [5,6,7,8,9,10,11,12,13] [IsV (pT g1 0),IsV (pT g1 0),IsV (.bool b1),IsV (pT g1 0),IsV (pT g1 1),IsV (aS x1),IsV (aS x2),NT (K+K') (x1.N*N),Z1 (K+K') (zOf b1 (x1.N*N))] S ?_ ?_
 ·refine sc (fun _ _ S _ _=>sv rfl (zab rfl (S.at 1 rfl) (zax _))) ?_
  refine sc (fun _ _ _ _ hd=>sv rfl (zab rfl (hd.v 0 rfl rfl) (zco _))) ?_
  refine sc (fun _ _ S _ hd=>sv rfl (zap rfl (hd.v 1 rfl rfl) (S.bx 0 rfl) (Tryz.isAgg4 _) rfl)) ?_
  refine sc (fun _ _ S _ _=>sv rfl (zab rfl (S.at 1 rfl) (zax _))) ?_
  refine sc (fun _ _ _ _ hd=>sv rfl (zab rfl (hd.v 3 rfl rfl) (zbX _))) ?_
  refine sc (fun _ _ S _ hd=>sv rfl (zap rfl (hd.v 4 rfl rfl) (S.bx 0 rfl) (Tryz.isAgg23 _) rfl)) ?_
  refine sc (fun _ _ S _ _=>sv rfl (zao rfl (S.at 3 rfl))) ?_
  refine sc (fun _ _ S _ hd=>sl rfl (rc2 Tryz.func115 (hd.v 5 rfl rfl) (hd.v 6 rfl rfl)) (zqt (n1r S 1 hk1) (n1m S 0 hN1 hk2) (by omega) (by omega))) ?_
  refine sc (fun _ _ _ _ hd=>by
   obtain⟨v,hv,hq⟩:=ztl (b:=b1) ((hd.r 7 rfl rfl)).any
   exact sv rfl (zaU rfl (hd.v 2 rfl rfl) rfl hv) hq) ?_
  exact sn
 ·intro a1 V3 S hB hf
  obtain⟨b2,x3,hv1,hz2,hk3,ok3⟩:=hf.r 8 rfl rfl
  have S:=S.add hv1
  have S:=S.know ok3
  clear hf S0
  show wpList _ _ _ [_] _ _
  refine sto S 1 (fun ht=>zaj rfl (S.at 1 rfl) (S.at 0 rfl) zca rfl (zvZ rfl) ht) fun V4 S=>?_
  refine hK2 _ _ ?_
  refine wp_ret ?_
  exact zar rfl S (S.at 1 rfl) (i:=1) rfl Tryz.underlying25 rfl zca ⟨_,rfl,⟨b2,x3,rfl,(hz2).trans (zoa hz1),hk3,(S.num 0 rfl)⟩,S.below⟩
theorem zhE {K:Nat}{q:Rat}{v1:Value}{V:World}(T:TT V)(h1:QM K (q) v1 V)(hK0:K<=10000:=by omega):
  Calls Tryz.prog 81 #[v1] V (zaf V (QT K q)):=by
 obtain⟨b1,x1,y1,rfl,hq1,hk1,hk2,ok1,ok2⟩:=h1
 refine fb Tryz.func81 Tryz.ntmps81 (zaa ok1 (zaa ok2 zau)) (fun a S=>?_)
 rcases b1 with _|_
 ·skip
  refine wsp fun K1 hK1=>?_
  refine tb S 0 (aL false x1 y1) fun g1 a V1 hgg1 S=>?_
  refine ti S (cs:=lZ) (zam rfl (Tryz.zeroValue27 _) rfl) (fun g2=>[⟨g1,96,(aL false x1 y1)⟩,⟨g2,27,lZ⟩]) fun g2 a V2 hgg2 S=>?_
  refine hK1 _ _ ?_
  refine wsp fun K2 hK2=>?_
  refine tv S (zab rfl (S.at 1 rfl) (zaA _)) fun a S=>?_
  refine tv S (zab rfl (S.at 0 rfl) (zax _)) fun a S=>?_
  refine tv S (zab rfl (S.at 0 rfl) (zbX _)) fun a S=>?_
  refine tv S (zap rfl (S.at 0 rfl) (S.bx 0 rfl) (Tryz.isAgg23 _) rfl) fun a S=>?_
  refine tv S (zab rfl (S.at 5 rfl) (za2 _)) fun a S=>?_
  refine tv S (zap rfl (S.at 0 rfl) (S.bx 0 rfl) (Tryz.isAgg23 _) rfl) fun a S=>?_
  refine tc S (F:=N2 (K) (K) (x1.N/Nat.gcd x1.N y1.N) (y1.N/Nat.gcd x1.N y1.N)) (rc2 Tryz.func116 (S.at 2 rfl) (S.at 0 rfl)) (zjC (T.keep S.below) (n1r S 0 hk1) (n1r S 1 hk2) (by omega) (by omega)) fun v a V3 hF hb S=>?_
  obtain⟨tv1,tv2,rfl,tf1,tf2⟩:=hF
  obtain⟨x2,rfl,hN1,hn1,hk3,ok3⟩:=tf1
  obtain⟨x3,rfl,hN2,hn2,hk4,ok4⟩:=tf2
  have S:=S.know ok4
  have S:=S.know ok3
  refine mv S 0 fun a S=>?_
  refine tv S (zaT rfl (S.at 0 rfl) rfl) fun a S=>?_
  refine tv S (zaT rfl (S.at 1 rfl) rfl) fun a S=>?_
  refine tv S (zak rfl (S.at 1 rfl)) fun a S=>?_
  refine tv S (zak rfl (S.at 1 rfl)) fun a S=>?_
  refine hK2 _ _ ?_
  refine wsp fun K3 hK3=>?_
  refine tv S (zab rfl (S.at 13 rfl) (zaA _)) fun a S=>?_
  refine tv S (zab rfl (S.at 0 rfl) (zax _)) fun a S=>?_
  refine tv S (zab rfl (S.at 0 rfl) (zco _)) fun a S=>?_
  refine tv S (zap rfl (S.at 0 rfl) (S.bx 0 rfl) (Tryz.isAgg4 _) rfl) fun a S=>?_
  refine mv S 0 fun a S=>?_
  refine tk S (S.at 0 rfl) fun a S=>?_
  refine tk S (S.at 1 rfl) fun a S=>?_
  refine tk S (S.at 2 rfl) fun a S=>?_
  refine tv S (zas false rfl (S.at 3 rfl) rfl) fun a S=>?_
  refine mv S 10 fun a S=>?_
  refine tv S (zaU rfl (S.at 1 rfl) (S.at 0 rfl) (zjG _ _ _ _)) fun a S=>?_
  refine mv S 11 fun a S=>?_
  refine tv S (zaU rfl (S.at 1 rfl) (S.at 0 rfl) (zhM _ _ _ _ _ _ _)) fun a S=>?_
  refine sto S 1 (fun ht=>zaj rfl (S.at 25 rfl) (S.at 0 rfl) zah rfl (zvZ rfl) ht) fun V4 S=>?_
  refine hK3 _ _ ?_
  refine wp_ret ?_
  exact zar rfl S (S.at 25 rfl) (i:=1) rfl Tryz.underlying27 rfl zah ⟨_,rfl,⟨_,x2,x3,rfl,zmZ false hq1.1 hq1.2 hN1 hn1 hN2 hn2 (by simp),hk3,hk4,(S.num 0 rfl),(S.num 1 rfl)⟩,S.below⟩
 ·skip
  refine wsp fun K4 hK4=>?_
  refine tb S 0 (aL true x1 y1) fun g3 a V5 hgg3 S=>?_
  refine ti S (cs:=lZ) (zam rfl (Tryz.zeroValue27 _) rfl) (fun g4=>[⟨g3,96,(aL true x1 y1)⟩,⟨g4,27,lZ⟩]) fun g4 a V6 hgg4 S=>?_
  refine hK4 _ _ ?_
  refine wsp fun K5 hK5=>?_
  refine tv S (zab rfl (S.at 1 rfl) (zaA _)) fun a S=>?_
  refine tv S (zab rfl (S.at 0 rfl) (zax _)) fun a S=>?_
  refine tv S (zab rfl (S.at 0 rfl) (zbX _)) fun a S=>?_
  refine tv S (zap rfl (S.at 0 rfl) (S.bx 0 rfl) (Tryz.isAgg23 _) rfl) fun a S=>?_
  refine tv S (zab rfl (S.at 5 rfl) (za2 _)) fun a S=>?_
  refine tv S (zap rfl (S.at 0 rfl) (S.bx 0 rfl) (Tryz.isAgg23 _) rfl) fun a S=>?_
  refine tc S (F:=N2 (K) (K) (x1.N/Nat.gcd x1.N y1.N) (y1.N/Nat.gcd x1.N y1.N)) (rc2 Tryz.func116 (S.at 2 rfl) (S.at 0 rfl)) (zjC (T.keep S.below) (n1r S 0 hk1) (n1r S 1 hk2) (by omega) (by omega)) fun v a V7 hF hb S=>?_
  obtain⟨tv3,tv4,rfl,tf3,tf4⟩:=hF
  obtain⟨x4,rfl,hN3,hn3,hk5,ok5⟩:=tf3
  obtain⟨x5,rfl,hN4,hn4,hk6,ok6⟩:=tf4
  have S:=S.know ok6
  have S:=S.know ok5
  refine mv S 0 fun a S=>?_
  refine tv S (zaT rfl (S.at 0 rfl) rfl) fun a S=>?_
  refine tv S (zaT rfl (S.at 1 rfl) rfl) fun a S=>?_
  refine tv S (zak rfl (S.at 1 rfl)) fun a S=>?_
  refine tv S (zak rfl (S.at 1 rfl)) fun a S=>?_
  refine hK5 _ _ ?_
  refine wsp fun K6 hK6=>?_
  refine tv S (zab rfl (S.at 13 rfl) (zaA _)) fun a S=>?_
  refine tv S (zab rfl (S.at 0 rfl) (zax _)) fun a S=>?_
  refine tv S (zab rfl (S.at 0 rfl) (zco _)) fun a S=>?_
  refine tv S (zap rfl (S.at 0 rfl) (S.bx 0 rfl) (Tryz.isAgg4 _) rfl) fun a S=>?_
  refine mv S 0 fun a S=>?_
  refine tvg S (S.at 0 rfl) (zao rfl (S.at 6 rfl)) fun a S=>?_
  refine tvg S (S.at 1 rfl) (zbY (by decide) rfl (S.at 0 rfl)) fun a S=>?_
  refine tvg S (S.at 2 rfl) (zcp rfl (S.at 0 rfl) rfl) fun a S=>?_
  refine tv S (zas true rfl (S.at 3 rfl) (S.at 0 rfl)) fun a S=>?_
  refine mv S 10 fun a S=>?_
  refine tv S (zaU rfl (S.at 1 rfl) (S.at 0 rfl) (zjG _ _ _ _)) fun a S=>?_
  refine mv S 11 fun a S=>?_
  refine tv S (zaU rfl (S.at 1 rfl) (S.at 0 rfl) (zhM _ _ _ _ _ _ _)) fun a S=>?_
  refine sto S 1 (fun ht=>zaj rfl (S.at 25 rfl) (S.at 0 rfl) zah rfl (zvZ rfl) ht) fun V8 S=>?_
  refine hK6 _ _ ?_
  refine wp_ret ?_
  exact zar rfl S (S.at 25 rfl) (i:=1) rfl Tryz.underlying27 rfl zah ⟨_,rfl,⟨_,x4,x5,rfl,zmZ true hq1.1 hq1.2 hN3 hn3 hN4 hn4 (by simp),hk5,hk6,(S.num 0 rfl),(S.num 1 rfl)⟩,S.below⟩
theorem zoc {K K':Nat}{q1 q2:Rat}{v1 v2:Value}{V:World}(T:TT V)(h1:QM K (q1) v1 V)(h2:QM K' (q2) v2 V)(hK0:K<=5000)(hK1:K'<=5000):
  Calls Tryz.prog 144 #[v1,v2] V (zaf V (fun v _=>v= .int .i64 (zan q1 q2))):=by
 obtain⟨b1,x1,y1,rfl,hq1,hk1,hk2,ok1,ok2⟩:=h1
 obtain⟨b2,x2,y2,rfl,hq2,hk3,hk4,ok3,ok4⟩:=h2
 refine fb Tryz.func144 Tryz.ntmps144 (zaa ok3 (zaa ok4 (zaa ok1 (zaa ok2 zau)))) (fun a S=>?_)
 refine wsp fun K1 hK1=>?_
 refine tb S 0 (aL b1 x1 y1) fun g1 a V1 hgg1 S=>?_
 refine tb S 2 (aL b2 x2 y2) fun g2 a V2 hgg2 S=>?_
 refine ac S fun a S=>?_
 refine hK1 _ _ ?_
 refine wp_seq_k fun K2 hK2=>?_
 refine wsp fun K3 hK3=>?_
 refine tv S (zab rfl (S.at 2 rfl) (za2 _)) fun a S=>?_
 refine tv S (zap rfl (S.at 0 rfl) (S.bx 0 rfl) (Tryz.isAgg23 _) rfl) fun a S=>?_
 refine tv S (zab rfl (S.at 3 rfl) (za2 _)) fun a S=>?_
 refine tv S (zap rfl (S.at 0 rfl) (S.bx 1 rfl) (Tryz.isAgg23 _) rfl) fun a S=>?_
 refine tc S (rc2 Tryz.func117 (S.at 2 rfl) (S.at 0 rfl)) (zve (n1r S 3 hk2) (n1r S 1 hk4)) fun v a V3 hF hb S=>?_
 subst hF
 refine tv S (zdx _ (by decide) rfl (S.at 0 rfl) rfl) fun a S=>?_
 refine hK3 _ _ ?_
 rcases zv9 (decide (zcj y1.N y2.N=0))with hc10|hc10
 ·refine wp_cond_true ((S.at 0 rfl).trans (congrArg Value.bool hc10)) ?_
  refine wsp fun K4 hK4=>?_
  refine tv S (zab rfl (S.at 8 rfl) (zaA _)) fun a S=>?_
  refine tv S (zab rfl (S.at 0 rfl) (zax _)) fun a S=>?_
  refine tv S (zad rfl (S.at 0 rfl) (S.bx 0 rfl) Tryz.underlying25 rfl (vs:=[.bool b1,aS x1]) zca rfl) fun a S=>?_
  refine tv S (zab rfl (S.at 10 rfl) (zaA _)) fun a S=>?_
  refine tv S (zab rfl (S.at 0 rfl) (zax _)) fun a S=>?_
  refine tv S (zad rfl (S.at 0 rfl) (S.bx 1 rfl) Tryz.underlying25 rfl (vs:=[.bool b2,aS x2]) zca rfl) fun a S=>?_
  refine tc S (rc2 Tryz.func186 (S.at 3 rfl) (S.at 0 rfl)) (ztj (T.keep S.below) (show Z1 K (zOf b1 x1.N) ((aZ b1 x1)) _ from⟨b1,x1,rfl,rfl,hk1,(S.num 2 rfl)⟩) (show Z1 K' (zOf b2 x2.N) ((aZ b2 x2)) _ from⟨b2,x2,rfl,rfl,hk3,(S.num 0 rfl)⟩) (by omega) (by omega)) fun v a V4 hF hb S=>?_
  subst hF
  refine av S (zak rfl (S.at 0 rfl)) fun a S=>?_
  refine hK4 _ _ ?_
  refine wp_ret ?_
  exact zay rfl S (S.at 0 rfl) ⟨_,rfl,congrArg (Value.int .i64) (zqa hc10 hq1 hq2),S.below⟩
 ·refine wp_cond_false ((S.at 0 rfl).trans (congrArg Value.bool hc10)) ?_
  refine wp_skip ?_
  refine hK2 _ _ ?_
  refine wp_seq_k fun K5 hK5=>?_
  have S:=S.keep [4,3,2] (ls':=[(4,.int .i64 0),(3,pT g2 0),(2,pT g1 0)]) rfl
  obtain⟨W1,hW1⟩:∃W,W=V3:=⟨_,rfl⟩
  rw[<-hW1]at S ⊢
  have S0:=S
  refine fr 11 [18,19,20,21,22,23,24,25,26,27,28] [IsV (pT g1 0),IsV ((aZ b1 x1)),IsV (pT g2 2),IsV (aS y2),Z1 (K+K') ((zOf b1 x1.N)*(y2.N:Nat)),IsV (pT g2 0),IsV ((aZ b2 x2)),IsV (pT g1 2),IsV (aS y1),Z1 (K'+K) ((zOf b2 x2.N)*(y1.N:Nat)),iI ((zcw ((zOf b1 x1.N)*(y2.N:Nat)) ((zOf b2 x2.N)*(y1.N:Nat))))] S ?_ ?_
  ·refine sc (fun _ _ S _ _=>sv rfl (zab rfl (S.at 2 rfl) (zaA _))) ?_
   refine sc (fun _ _ S _ hd=>sv rfl (zad rfl (hd.v 0 rfl rfl) (S.bx 0 rfl) Tryz.underlying94 rfl (vs:=[.bool b1,aS x1]) zcb rfl)) ?_
   refine sc (fun _ _ S _ _=>sv rfl (zab rfl (S.at 1 rfl) (za2 _))) ?_
   refine sc (fun _ _ S _ hd=>sv rfl (zap rfl (hd.v 2 rfl rfl) (S.bx 1 rfl) (Tryz.isAgg23 _) rfl)) ?_
   refine sc (fun _ _ S _ hd=>sl rfl (rc2 Tryz.func120 (hd.v 1 rfl rfl) (hd.v 3 rfl rfl)) (zeZ (show Z1 K (zOf b1 x1.N) ((aZ b1 x1)) _ from⟨b1,x1,rfl,rfl,hk1,(S.num 2 rfl)⟩) (n1r S 1 hk4))) ?_
   refine sc (fun _ _ S _ _=>sv rfl (zab rfl (S.at 1 rfl) (zaA _))) ?_
   refine sc (fun _ _ S _ hd=>sv rfl (zad rfl (hd.v 5 rfl rfl) (S.bx 1 rfl) Tryz.underlying94 rfl (vs:=[.bool b2,aS x2]) zcb rfl)) ?_
   refine sc (fun _ _ S _ _=>sv rfl (zab rfl (S.at 2 rfl) (za2 _))) ?_
   refine sc (fun _ _ S _ hd=>sv rfl (zap rfl (hd.v 7 rfl rfl) (S.bx 0 rfl) (Tryz.isAgg23 _) rfl)) ?_
   refine sc (fun _ _ S _ hd=>sl rfl (rc2 Tryz.func120 (hd.v 6 rfl rfl) (hd.v 8 rfl rfl)) (zeZ (show Z1 K' (zOf b2 x2.N) ((aZ b2 x2)) _ from⟨b2,x2,rfl,rfl,hk3,(S.num 0 rfl)⟩) (n1r S 3 hk2))) ?_
   refine sc (fun _ _ S _ hd=>sl rfl (rc2 Tryz.func186 rfl rfl) (ztj (T.keep S.below) (hd.r 4 rfl rfl) (hd.r 9 rfl rfl) (by omega) (by omega))) ?_
   exact sn
  ·intro a1 V5 S hB hf
   have S:=S.add (hf.v 10 rfl rfl)
   clear hf S0
   show wpList _ _ _ [_] _ _
   refine av S (zak rfl (S.at 0 rfl)) fun a S=>?_
   refine hK5 _ _ ?_
   refine wp_ret ?_
   exact zay rfl S (S.at 0 rfl) ⟨_,rfl,congrArg (Value.int .i64) (ziD hq1 hq2),S.below⟩
theorem zod {K:Nat}{q:Rat}{v1:Value}{V:World}(h1:QM K (q) v1 V):
  Calls Tryz.prog 83 #[v1] V (zaf V (QM K (-q))):=by
 obtain⟨b1,x1,y1,rfl,hq1,hk1,hk2,ok1,ok2⟩:=h1
 refine fb Tryz.func83 Tryz.ntmps83 (zaa ok1 (zaa ok2 zau)) (fun a S=>?_)
 refine wsp fun K1 hK1=>?_
 refine tb S 0 (aL b1 x1 y1) fun g1 a V1 hgg1 S=>?_
 refine ti S (cs:=lZ) (zam rfl (Tryz.zeroValue96 _) rfl) (fun g2=>[⟨g1,96,(aL b1 x1 y1)⟩,⟨g2,96,lZ⟩]) fun g2 a V2 hgg2 S=>?_
 refine hK1 _ _ ?_
 refine wsp fun K2 hK2=>?_
 refine tv S (zab rfl (S.at 1 rfl) (zaA _)) fun a S=>?_
 refine tv S (zab rfl (S.at 0 rfl) (zax _)) fun a S=>?_
 refine tv S (zab rfl (S.at 0 rfl) (zco _)) fun a S=>?_
 refine tv S (zap rfl (S.at 0 rfl) (S.bx 0 rfl) (Tryz.isAgg4 _) rfl) fun a S=>?_
 refine tv S (zbl rfl (S.at 0 rfl)) fun a S=>?_
 refine tv S (zab rfl (S.at 6 rfl) (zaA _)) fun a S=>?_
 refine tv S (zab rfl (S.at 0 rfl) (zax _)) fun a S=>?_
 refine tv S (zab rfl (S.at 0 rfl) (zco _)) fun a S=>?_
 refine sto S 0 (fun ht=>ze3 rfl (S.at 0 rfl) (S.at 3 rfl) (Tryz.sizeOf4 _) rfl rfl (zvZ rfl) ht) fun V3 S=>?_
 refine hK2 _ _ ?_
 refine wsp fun K3 hK3=>?_
 refine tv S (zad rfl (S.at 9 rfl) (S.bx 0 rfl) Tryz.underlying96 rfl (vs:=[.bool (!b1),aS x1,aS y1]) zaN rfl) fun a S=>?_
 refine sto S 1 (fun ht=>zaj rfl (S.at 9 rfl) (S.at 0 rfl) zaN rfl (zvZ rfl) ht) fun V4 S=>?_
 refine hK3 _ _ ?_
 refine wp_ret ?_
 exact zar rfl S (S.at 9 rfl) (i:=1) rfl Tryz.underlying96 rfl zaN ⟨_,rfl,⟨!b1,x1,y1,rfl,zuT hq1,hk1,hk2,(S.num 0 rfl),(S.num 1 rfl)⟩,S.below⟩
theorem zjt {K:Nat}{q:Rat}{v1:Value}{V:World}(h1:QM K (q) v1 V)(hq0:q≠0):
  Calls Tryz.prog 80 #[v1] V (zaf V (QM K q⁻¹)):=by
 obtain⟨b1,x1,y1,rfl,hq1,hk1,hk2,ok1,ok2⟩:=h1
 refine fb Tryz.func80 Tryz.ntmps80 (zaa ok1 (zaa ok2 zau)) (fun a S=>?_)
 refine wsp fun K1 hK1=>?_
 refine tb S 0 (aL b1 x1 y1) fun g1 a V1 hgg1 S=>?_
 refine ti S (cs:=lZ) (zam rfl (Tryz.zeroValue96 _) rfl) (fun g2=>[⟨g1,96,(aL b1 x1 y1)⟩,⟨g2,96,lZ⟩]) fun g2 a V2 hgg2 S=>?_
 refine hK1 _ _ ?_
 refine wsp fun K2 hK2=>?_
 refine tv S (zab rfl (S.at 1 rfl) (zaA _)) fun a S=>?_
 refine tv S (zab rfl (S.at 0 rfl) (zax _)) fun a S=>?_
 refine tv S (zab rfl (S.at 0 rfl) (zco _)) fun a S=>?_
 refine tv S (zap rfl (S.at 0 rfl) (S.bx 0 rfl) (Tryz.isAgg4 _) rfl) fun a S=>?_
 refine tv S (zab rfl (S.at 5 rfl) (za2 _)) fun a S=>?_
 refine tv S (zap rfl (S.at 0 rfl) (S.bx 0 rfl) (Tryz.isAgg23 _) rfl) fun a S=>?_
 refine tv S (zaU rfl (S.at 2 rfl) (S.at 0 rfl) (zjG _ _ _ _)) fun a S=>?_
 refine tv S (zcG rfl (S.at 0 rfl) (zcP _ _ _ _)) fun a S=>?_
 refine tv S (zab rfl (S.at 9 rfl) (zaA _)) fun a S=>?_
 refine tv S (zab rfl (S.at 0 rfl) (zax _)) fun a S=>?_
 refine tv S (zab rfl (S.at 0 rfl) (zbX _)) fun a S=>?_
 refine tv S (zap rfl (S.at 0 rfl) (S.bx 0 rfl) (Tryz.isAgg23 _) rfl) fun a S=>?_
 refine tv S (zaU rfl (S.at 4 rfl) (S.at 0 rfl) (zd3 _ _ _ _ _ _ _)) fun a S=>?_
 refine sto S 1 (fun ht=>zaj rfl (S.at 13 rfl) (S.at 0 rfl) zaN rfl (zvZ rfl) ht) fun V3 S=>?_
 refine hK2 _ _ ?_
 refine wp_ret ?_
 exact zar rfl S (S.at 13 rfl) (i:=1) rfl Tryz.underlying96 rfl zaN ⟨_,rfl,⟨b1,y1,x1,rfl,zuU hq1 hq0,hk2,hk1,(S.num 1 rfl),(S.num 0 rfl)⟩,S.below⟩
theorem zuW {K K':Nat}{q1 q2:Rat}{v1 v2:Value}{V:World}(h1:QM K (q1) v1 V)(h2:QM K' (q2) v2 V)(hK0:K<=100000)(hK1:K'<=100000):
  Calls Tryz.prog 79 #[v1,v2] V (zaf V (QM (K+K') (q1*q2))):=by
 obtain⟨b1,x1,y1,rfl,hq1,hk1,hk2,ok1,ok2⟩:=h1
 obtain⟨b2,x2,y2,rfl,hq2,hk3,hk4,ok3,ok4⟩:=h2
 refine fb Tryz.func79 Tryz.ntmps79 (zaa ok3 (zaa ok4 (zaa ok1 (zaa ok2 zau)))) (fun a S=>?_)
 refine wsp fun K1 hK1=>?_
 refine tb S 0 (aL b1 x1 y1) fun g1 a V1 hgg1 S=>?_
 refine tb S 2 (aL b2 x2 y2) fun g2 a V2 hgg2 S=>?_
 refine ti S (cs:=lZ) (zam rfl (Tryz.zeroValue96 _) rfl) (fun g3=>[⟨g1,96,(aL b1 x1 y1)⟩,⟨g2,96,(aL b2 x2 y2)⟩,⟨g3,96,lZ⟩]) fun g3 a V3 hgg3 S=>?_
 refine hK1 _ _ ?_
 refine wp_seq_k fun K2 hK2=>?_
 obtain⟨W1,hW1⟩:∃W,W=V3:=⟨_,rfl⟩
 rw[<-hW1]at S ⊢
 have S0:=S
 refine fr 20 [6,7,8,9,10,11,12,13,14,15,16,17,18,19,20,21,22,23,24,5] [IsV (pT g1 0),IsV (pT g1 0),IsV (pT g1 0),IsV (.bool b1),IsV (pT g2 0),IsV (pT g2 0),IsV (pT g2 0),IsV (.bool b2),IsV (.bool (b1 != b2)),IsV (pT g1 0),IsV (pT g1 0),IsV (pT g1 1),IsV (aS x1),IsV (pT g2 0),IsV (pT g2 0),IsV (pT g2 1),IsV (aS x2),NT (K+K') (x1.N*x2.N),Z1 (K+K') (zOf (b1 != b2) (x1.N*x2.N)),RBx (W1) (25) ([.bool false,.slice none 0 0])] S ?_ ?_
 ·refine sc (fun _ _ S _ _=>sv rfl (zab rfl (S.at 2 rfl) (zaA _))) ?_
  refine sc (fun _ _ _ _ hd=>sv rfl (zab rfl (hd.v 0 rfl rfl) (zax _))) ?_
  refine sc (fun _ _ _ _ hd=>sv rfl (zab rfl (hd.v 1 rfl rfl) (zco _))) ?_
  refine sc (fun _ _ S _ hd=>sv rfl (zap rfl (hd.v 2 rfl rfl) (S.bx 0 rfl) (Tryz.isAgg4 _) rfl)) ?_
  refine sc (fun _ _ S _ _=>sv rfl (zab rfl (S.at 1 rfl) (zaA _))) ?_
  refine sc (fun _ _ _ _ hd=>sv rfl (zab rfl (hd.v 4 rfl rfl) (zax _))) ?_
  refine sc (fun _ _ _ _ hd=>sv rfl (zab rfl (hd.v 5 rfl rfl) (zco _))) ?_
  refine sc (fun _ _ S _ hd=>sv rfl (zap rfl (hd.v 6 rfl rfl) (S.bx 1 rfl) (Tryz.isAgg4 _) rfl)) ?_
  refine sc (fun _ _ _ _ hd=>sv rfl (zm9 rfl (hd.v 3 rfl rfl) (hd.v 7 rfl rfl))) ?_
  refine sc (fun _ _ S _ _=>sv rfl (zab rfl (S.at 2 rfl) (zaA _))) ?_
  refine sc (fun _ _ _ _ hd=>sv rfl (zab rfl (hd.v 9 rfl rfl) (zax _))) ?_
  refine sc (fun _ _ _ _ hd=>sv rfl (zab rfl (hd.v 10 rfl rfl) (zbX _))) ?_
  refine sc (fun _ _ S _ hd=>sv rfl (zap rfl (hd.v 11 rfl rfl) (S.bx 0 rfl) (Tryz.isAgg23 _) rfl)) ?_
  refine sc (fun _ _ S _ _=>sv rfl (zab rfl (S.at 1 rfl) (zaA _))) ?_
  refine sc (fun _ _ _ _ hd=>sv rfl (zab rfl (hd.v 13 rfl rfl) (zax _))) ?_
  refine sc (fun _ _ _ _ hd=>sv rfl (zab rfl (hd.v 14 rfl rfl) (zbX _))) ?_
  refine sc (fun _ _ S _ hd=>sv rfl (zap rfl (hd.v 15 rfl rfl) (S.bx 1 rfl) (Tryz.isAgg23 _) rfl)) ?_
  refine sc (fun _ _ S _ hd=>sl rfl (rc2 Tryz.func115 (hd.v 12 rfl rfl) (hd.v 16 rfl rfl)) (zqt (n1r S 2 hk1) (n1r S 0 hk3) (by omega) (by omega))) ?_
  refine sc (fun _ _ _ _ hd=>by
   obtain⟨v,hv,hq⟩:=ztl (b:=b1 != b2) ((hd.r 17 rfl rfl)).any
   exact sv rfl (zaU rfl (hd.v 8 rfl rfl) rfl hv) hq) ?_
  refine sc (fun _ _ _ hB _=>sy rfl (zt7 (cs:=[.bool false,.slice none 0 0]) (zam rfl (Tryz.zeroValue25 _) rfl) hB.size)) ?_
  exact sn
 ·intro a1 V4 S hB hf
  obtain⟨b3,x3,hv1,hz1,hk5,ok5⟩:=hf.r 18 rfl rfl
  have S:=S.add hv1
  have S:=S.know ok5
  obtain⟨g4,hvg4,hgg4,hbg4⟩:=hf.r 19 rfl rfl
  have S:=Frm.box (S.add hvg4) S0 hgg4 hbg4 rfl
  have S:Frm 33 [(5,pT g4 0),(24,(aZ b3 x3)),(4,pT g3 0),(3,pT g2 0),(2,pT g1 0),(0,(aG b1 x1 y1)),(1,(aG b2 x2 y2))] [⟨g1,96,(aL b1 x1 y1)⟩,⟨g2,96,(aL b2 x2 y2)⟩,⟨g3,96,lZ⟩,⟨g4,25,[.bool false,.slice none 0 0]⟩] V _ _ _:=S
  clear hf S0
  show wpList _ _ _ [_] _ _
  refine sto S 3 (fun ht=>zaj rfl (S.at 0 rfl) (S.at 1 rfl) zca rfl (zvZ rfl) ht) fun V5 S=>?_
  refine hK2 _ _ ?_
  refine wp_seq_k fun K3 hK3=>?_
  obtain⟨W2,hW2⟩:∃W,W=V5:=⟨_,rfl⟩
  rw[<-hW2]at S ⊢
  have S0:=S
  refine fr 8 [25,26,27,28,29,30,31,32] [IsV ((aZ b3 x3)),IsV ((aZ b3 x3)),IsV (pT g1 2),IsV (aS y1),IsV (pT g2 2),IsV (aS y2),NT (K+K') (y1.N*y2.N),QA (K+K') (zOf (b1 != b2) (x1.N*x2.N)) (y1.N*y2.N)] S ?_ ?_
  ·refine sc (fun _ _ S _ _=>sv rfl (zad rfl (S.at 0 rfl) (S.bx 3 rfl) Tryz.underlying25 rfl (vs:=[.bool b3,aS x3]) zca rfl)) ?_
   refine sc (fun _ _ _ _ hd=>sv rfl (zcG rfl (hd.v 0 rfl rfl) (zcP _ _ _ _))) ?_
   refine sc (fun _ _ S _ _=>sv rfl (zab rfl (S.at 4 rfl) (za2 _))) ?_
   refine sc (fun _ _ S _ hd=>sv rfl (zap rfl (hd.v 2 rfl rfl) (S.bx 0 rfl) (Tryz.isAgg23 _) rfl)) ?_
   refine sc (fun _ _ S _ _=>sv rfl (zab rfl (S.at 3 rfl) (za2 _))) ?_
   refine sc (fun _ _ S _ hd=>sv rfl (zap rfl (hd.v 4 rfl rfl) (S.bx 1 rfl) (Tryz.isAgg23 _) rfl)) ?_
   refine sc (fun _ _ S _ hd=>sl rfl (rc2 Tryz.func115 (hd.v 3 rfl rfl) (hd.v 5 rfl rfl)) (zqt (n1r S 4 hk2) (n1r S 2 hk4) (by omega) (by omega))) ?_
   refine sc (fun _ _ S _ hd=>by
    obtain⟨v,hv,hq⟩:=zvg (T:=96) (K3:=(K+K')) (by decide) (show Z1 (K+K') (zOf (b1 != b2) (x1.N*x2.N)) ((aZ b3 x3)) _ from⟨b3,x3,rfl,hz1,hk5,(S.num 0 rfl)⟩) ((hd.r 6 rfl rfl)).any (by omega) (by omega)
    exact sv rfl (zaU rfl (hd.v 1 rfl rfl) rfl hv) hq) ?_
   exact sn
  ·intro a2 V6 S hB hf
   obtain⟨b4,x4,y3,hv2,hq3,hk6,hk7,ok6,ok7⟩:=hf.r 7 rfl rfl
   have S:=S.add hv2
   have S:=S.know ok6
   have S:=S.know ok7
   clear hf S0
   show wpList _ _ _ [_] _ _
   refine sto S 2 (fun ht=>zaj rfl (S.at 3 rfl) (S.at 0 rfl) zaN rfl (zvZ rfl) ht) fun V7 S=>?_
   refine hK3 _ _ ?_
   refine wp_ret ?_
   exact zar rfl S (S.at 3 rfl) (i:=2) rfl Tryz.underlying96 rfl zaN ⟨_,rfl,⟨_,x4,y3,rfl,zuV hq1 hq2 hq3.1 hq3.2,hk6,hk7,(S.num 1 rfl),(S.num 0 rfl)⟩,S.below⟩
theorem zqd {K K':Nat}{q1 q2:Rat}{v1 v2:Value}{V:World}(T:TT V)(h1:QM K (q1) v1 V)(h2:QM K' (q2) v2 V)(hK0:K<=4000)(hK1:K'<=4000):
  Calls Tryz.prog 82 #[v1,v2] V (zaf V (QM (K+K'+1) (q1+q2))):=by
 obtain⟨b1,x1,y1,rfl,hq1,hk1,hk2,ok1,ok2⟩:=h1
 obtain⟨b2,x2,y2,rfl,hq2,hk3,hk4,ok3,ok4⟩:=h2
 have hb1:=zm0 hk2 ok2
 have hb2:=zm0 hk4 ok4
 refine fb Tryz.func82 Tryz.ntmps82 (zaa ok3 (zaa ok4 (zaa ok1 (zaa ok2 zau)))) (fun a S=>?_)
 refine wsp fun K1 hK1=>?_
 refine tb S 0 (aL b1 x1 y1) fun g1 a V1 hgg1 S=>?_
 refine tb S 2 (aL b2 x2 y2) fun g2 a V2 hgg2 S=>?_
 refine ti S (cs:=lZ) (zam rfl (Tryz.zeroValue96 _) rfl) (fun g3=>[⟨g1,96,(aL b1 x1 y1)⟩,⟨g2,96,(aL b2 x2 y2)⟩,⟨g3,96,lZ⟩]) fun g3 a V3 hgg3 S=>?_
 refine hK1 _ _ ?_
 refine wp_seq_k fun K2 hK2=>?_
 obtain⟨W1,hW1⟩:∃W,W=V3:=⟨_,rfl⟩
 rw[<-hW1]at S ⊢
 have S0:=S
 refine frs [] [some 7,some 8,some 9,some 10,some 5,some 6] [IsV (pT g1 2),IsV (aS y1),IsV (pT g2 2),IsV (aS y2),IsV (aS y1),IsV (aS y2)] [] [] [] (lb:=[⟨g1,96,(aL b1 x1 y1)⟩,⟨g2,96,(aL b2 x2 y2)⟩,⟨g3,96,lZ⟩]) S zaO ?_ zaO zaO zaO ?_
 ·refine va (fun _ _ S _ _ _=>sv rfl (zab rfl (S.at 2 rfl) (za2 _))) ?_
  refine va (fun _ _ S _ hd _=>sv rfl (zap rfl (hd.v 0 rfl rfl) (S.bx 0 rfl) (Tryz.isAgg23 _) rfl)) ?_
  refine va (fun _ _ S _ _ _=>sv rfl (zab rfl (S.at 1 rfl) (za2 _))) ?_
  refine va (fun _ _ S _ hd _=>sv rfl (zap rfl (hd.v 2 rfl rfl) (S.bx 1 rfl) (Tryz.isAgg23 _) rfl)) ?_
  refine va (fun _ _ _ _ hd _=>sv rfl (zak rfl (hd.v 1 rfl rfl))) ?_
  refine va (fun _ _ _ _ hd _=>sv rfl (zak rfl (hd.v 3 rfl rfl))) ?_
  exact vn
 ·intro a1 V4 S hB hf hl hdis hs hp
  have S:=S.add (hf.v 4 rfl rfl)
  have S:=S.add (hf.v 5 rfl rfl)
  have S:Frm 54 [(6,aS y2),(5,aS y1),(4,pT g3 0),(3,pT g2 0),(2,pT g1 0),(0,(aG b1 x1 y1)),(1,(aG b2 x2 y2))] [⟨g1,96,(aL b1 x1 y1)⟩,⟨g2,96,(aL b2 x2 y2)⟩,⟨g3,96,lZ⟩] V _ _ _:=S
  clear hf hl hdis hs hp S0
  refine hK2 _ _ ?_
  refine wp_seq_k fun K3 hK3=>?_
  refine wsp fun K4 hK4=>?_
  refine mv S 1 fun a S=>?_
  refine mv S 1 fun a S=>?_
  refine tc S (rc2 Tryz.func117 (S.at 1 rfl) (S.at 0 rfl)) (zve (n1r S 3 hk2) (n1r S 1 hk4)) fun v a V5 hF hb S=>?_
  subst hF
  refine tv S (zdx _ (by decide) rfl (S.at 0 rfl) rfl) fun a S=>?_
  refine hK4 _ _ ?_
  rcases zv9 (decide (zcj y1.N y2.N=0))with hc14|hc14
  ·refine wp_cond_true ((S.at 0 rfl).trans (congrArg Value.bool hc14)) ?_
   refine wsp fun K5 hK5=>?_
   refine tv S (zab rfl (S.at 8 rfl) (zaA _)) fun a S=>?_
   refine tv S (zab rfl (S.at 0 rfl) (zax _)) fun a S=>?_
   refine tv S (zad rfl (S.at 0 rfl) (S.bx 0 rfl) Tryz.underlying25 rfl (vs:=[.bool b1,aS x1]) zca rfl) fun a S=>?_
   refine tv S (zab rfl (S.at 10 rfl) (zaA _)) fun a S=>?_
   refine tv S (zab rfl (S.at 0 rfl) (zax _)) fun a S=>?_
   refine tv S (zad rfl (S.at 0 rfl) (S.bx 1 rfl) Tryz.underlying25 rfl (vs:=[.bool b2,aS x2]) zca rfl) fun a S=>?_
   refine ty S (F:=ZL (max K K') 4 ([zOf b1 x1.N,zOf b2 x2.N])) (zcQ rfl (S.at 3 rfl) (S.at 0 rfl) (((show Z1 K (zOf b1 x1.N) ((aZ b1 x1)) _ from⟨b1,x1,rfl,rfl,hk1,(S.num 2 rfl)⟩)).to rfl (by omega)) (((show Z1 K' (zOf b2 x2.N) ((aZ b2 x2)) _ from⟨b2,x2,rfl,rfl,hk3,(S.num 0 rfl)⟩)).to rfl (by omega))) fun v a V6 hF hb S=>?_
   obtain⟨ov1,hov1⟩:∃z,z=v:=⟨_,rfl⟩
   rw[<-hov1]at hF S
   have rov1:=hF
   refine tc S (F:=ZT ((max K K')+1) ((zOf b1 x1.N)+(zOf b2 x2.N))) (rc1 Tryz.func118 (S.at 0 rfl)) (zqv (rov1).row) fun v a V7 hF hb S=>?_
   replace rov1:=rov1.keep hb
   obtain⟨b3,x3,rfl,hz1,hk5,ok5⟩:=hF
   have S:=S.know ok5
   refine tv S (zcG rfl (S.at 0 rfl) (zcP _ _ _ _)) fun a S=>?_
   refine mv S 14 fun a S=>?_
   refine tv S (zaU rfl (S.at 1 rfl) (S.at 0 rfl) (zd3 _ _ _ _ _ _ _)) fun a S=>?_
   refine sto S 2 (fun ht=>zaj rfl (S.at 17 rfl) (S.at 0 rfl) zaN rfl (zvZ rfl) ht) fun V8 S=>?_
   refine hK5 _ _ ?_
   refine wp_ret ?_
   exact zar rfl S (S.at 17 rfl) (i:=2) rfl Tryz.underlying96 rfl zaN ⟨_,rfl,⟨_,x3,y1,rfl,zqb hc14 hq1 hq2 (ztS hz1),zv2 hk5 (by omega),zv2 hk2 (by omega),(S.num 0 rfl),(S.num 4 rfl)⟩,S.below⟩
  ·refine wp_cond_false ((S.at 0 rfl).trans (congrArg Value.bool hc14)) ?_
   refine wp_skip ?_
   refine hK3 _ _ ?_
   refine wp_seq_k fun K6 hK6=>?_
   refine wsp fun K7 hK7=>?_
   refine mv S 5 fun a S=>?_
   refine tc S (rc1 Tryz.func119 (S.at 0 rfl)) (zqs (n1r S 3 hk2)) fun v a V9 hF hb S=>?_
   subst hF
   refine mv S 6 fun a S=>?_
   refine tc S (rc1 Tryz.func119 (S.at 0 rfl)) (zqs (n1r S 1 hk4)) fun v a V10 hF hb S=>?_
   subst hF
   refine tv S (ze5 (k:=bitsN y1.N) (m:=bitsN y2.N) rfl (S.at 2 rfl) (S.at 0 rfl) (by omega)) fun a S=>?_
   refine tv S (zcp rfl (S.at 0 rfl) rfl) fun a S=>?_
   refine hK7 _ _ ?_
   rcases zv9 (decide (64<(((bitsN y1.N)+(bitsN y2.N):Nat):Int)))with hc31|hc31
   ·refine wp_cond_true ((S.at 0 rfl).trans (congrArg Value.bool hc31)) ?_
    have S:=S.keep [6,5,4,3,2] (ls':=[(6,aS y2),(5,aS y1),(4,pT g3 0),(3,pT g2 0),(2,pT g1 0)]) rfl
    refine zaD ?_
    refine mv S 1 fun a S=>?_
    refine mv S 1 fun a S=>?_
    refine tc S (F:=N2 (K) (K') (y1.N/Nat.gcd y1.N y2.N) (y2.N/Nat.gcd y1.N y2.N)) (rc2 Tryz.func116 (S.at 1 rfl) (S.at 0 rfl)) (zjC (T.keep S.below) (n1r S 3 hk2) (n1r S 1 hk4) (by omega) (by omega)) fun v a V11 hF hb S=>?_
    obtain⟨tv1,tv2,rfl,tf1,tf2⟩:=hF
    obtain⟨x4,rfl,hN1,hn1,hk6,ok6⟩:=tf1
    obtain⟨x5,rfl,hN2,hn2,hk7,ok7⟩:=tf2
    have S:=S.know ok7
    have S:=S.know ok6
    refine mv S 0 fun a S=>?_
    refine tv S (zaT rfl (S.at 0 rfl) rfl) fun a S=>?_
    refine tv S (zaT rfl (S.at 1 rfl) rfl) fun a S=>?_
    refine av S (zak rfl (S.at 1 rfl)) fun a S=>?_
    refine av S (zak rfl (S.at 1 rfl)) fun a S=>?_
    refine hK6 _ _ ?_
    refine wp_seq_k fun K8 hK8=>?_
    obtain⟨W2,hW2⟩:∃W,W=V11:=⟨_,rfl⟩
    rw[<-hW2]at S ⊢
    have S0:=S
    refine fr 16 [38,39,40,41,42,43,44,45,46,47,48,49,50,51,52,53] [IsV (pT g1 0),IsV ((aZ b1 x1)),IsV (aS x5),Z1 (K+K') ((zOf b1 x1.N)*(y2.N/Nat.gcd y1.N y2.N:Nat)),IsV (pT g2 0),IsV ((aZ b2 x2)),IsV (aS x4),Z1 (K'+K) ((zOf b2 x2.N)*(y1.N/Nat.gcd y1.N y2.N:Nat)),ZL (max (K+K') (K'+K)) 4 ([(zOf b1 x1.N)*(y2.N/Nat.gcd y1.N y2.N:Nat),(zOf b2 x2.N)*(y1.N/Nat.gcd y1.N y2.N:Nat)]),ZT ((max (K+K') (K'+K))+1) (((zOf b1 x1.N)*(y2.N/Nat.gcd y1.N y2.N:Nat))+((zOf b2 x2.N)*(y1.N/Nat.gcd y1.N y2.N:Nat))),ZT ((max (K+K') (K'+K))+1) (((zOf b1 x1.N)*(y2.N/Nat.gcd y1.N y2.N:Nat))+((zOf b2 x2.N)*(y1.N/Nat.gcd y1.N y2.N:Nat))),IsV (pT g1 2),IsV (aS y1),IsV (aS x5),NT (K+K') (y1.N*(y2.N/Nat.gcd y1.N y2.N)),QP (max ((max (K+K') (K'+K))+1) (K+K')) (((zOf b1 x1.N)*(y2.N/Nat.gcd y1.N y2.N:Nat))+((zOf b2 x2.N)*(y1.N/Nat.gcd y1.N y2.N:Nat))) (y1.N*(y2.N/Nat.gcd y1.N y2.N))] S ?_ ?_
    ·refine sc (fun _ _ S _ _=>sv rfl (zab rfl (S.at 10 rfl) (zaA _))) ?_
     refine sc (fun _ _ S _ hd=>sv rfl (zad rfl (hd.v 0 rfl rfl) (S.bx 0 rfl) Tryz.underlying94 rfl (vs:=[.bool b1,aS x1]) zcb rfl)) ?_
     refine sc (fun _ _ S _ _=>sv rfl (zao rfl (S.at 0 rfl))) ?_
     refine sc (fun _ _ S _ hd=>sl rfl (rc2 Tryz.func120 (hd.v 1 rfl rfl) (hd.v 2 rfl rfl)) (zeZ (show Z1 K (zOf b1 x1.N) ((aZ b1 x1)) _ from⟨b1,x1,rfl,rfl,hk1,(S.num 4 rfl)⟩) (show NT K' (y2.N/Nat.gcd y1.N y2.N) (aS x5) _ from⟨x5,rfl,hN2,hn2,hk7,(S.num 1 rfl)⟩).any)) ?_
     refine sc (fun _ _ S _ _=>sv rfl (zab rfl (S.at 9 rfl) (zaA _))) ?_
     refine sc (fun _ _ S _ hd=>sv rfl (zad rfl (hd.v 4 rfl rfl) (S.bx 1 rfl) Tryz.underlying94 rfl (vs:=[.bool b2,aS x2]) zcb rfl)) ?_
     refine sc (fun _ _ S _ _=>sv rfl (zao rfl (S.at 1 rfl))) ?_
     refine sc (fun _ _ S _ hd=>sl rfl (rc2 Tryz.func120 (hd.v 5 rfl rfl) (hd.v 6 rfl rfl)) (zeZ (show Z1 K' (zOf b2 x2.N) ((aZ b2 x2)) _ from⟨b2,x2,rfl,rfl,hk3,(S.num 2 rfl)⟩) (show NT K (y1.N/Nat.gcd y1.N y2.N) (aS x4) _ from⟨x4,rfl,hN1,hn1,hk6,(S.num 0 rfl)⟩).any)) ?_
     refine sc (fun _ _ _ _ hd=>sy rfl (zcQ rfl rfl rfl (((hd.r 3 rfl rfl)).to rfl (by omega)) (((hd.r 7 rfl rfl)).to rfl (by omega)))) ?_
     refine sc (fun _ _ _ _ hd=>sl rfl (rc1 Tryz.func118 rfl) (zqv ((hd.r 8 rfl rfl)).row)) ?_
     refine sc (fun _ _ _ _ hd=>sv rfl (zcG rfl rfl (ztk (hd.r 9 rfl rfl))) (hd.r 9 rfl rfl)) ?_
     refine sc (fun _ _ S _ _=>sv rfl (zab rfl (S.at 10 rfl) (za2 _))) ?_
     refine sc (fun _ _ S _ hd=>sv rfl (zap rfl (hd.v 11 rfl rfl) (S.bx 0 rfl) (Tryz.isAgg23 _) rfl)) ?_
     refine sc (fun _ _ S _ _=>sv rfl (zao rfl (S.at 0 rfl))) ?_
     refine sc (fun _ _ S _ hd=>sl rfl (rc2 Tryz.func115 (hd.v 12 rfl rfl) (hd.v 13 rfl rfl)) (zqt (n1r S 5 hk2) (show NT K' (y2.N/Nat.gcd y1.N y2.N) (aS x5) _ from⟨x5,rfl,hN2,hn2,hk7,(S.num 1 rfl)⟩).any (by omega) (by omega))) ?_
     refine sc (fun _ _ _ _ hd=>by
      obtain⟨v,hv,hq⟩:=zqO (T:=96) (K3:=(max ((max (K+K') (K'+K))+1) (K+K'))) (by decide) (hd.r 10 rfl rfl) (hd.r 14 rfl rfl) (by omega) (by omega)
      exact sv rfl (zaU rfl rfl rfl hv) hq) ?_
     exact sn
    ·intro a2 V12 S hB hf
     obtain⟨b4,x6,y3,hv1,hq3,hk8,hk9,ok8,ok9⟩:=hf.r 15 rfl rfl
     have S:=S.add hv1
     have S:=S.know ok8
     have S:=S.know ok9
     clear hf S0
     show wpList _ _ _ [_] _ _
     refine sto S 2 (fun ht=>zaj rfl (S.at 9 rfl) (S.at 0 rfl) zaN rfl (zvZ rfl) ht) fun V13 S=>?_
     refine hK8 _ _ ?_
     refine wp_ret ?_
     exact zar rfl S (S.at 9 rfl) (i:=2) rfl Tryz.underlying96 rfl zaN ⟨_,rfl,⟨_,x6,y3,rfl,zr4 hq1 hq2 (ztS hq3.1) hq3.2.1,zv2 hk8 (by omega),zv2 hk9 (by omega),(S.num 1 rfl),(S.num 0 rfl)⟩,S.below⟩
   ·refine wp_cond_false ((S.at 0 rfl).trans (congrArg Value.bool hc31)) ?_
    refine wp_skip ?_
    refine hK6 _ _ ?_
    refine wp_seq_k fun K9 hK9=>?_
    have S:=S.keep [6,5,4,3,2] (ls':=[(6,aS y2),(5,aS y1),(4,pT g3 0),(3,pT g2 0),(2,pT g1 0)]) rfl
    obtain⟨W3,hW3⟩:∃W,W=V10:=⟨_,rfl⟩
    rw[<-hW3]at S ⊢
    have S0:=S
    refine fr 16 [38,39,40,41,42,43,44,45,46,47,48,49,50,51,52,53] [IsV (pT g1 0),IsV ((aZ b1 x1)),IsV (aS y2),Z1 (K+K') ((zOf b1 x1.N)*(y2.N:Nat)),IsV (pT g2 0),IsV ((aZ b2 x2)),IsV (aS y1),Z1 (K'+K) ((zOf b2 x2.N)*(y1.N:Nat)),ZL (max (K+K') (K'+K)) 4 ([(zOf b1 x1.N)*(y2.N:Nat),(zOf b2 x2.N)*(y1.N:Nat)]),ZT ((max (K+K') (K'+K))+1) (((zOf b1 x1.N)*(y2.N:Nat))+((zOf b2 x2.N)*(y1.N:Nat))),ZT ((max (K+K') (K'+K))+1) (((zOf b1 x1.N)*(y2.N:Nat))+((zOf b2 x2.N)*(y1.N:Nat))),IsV (pT g1 2),IsV (aS y1),IsV (aS y2),NT (K+K') (y1.N*y2.N),QP (max ((max (K+K') (K'+K))+1) (K+K')) (((zOf b1 x1.N)*(y2.N:Nat))+((zOf b2 x2.N)*(y1.N:Nat))) (y1.N*y2.N)] S ?_ ?_
    ·refine sc (fun _ _ S _ _=>sv rfl (zab rfl (S.at 4 rfl) (zaA _))) ?_
     refine sc (fun _ _ S _ hd=>sv rfl (zad rfl (hd.v 0 rfl rfl) (S.bx 0 rfl) Tryz.underlying94 rfl (vs:=[.bool b1,aS x1]) zcb rfl)) ?_
     refine sc (fun _ _ S _ _=>sv rfl (zao rfl (S.at 0 rfl))) ?_
     refine sc (fun _ _ S _ hd=>sl rfl (rc2 Tryz.func120 (hd.v 1 rfl rfl) (hd.v 2 rfl rfl)) (zeZ (show Z1 K (zOf b1 x1.N) ((aZ b1 x1)) _ from⟨b1,x1,rfl,rfl,hk1,(S.num 2 rfl)⟩) (n1r S 1 hk4))) ?_
     refine sc (fun _ _ S _ _=>sv rfl (zab rfl (S.at 3 rfl) (zaA _))) ?_
     refine sc (fun _ _ S _ hd=>sv rfl (zad rfl (hd.v 4 rfl rfl) (S.bx 1 rfl) Tryz.underlying94 rfl (vs:=[.bool b2,aS x2]) zcb rfl)) ?_
     refine sc (fun _ _ S _ _=>sv rfl (zao rfl (S.at 1 rfl))) ?_
     refine sc (fun _ _ S _ hd=>sl rfl (rc2 Tryz.func120 (hd.v 5 rfl rfl) (hd.v 6 rfl rfl)) (zeZ (show Z1 K' (zOf b2 x2.N) ((aZ b2 x2)) _ from⟨b2,x2,rfl,rfl,hk3,(S.num 0 rfl)⟩) (n1r S 3 hk2))) ?_
     refine sc (fun _ _ _ _ hd=>sy rfl (zcQ rfl rfl rfl (((hd.r 3 rfl rfl)).to rfl (by omega)) (((hd.r 7 rfl rfl)).to rfl (by omega)))) ?_
     refine sc (fun _ _ _ _ hd=>sl rfl (rc1 Tryz.func118 rfl) (zqv ((hd.r 8 rfl rfl)).row)) ?_
     refine sc (fun _ _ _ _ hd=>sv rfl (zcG rfl rfl (ztk (hd.r 9 rfl rfl))) (hd.r 9 rfl rfl)) ?_
     refine sc (fun _ _ S _ _=>sv rfl (zab rfl (S.at 4 rfl) (za2 _))) ?_
     refine sc (fun _ _ S _ hd=>sv rfl (zap rfl (hd.v 11 rfl rfl) (S.bx 0 rfl) (Tryz.isAgg23 _) rfl)) ?_
     refine sc (fun _ _ S _ _=>sv rfl (zao rfl (S.at 0 rfl))) ?_
     refine sc (fun _ _ S _ hd=>sl rfl (rc2 Tryz.func115 (hd.v 12 rfl rfl) (hd.v 13 rfl rfl)) (zqt (n1r S 3 hk2) (n1r S 1 hk4) (by omega) (by omega))) ?_
     refine sc (fun _ _ _ _ hd=>by
      obtain⟨v,hv,hq⟩:=zqO (T:=96) (K3:=(max ((max (K+K') (K'+K))+1) (K+K'))) (by decide) (hd.r 10 rfl rfl) (hd.r 14 rfl rfl) (by omega) (by omega)
      exact sv rfl (zaU rfl rfl rfl hv) hq) ?_
     exact sn
    ·intro a3 V14 S hB hf
     obtain⟨b5,x7,y4,hv2,hq4,hk10,hk11,ok10,ok11⟩:=hf.r 15 rfl rfl
     have S:=S.add hv2
     have S:=S.know ok10
     have S:=S.know ok11
     clear hf S0
     show wpList _ _ _ [_] _ _
     refine sto S 2 (fun ht=>zaj rfl (S.at 3 rfl) (S.at 0 rfl) zaN rfl (zvZ rfl) ht) fun V15 S=>?_
     refine hK9 _ _ ?_
     refine wp_ret ?_
     exact zar rfl S (S.at 3 rfl) (i:=2) rfl Tryz.underlying96 rfl zaN ⟨_,rfl,⟨_,x7,y4,rfl,zob hq1 hq2 (ztS hq4.1) hq4.2.1,zv2 hk10 (by omega),zv2 hk11 (by omega),(S.num 1 rfl),(S.num 0 rfl)⟩,S.below⟩
end Go.Proofs.YtipckjmgdghkiaaGreatDoor
