/- A part. -/
import Derived.Test.YtipckjmgdghkiaaGreatDoorGMtV
import Derived.Test.YtipckjmgdghkiaaGreatDoorGSLOn
set_option maxHeartbeats 4000000
set_option maxRecDepth 100000
namespace Go.Proofs.YtipckjmgdghkiaaGreatDoor
open Go Go.RowKit
section
variable {k K:Nat}{a b c d p x y z v:QQ}{m:Mt}
def SmP (k:Nat)(p:QQ):Prop:=Sm k p.1/\Sm k p.2
theorem SmP.mono (h:SmP k p)(hk:k<=K):SmP K p:=⟨h.1.mono hk,h.2.mono hk⟩
theorem SmP.sub (h:SmP k p)(h':SmP K x):SmP (k+K+1) (p.1 - x.1,p.2 - x.2):=⟨h.1.sub h'.1,h.2.sub h'.2⟩
theorem znO {A B:QQ}(h:zbG a b c d= .over A B):zc0 a b c d A/\zc0 a b c d B:=by
 have hm:=fun q=>ziu (a:=a) (b:=b) (c:=c) (d:=d) (q:=q)
 unfold zbG at h
 split at h
 ·split at h <;> cases h
 ·cases h
 ·rename_i A' B' l e
  rw[e]at hm
  cases h
  exact⟨((hm A).1 List.mem_cons_self).1,((hm _).1 (List.mem_cons_of_mem _ (List.getLast_mem _))).1⟩
theorem zkk {e:QQ}(h:zc0 a b c d e)(ha:SmP k a)(hb:SmP k b)(hc:SmP k c)(hd:SmP k d):SmP k e:=by
 rcases h with rfl|rfl|rfl|rfl
 ·exact ha
 ·exact hb
 ·exact hc
 ·exact hd
def zlF (a b p:QQ):Bool:=decide (zan (absR (a.1 - b.1)+absR (a.2 - b.2)) (absR (a.1 - p.1)+absR (a.2 - p.2)+(absR (p.1 - b.1)+absR (p.2 - b.2)))=0)&&decide (zan ((b.1 - a.1)*(p.2 - a.2) - (b.2 - a.2)*(p.1 - a.1)) 0=0)
theorem zcX (h:onS a b p):zlF a b p=true:=by
 have h1:=of_decide_eq_true (zun (zmJ.2 h))
 have h2:cz a b p=0:=h.1
 unfold zlF
 rw[Bool.and_eq_true]
 refine⟨decide_eq_true ?_,decide_eq_true ?_⟩
 ·rw[zdu,h1];rfl
 ·exact zbZ.2 h2
theorem ztw (h:decide (zan (absR (a.1 - b.1)+absR (a.2 - b.2)) (absR (a.1 - p.1)+absR (a.2 - p.2)+(absR (p.1 - b.1)+absR (p.2 - b.2)))=0)=true):decide (zan ((b.1 - a.1)*(p.2 - a.2) - (b.2 - a.2)*(p.1 - a.1)) 0=0)=zlF a b p:=by unfold zlF;rw[h];rfl
theorem ztx (h:decide (zan (absR (a.1 - b.1)+absR (a.2 - b.2)) (absR (a.1 - p.1)+absR (a.2 - p.2)+(absR (p.1 - b.1)+absR (p.2 - b.2)))=0)=false):false=zlF a b p:=by unfold zlF;rw[h];rfl
structure Lies (a b c p:QQ) (m:Mt) (k:Nat):Prop where
 kind:(m.kind=1/\m.fst=m.snd)\/(m.kind=2/\lt2 m.fst m.snd)
 fst:zbE a b c p m.fst
 snd:zbE a b c p m.snd
 p_in:onS m.fst m.snd p
 sm:SmP k m.fst
 sm2:SmP k m.snd
theorem lies (hp:onS a b p)(ha:SmP k a)(hb:SmP k b)(hc:SmP k c)(hk:SmP k p):Lies a b c p (zbG a b c p) k:=by
 have hI:zbE a b c p p:=⟨hp,zhm c p⟩
 rcases zpx zho hI with e|⟨A,B,e,hlt,hA,hB,hon⟩
 ·rw[e];exact⟨.inl ⟨rfl,rfl⟩,hI,hI,zfj p p,hk,hk⟩
 ·obtain⟨h1,h2⟩:=znO e
  rw[e];exact⟨.inr ⟨rfl,hlt⟩,hA,hB,hon,zkk h1 ha hb hc hk,zkk h2 ha hb hc hk⟩
theorem Lies.cmp (h:Lies a b c p m k):(decide (za0 m.fst.1 m.fst.2 m.snd.1 m.snd.2=0) != decide (m.kind=1))=false/\decide (0<za0 m.fst.1 m.fst.2 m.snd.1 m.snd.2)=false:=by
 rcases h.kind with⟨k1,e⟩|⟨k2,hlt⟩
 ·rw[k1,e,zcC.2 rfl];exact⟨rfl,rfl⟩
 ·have h1:=zdf.2 hlt
  rw[k2]
  refine⟨?_,decide_eq_false (by omega)⟩
  rw[show decide (za0 m.fst.1 m.fst.2 m.snd.1 m.snd.2=0)=false from decide_eq_false (by omega)];rfl
theorem Lies.not12 (h:Lies a b c p m k)(h1:(!decide (m.kind=1))=true):(!decide (m.kind=2))=false:=by
 rcases h.kind with⟨k1,-⟩|⟨k2,-⟩
 ·rw[k1]at h1;exact absurd h1 (by decide)
 ·rw[k2];rfl
theorem znP {q:QQ}(hp:onS a b p)(h:decide (den a b c p≠0)=true)(hq:q=zcx a b c p):za0 q.1 q.2 p.1 p.2=0:=by
 have hd:=of_decide_eq_true h
 have e:=zgd hd hp.1 (zhm c p).1
 unfold zcx at hq
 rw[if_neg hd,<-e]at hq
 rw[hq];exact zcC.2 rfl
theorem zuG {q:Rat}(h:decide (zan q 0<0)=false):0<=q:=by
 have h1:=of_decide_eq_false h
 rw[zdu]at h1
 exact zdI.1 (by omega)
theorem zty {q:Rat}(h:decide (0<zan q ((1:Int):Rat))=false):q<=1:=by
 have h1:=of_decide_eq_false h
 exact zdI.1 (show zan q ((1:Int):Rat)<=0 by omega)
def Mt.eqB:Mt->Mt->Bool
 | .none,.none=>true
 | .point A,.point B=>decide (A=B)
 | .over A B,.over C D=>decide (A=C)&&decide (B=D)
 |_,_=>false
theorem Mt.eq_of {m m':Mt}(h:Mt.eqB m m'=true):m=m':=by
 cases m <;> cases m' <;> simp[Mt.eqB]at h
 ·rfl
 ·rw[h]
 ·rw[h.1,h.2]
end
def zdK (l:List PEl):Bool:=l.any (zih 2)
theorem zlG {p0 p1 p2:PEl}(h:zdK [p0,p1,p2]=false):zih 2 p0=false/\zih 2 p1=false/\zih 2 p2=false:=by simpa[zdK]using h
theorem zrL {A:Option Addr}{c:Nat}{l:List PEl}{V:World}(hR:PRds V V.heap.size A l)(hll:l.length<=100000000000000):
  Calls Tryz.prog 8 #[.slice A l.length c] V (zaf V (fun v _=>v= .bool (zdK l))):=by
 refine fb Tryz.func8 Tryz.ntmps8 zau (fun a S=>?_)
 refine wsp fun K1 hK1=>?_
 refine ac S fun a S=>?_
 refine hK1 _ _ ?_
 refine wp_seq_k fun K2 hK2=>?_
 refine wsp fun K3 hK3=>?_
 refine ac S fun a S=>?_
 refine hK3 _ _ ?_
 refine wp_block ?_
 have S:=S.keep [3,0] (ls':=[(3,.int .i64 0),(0,.slice A l.length c)]) rfl
 have S:=S.sel [0,1] rfl
 have S:=S.seln [] rfl
 have S:=S.reorder [] rfl (by decide)
 refine wp_loop (fun aI VI=>∃(k:Nat),((l.take k).any (zih 2)=false)/\(k<=l.length)/\Frm 42 [(3,.int .i64 (((k:Nat):Int))),(0,.slice A l.length c)] [] V [] aI VI) (fun aI _=>(l.length) - (intOf (aI.tmps.getD 3 undef)).toNat) ⟨0,rfl,Nat.zero_le _,S⟩ ?_
 rintro a1 V1 ⟨k,hI,hkl,S⟩
 have hm0:a1.tmps.getD 3 undef= .int .i64 (((k:Nat):Int)):=S.at 0 rfl
 refine wp_seq_k fun K4 hK4=>?_
 refine wsp fun K5 hK5=>?_
 refine mv S 0 fun a S=>?_
 refine mv S 2 fun a S=>?_
 refine tv S (zjT rfl (S.at 0 rfl)) fun a S=>?_
 refine tv S (zc9 rfl (S.at 2 rfl) (S.at 0 rfl)) fun a S=>?_
 refine hK5 _ _ ?_
 rcases zv9 (decide (((k:Nat):Int)<((l.length:Nat):Int)))with hc7|hc7
 ·refine wp_cond_true ((S.at 0 rfl).trans (congrArg Value.bool hc7)) ?_
  have hlt:k<l.length:=by have:=of_decide_eq_true hc7;omega
  obtain⟨be,xe,ye,be2,xe2,ye2,hel⟩:∃b x y b' x' y',l[k]=(b,x,y,b',x',y'):=⟨_,_,_,_,_,_,rfl⟩
  obtain⟨⟨hea,heb⟩,hec,hed⟩:=hR.oks hlt hel
  have S:=S.know (hea.later S.below)
  have S:=S.know (heb.later S.below)
  have S:=S.know (hec.later S.below)
  have S:=S.know (hed.later S.below)
  refine wp_skip ?_
  refine hK4 _ _ ?_
  refine wp_seq_k fun K6 hK6=>?_
  refine wp_block ?_
  refine wp_seq_k fun K7 hK7=>?_
  obtain⟨W1,hW1⟩:∃W,W=V1:=⟨_,rfl⟩
  rw[<-hW1]at S ⊢
  have S0:=S
  refine fr 32 [10,11,12,13,14,15,16,17,18,19,20,21,22,23,24,25,26,27,28,29,30,31,32,33,34,35,36,37,38,39,40,41] [IsV (.slice A l.length c),iI ((((k:Nat):Int))),IsV (.pointer (some (zbr A (k*6)))),IsV (.pointer (some (zbr A (k*6)))),IsV (.pointer (some (zbr A (k*6)))),IsV (.pointer (some (zbr A (k*6+1)))),IsV (aS xe),iI ((((xe.n:Nat):Int))),IsV (.slice A l.length c),iI ((((k:Nat):Int))),IsV (.pointer (some (zbr A (k*6)))),IsV (.pointer (some (zbr A (k*6)))),IsV (.pointer (some (zbr A (k*6+2)))),IsV (aS ye),iI ((((ye.n:Nat):Int))),IsV (.slice A l.length c),iI ((((k:Nat):Int))),IsV (.pointer (some (zbr A (k*6)))),IsV (.pointer (some (zbr A (k*6+3)))),IsV (.pointer (some (zbr A (k*6+3)))),IsV (.pointer (some (zbr A (k*6+3+1)))),IsV (aS xe2),iI ((((xe2.n:Nat):Int))),IsV (.slice A l.length c),iI ((((k:Nat):Int))),IsV (.pointer (some (zbr A (k*6)))),IsV (.pointer (some (zbr A (k*6+3)))),IsV (.pointer (some (zbr A (k*6+3+2)))),IsV (aS ye2),iI ((((ye2.n:Nat):Int))),iI ((((max (max (max xe.n ye.n) xe2.n) ye2.n:Nat):Int))),IsV (.bool (decide (2<((max (max (max xe.n ye.n) xe2.n) ye2.n:Nat):Int))))] S ?_ ?_
  ·refine sc (fun _ _ S _ _=>sv rfl (zao rfl (S.at 5 rfl))) ?_
   refine sc (fun _ _ S _ _=>sv rfl (zao rfl (S.at 4 rfl))) ?_
   refine sc (fun _ _ _ _ hd=>sv rfl (zdp (hR.el hlt hel).s hlt rfl (hd.v 0 rfl rfl) (hd.v 1 rfl rfl))) ?_
   refine sc (fun _ _ _ _ hd=>sv rfl (zdQ zno rfl (hd.v 2 rfl rfl))) ?_
   refine sc (fun _ _ _ _ hd=>sv rfl (zdQ zlh rfl (hd.v 3 rfl rfl))) ?_
   refine sc (fun _ _ _ _ hd=>sv rfl (zdQ (zlj (hR.el hlt hel).s) rfl (hd.v 4 rfl rfl))) ?_
   refine sc (fun _ _ S _ hd=>sv rfl (zjS ((hR.below S.below).el hlt hel).c1 rfl (hd.v 5 rfl rfl))) ?_
   refine sc (fun _ _ _ _ hd=>sv rfl (zbY (by decide) rfl (hd.v 6 rfl rfl))) ?_
   refine sc (fun _ _ S _ _=>sv rfl (zao rfl (S.at 5 rfl))) ?_
   refine sc (fun _ _ S _ _=>sv rfl (zao rfl (S.at 4 rfl))) ?_
   refine sc (fun _ _ _ _ hd=>sv rfl (zdp (hR.el hlt hel).s hlt rfl (hd.v 8 rfl rfl) (hd.v 9 rfl rfl))) ?_
   refine sc (fun _ _ _ _ hd=>sv rfl (zdQ zno rfl (hd.v 10 rfl rfl))) ?_
   refine sc (fun _ _ _ _ hd=>sv rfl (zdQ (zli (hR.el hlt hel).s) rfl (hd.v 11 rfl rfl))) ?_
   refine sc (fun _ _ S _ hd=>sv rfl (zjS ((hR.below S.below).el hlt hel).c2 rfl (hd.v 12 rfl rfl))) ?_
   refine sc (fun _ _ _ _ hd=>sv rfl (zbY (by decide) rfl (hd.v 13 rfl rfl))) ?_
   refine sc (fun _ _ S _ _=>sv rfl (zao rfl (S.at 5 rfl))) ?_
   refine sc (fun _ _ S _ _=>sv rfl (zao rfl (S.at 4 rfl))) ?_
   refine sc (fun _ _ _ _ hd=>sv rfl (zdp (hR.el hlt hel).s hlt rfl (hd.v 15 rfl rfl) (hd.v 16 rfl rfl))) ?_
   refine sc (fun _ _ _ _ hd=>sv rfl (zdQ (znp (hR.el hlt hel).s) rfl (hd.v 17 rfl rfl))) ?_
   refine sc (fun _ _ _ _ hd=>sv rfl (zdQ zlh rfl (hd.v 18 rfl rfl))) ?_
   refine sc (fun _ _ _ _ hd=>sv rfl (zdQ (zlj (hR.el hlt hel).s) rfl (hd.v 19 rfl rfl))) ?_
   refine sc (fun _ _ S _ hd=>sv rfl (zjS ((hR.below S.below).el hlt hel).c4 rfl (hd.v 20 rfl rfl))) ?_
   refine sc (fun _ _ _ _ hd=>sv rfl (zbY (by decide) rfl (hd.v 21 rfl rfl))) ?_
   refine sc (fun _ _ S _ _=>sv rfl (zao rfl (S.at 5 rfl))) ?_
   refine sc (fun _ _ S _ _=>sv rfl (zao rfl (S.at 4 rfl))) ?_
   refine sc (fun _ _ _ _ hd=>sv rfl (zdp (hR.el hlt hel).s hlt rfl (hd.v 23 rfl rfl) (hd.v 24 rfl rfl))) ?_
   refine sc (fun _ _ _ _ hd=>sv rfl (zdQ (znp (hR.el hlt hel).s) rfl (hd.v 25 rfl rfl))) ?_
   refine sc (fun _ _ _ _ hd=>sv rfl (zdQ (zli (hR.el hlt hel).s) rfl (hd.v 26 rfl rfl))) ?_
   refine sc (fun _ _ S _ hd=>sv rfl (zjS ((hR.below S.below).el hlt hel).c5 rfl (hd.v 27 rfl rfl))) ?_
   refine sc (fun _ _ _ _ hd=>sv rfl (zbY (by decide) rfl (hd.v 28 rfl rfl))) ?_
   refine sc (fun _ _ _ _ hd=>sv rfl (zsQ rfl (hd.v 7 rfl rfl) (hd.v 14 rfl rfl) (hd.v 22 rfl rfl) (hd.v 29 rfl rfl))) ?_
   refine sc (fun _ _ _ _ hd=>sv rfl (zcp rfl (hd.v 30 rfl rfl) rfl)) ?_
   exact sn
  ·intro a2 V2 S hB hf
   have S:=S.add (hf.v 31 rfl rfl)
   clear hf S0
   show wpList _ _ _ [] _ _
   refine hK7 _ _ ?_
   rcases zv9 (decide (2<((max (max (max xe.n ye.n) xe2.n) ye2.n:Nat):Int)))with hc41|hc41
   ·refine wp_cond_true ((S.at 0 rfl).trans (congrArg Value.bool hc41)) ?_
    refine wsp fun K8 hK8=>?_
    refine ac S fun a S=>?_
    refine hK8 _ _ ?_
    refine wp_ret ?_
    exact zay rfl S (S.at 0 rfl) ⟨_,rfl,congrArg Value.bool (zsP hlt ((zlg hel).symm.trans hc41)).symm,S.below⟩
   ·refine wp_cond_false ((S.at 0 rfl).trans (congrArg Value.bool hc41)) ?_
    refine wp_skip ?_
    refine hK6 _ _ ?_
    refine zaD ?_
    refine mv S 5 fun a S=>?_
    refine tv S (ze5 (k:=k) (m:=1) rfl (S.at 0 rfl) rfl (by omega)) fun a S=>?_
    refine av S (zak rfl (S.at 0 rfl)) fun a S=>?_
    have hI2:(l.take (k+1)).any (zih 2)=false:=by rw[zrs hlt,hI,<-zlg hel];exact hc41
    have S:=S.sel [0,8] rfl
    have S:=S.seln [] rfl
    have S:=S.reorder [] rfl (by decide)
    refine⟨⟨k+1,hI2,hlt,S⟩,?_⟩
    have hm1:=S.at 0 rfl
    rw[hm0,hm1]
    simp only[intOf];omega
 ·refine wp_cond_false ((S.at 0 rfl).trans (congrArg Value.bool hc7)) ?_
  have hge:l.length<=k:=by have:=of_decide_eq_false hc7;omega
  refine wp_exit ?_
  refine hK2 _ _ ?_
  refine wsp fun K9 hK9=>?_
  refine ac S fun a S=>?_
  refine hK9 _ _ ?_
  refine wp_ret ?_
  exact zay rfl S (S.at 0 rfl) ⟨_,rfl,congrArg Value.bool (show false=zdK l by unfold zdK;rw[List.take_of_length_le hge]at hI;exact hI.symm),S.below⟩
theorem zeC {ps:List PEl}{G:Bool}{v:Value}{V:World}(h:GP ps v V)(hG:zdK ps=G):Calls Tryz.prog 8 #[v] V (zaf V fun v _=>v= .bool G):=by
 obtain⟨A,c,rfl,hR,hl,-⟩:=h
 rw[<-hG]
 exact zrL hR hl
theorem ztz {V:World}{v1 v2:Value}{K:Nat}{q q' r r':Rat}{m:Mt}(hk:(0:Int)=m.kind)(f1:q=m.fst.1)(f2:q'=m.fst.2)(s1:r=m.snd.1)(s2:r'=m.snd.2)(h:PT K q q' v1 V)(h':PT K r r' v2 V):
  ∃v,(Instr.build 42 #[(1,v1),(2,v2)]).run Tryz.prog V= .ok v V/\MT K m v V:=by
 subst f1 f2 s1 s2
 obtain⟨b,x,y,d,z,w,rfl,h1⟩:=h.parts6
 obtain⟨b2,x2,y2,d2,z2,w2,rfl,h2⟩:=h'.parts6
 exact⟨_,zrQ (b,x,y,d,z,w) (b2,x2,y2,d2,z2,w2),b,x,y,d,z,w,b2,x2,y2,d2,z2,w2,by rw[<-hk];rfl,h1,h2⟩
theorem zbP {n m:Int}{V:World}(hn:(-9223372036854775808<=n/\n<=9223372036854775807)/\ -9223372036854775808<=m/\m<=9223372036854775807):
  Calls Tryz.prog 25 #[.int .i64 n,.int .i64 m] V (zaf V (PT 2 ((n:Int):Rat) ((m:Int):Rat))):=by
 refine fb Tryz.func25 Tryz.ntmps25 zau (fun a S=>?_)
 refine wsp fun K1 hK1=>?_
 refine ti S (cs:=lY) (zam rfl (Tryz.zeroValue29 _) rfl) (fun g1=>[⟨g1,29,lY⟩]) fun g1 a V1 hgg1 S=>?_
 refine hK1 _ _ ?_
 refine wsp fun K2 hK2=>?_
 refine mv S 1 fun a S=>?_
 refine mv S 3 fun a S=>?_
 refine tc S (F:=PT 2 (((n:Int):Rat)) (((m:Int):Rat))) (rc2 Tryz.func50 (S.at 1 rfl) (S.at 0 rfl)) (zvQ (n:=n) (m:=m) hn) fun v a V2 hF hb S=>?_
 obtain⟨b1,x1,y1,b2,x2,y2,rfl,hq1,hq2,⟨hk1,hk2⟩,⟨hk3,hk4⟩,⟨ok1,ok2⟩,ok3,ok4⟩:=hF
 have S:=S.know ok1
 have S:=S.know ok2
 have S:=S.know ok3
 have S:=S.know ok4
 refine sto S 0 (fun ht=>zaj rfl (S.at 3 rfl) (S.at 0 rfl) zaR rfl (zvZ rfl) ht) fun V3 S=>?_
 refine hK2 _ _ ?_
 refine wp_ret ?_
 exact zar rfl S (S.at 3 rfl) (i:=0) rfl Tryz.underlying29 rfl zaR ⟨_,rfl,(zby S 0 hq1 hq2 hk1 hk2 hk3 hk4),S.below⟩
theorem zhl {K K':Nat}{m:Mt}{v1 v2:Value}{V:World}(h1:MT K (m) v1 V)(h2:MT K' (m) v2 V):
  Calls Tryz.prog 16 #[v1,v2] V (zaf V (fun v _=>v= .bool true)):=by
 obtain⟨b1,x1,y1,b2,x2,y2,b3,x3,y3,b4,x4,y4,rfl,⟨hq1,hq2,hk1,hk2,hk3,hk4,ok1,ok2,ok3,ok4⟩,⟨hq3,hq4,hk5,hk6,hk7,hk8,ok5,ok6,ok7,ok8⟩⟩:=h1
 obtain⟨b5,x5,y5,b6,x6,y6,b7,x7,y7,b8,x8,y8,rfl,⟨hq5,hq6,hk9,hk10,hk11,hk12,ok9,ok10,ok11,ok12⟩,⟨hq7,hq8,hk13,hk14,hk15,hk16,ok13,ok14,ok15,ok16⟩⟩:=h2
 refine fb Tryz.func16 Tryz.ntmps16 (zaa ok9 (zaa ok10 (zaa ok11 (zaa ok12 (zaa ok13 (zaa ok14 (zaa ok15 (zaa ok16 (zaa ok1 (zaa ok2 (zaa ok3 (zaa ok4 (zaa ok5 (zaa ok6 (zaa ok7 (zaa ok8 zau)))))))))))))))) (fun a S=>?_)
 refine wsp fun K1 hK1=>?_
 refine tb S 0 [.int .i8 m.kind,.bool b1,aS x1,aS y1,.bool b2,aS x2,aS y2,.bool b3,aS x3,aS y3,.bool b4,aS x4,aS y4] fun g1 a V1 hgg1 S=>?_
 refine tb S 2 [.int .i8 m.kind,.bool b5,aS x5,aS y5,.bool b6,aS x6,aS y6,.bool b7,aS x7,aS y7,.bool b8,aS x8,aS y8] fun g2 a V2 hgg2 S=>?_
 refine ac S fun a S=>?_
 refine hK1 _ _ ?_
 refine wsp fun K2 hK2=>?_
 refine tv S (zab rfl (S.at 2 rfl) (zb5 _)) fun a S=>?_
 refine tv S (zap rfl (S.at 0 rfl) (S.bx 0 rfl) (Tryz.isAgg40 _) rfl) fun a S=>?_
 refine tv S (zab rfl (S.at 3 rfl) (zb5 _)) fun a S=>?_
 refine tv S (zap rfl (S.at 0 rfl) (S.bx 1 rfl) (Tryz.isAgg40 _) rfl) fun a S=>?_
 refine tv S (zbz (c:=true) (zmP rfl (S.at 2 rfl) (S.at 0 rfl)) (decide_eq_true rfl)) fun a S=>?_
 refine mv S 0 fun a S=>?_
 refine tvg S (S.at 0 rfl) (zab rfl (S.at 8 rfl) (zbi _)) fun a S=>?_
 refine tvg S (S.at 1 rfl) (zaL rfl (S.at 0 rfl) (S.bx 0 rfl) rfl) fun a S=>?_
 refine tvg S (S.at 2 rfl) (zab rfl (S.at 9 rfl) (zbi _)) fun a S=>?_
 refine tvg S (S.at 3 rfl) (zaL rfl (S.at 0 rfl) (S.bx 1 rfl) rfl) fun a S=>?_
 refine tcg S (S.at 4 rfl) (rc2 Tryz.func15 (S.at 2 rfl) (S.at 0 rfl)) (znr (zsO S 8 hq1 hq2 hk1 hk2 hk3 hk4) (zsO S 0 hq5 hq6 hk9 hk10 hk11 hk12) rfl rfl) fun v a V3 hF hb S=>?_
 subst hF
 refine tv S (zas true rfl (S.at 5 rfl) (S.at 0 rfl)) fun a S=>?_
 refine mv S 0 fun a S=>?_
 refine tvg S (S.at 0 rfl) (zab rfl (S.at 15 rfl) (zbj _)) fun a S=>?_
 refine tvg S (S.at 1 rfl) (zaL rfl (S.at 0 rfl) (S.bx 0 rfl) rfl) fun a S=>?_
 refine tvg S (S.at 2 rfl) (zab rfl (S.at 16 rfl) (zbj _)) fun a S=>?_
 refine tvg S (S.at 3 rfl) (zaL rfl (S.at 0 rfl) (S.bx 1 rfl) rfl) fun a S=>?_
 refine tcg S (S.at 4 rfl) (rc2 Tryz.func15 (S.at 2 rfl) (S.at 0 rfl)) (znr (zsO S 12 hq3 hq4 hk5 hk6 hk7 hk8) (zsO S 4 hq7 hq8 hk13 hk14 hk15 hk16) rfl rfl) fun v a V4 hF hb S=>?_
 subst hF
 refine tv S (zas true rfl (S.at 5 rfl) (S.at 0 rfl)) fun a S=>?_
 refine av S (zak rfl (S.at 0 rfl)) fun a S=>?_
 refine hK2 _ _ ?_
 refine wp_ret ?_
 exact zay rfl S (S.at 0 rfl) ⟨_,rfl,rfl,S.below⟩
theorem zfi {k kp:Nat}{q1 q1' q2 q2' q3 q3':Rat}{v1 v2 v3:Value}{V:World}(h1:P1 349 (q1) (q1') v1 V)(h2:P1 349 (q2) (q2') v2 V)(h3:P1 349 (q3) (q3') v3 V)(ma:SmP k (q1,q1'))(mb:SmP k (q2,q2'))(mp:SmP kp (q3,q3'))(hkk:6*k+4*kp+9<=349:=by omega):
  Calls Tryz.prog 30 #[v1,v2,v3] V (zaf V (fun v _=>v= .bool (zlF (q1,q1') (q2,q2') (q3,q3')))):=by
 obtain⟨b1,x1,y1,b2,x2,y2,rfl,hq1,hq2,⟨hk1,hk2⟩,⟨hk3,hk4⟩,⟨ok1,ok2⟩,ok3,ok4⟩:=h1
 obtain⟨b3,x3,y3,b4,x4,y4,rfl,hq3,hq4,⟨hk5,hk6⟩,⟨hk7,hk8⟩,⟨ok5,ok6⟩,ok7,ok8⟩:=h2
 obtain⟨b5,x5,y5,b6,x6,y6,rfl,hq5,hq6,⟨hk9,hk10⟩,⟨hk11,hk12⟩,⟨ok9,ok10⟩,ok11,ok12⟩:=h3
 have hp0:=fun {V':World}=>p1m (V:=V') hq1 hq2 hk1 hk2 hk3 hk4
 have hp1:=fun {V':World}=>p1m (V:=V') hq3 hq4 hk5 hk6 hk7 hk8
 have hp2:=fun {V':World}=>p1m (V:=V') hq5 hq6 hk9 hk10 hk11 hk12
 have hs0:Sm 349 (q1 - q2):=(ma.1.sub mb.1).mono (by omega)
 have hs1:Sm 349 (q1' - q2'):=(ma.2.sub mb.2).mono (by omega)
 have hs2:Sm 349 (absR (q1 - q2)+absR (q1' - q2')):=((ma.1.sub mb.1).absR.add (ma.2.sub mb.2).absR).mono (by omega)
 have hs3:Sm 349 (q1 - q3):=(ma.1.sub mp.1).mono (by omega)
 have hs4:Sm 349 (q1' - q3'):=(ma.2.sub mp.2).mono (by omega)
 have hs5:Sm 349 (absR (q1 - q3)+absR (q1' - q3')):=((ma.1.sub mp.1).absR.add (ma.2.sub mp.2).absR).mono (by omega)
 have hs6:Sm 349 (q3 - q2):=(mp.1.sub mb.1).mono (by omega)
 have hs7:Sm 349 (q3' - q2'):=(mp.2.sub mb.2).mono (by omega)
 have hs8:Sm 349 (absR (q3 - q2)+absR (q3' - q2')):=((mp.1.sub mb.1).absR.add (mp.2.sub mb.2).absR).mono (by omega)
 have hs9:Sm 349 (absR (q1 - q3)+absR (q1' - q3')+(absR (q3 - q2)+absR (q3' - q2'))):=(((ma.1.sub mp.1).absR.add (ma.2.sub mp.2).absR).add ((mp.1.sub mb.1).absR.add (mp.2.sub mb.2).absR)).mono (by omega)
 have hs10:Sm 349 (q2 - q1):=(mb.1.sub ma.1).mono (by omega)
 have hs11:Sm 349 (q2' - q1'):=(mb.2.sub ma.2).mono (by omega)
 have hs12:Sm 349 (q3 - q1):=(mp.1.sub ma.1).mono (by omega)
 have hs13:Sm 349 (q3' - q1'):=(mp.2.sub ma.2).mono (by omega)
 have hs14:Sm 349 ((q2 - q1)*(q3' - q1')):=((mb.1.sub ma.1).mul (mp.2.sub ma.2)).mono (by omega)
 have hs15:Sm 349 ((q2' - q1')*(q3 - q1)):=((mb.2.sub ma.2).mul (mp.1.sub ma.1)).mono (by omega)
 have hs16:Sm 349 ((q2 - q1)*(q3' - q1') - (q2' - q1')*(q3 - q1)):=(((mb.1.sub ma.1).mul (mp.2.sub ma.2)).sub ((mb.2.sub ma.2).mul (mp.1.sub ma.1))).mono (by omega)
 refine fb Tryz.func30 Tryz.ntmps30 (zaa ok9 (zaa ok10 (zaa ok11 (zaa ok12 (zaa ok5 (zaa ok6 (zaa ok7 (zaa ok8 (zaa ok1 (zaa ok2 (zaa ok3 (zaa ok4 zau)))))))))))) (fun a S=>?_)
 refine wsp fun K1 hK1=>?_
 refine tb S 0 (lP b1 x1 y1 b2 x2 y2) fun g1 a V1 hgg1 S=>?_
 refine tb S 2 (lP b3 x3 y3 b4 x4 y4) fun g2 a V2 hgg2 S=>?_
 refine tb S 4 (lP b5 x5 y5 b6 x6 y6) fun g3 a V3 hgg3 S=>?_
 refine ac S fun a S=>?_
 refine hK1 _ _ ?_
 refine wp_seq_k fun K2 hK2=>?_
 rcases zv9 (decide (zan (absR (q1 - q2)+absR (q1' - q2')) (absR (q1 - q3)+absR (q1' - q3')+(absR (q3 - q2)+absR (q3' - q2')))=0))with hs1_|hs1_
 ·skip
  have S:=S.keep [6,5,4,3] (ls':=[(6,.bool false),(5,pT g3 0),(4,pT g2 0),(3,pT g1 0)]) rfl
  obtain⟨W1,hW1⟩:∃W,W=V3:=⟨_,rfl⟩
  rw[<-hW1]at S ⊢
  have S0:=S
  refine fr 23 [7,8,9,10,11,12,13,14,15,16,17,18,19,20,21,22,23,24,25,26,27,28,29] [IsV ((aP b1 x1 y1 b2 x2 y2)),IsV ((aP b3 x3 y3 b4 x4 y4)),QT 349 (absR (q1 - q2)+absR ((q1') - (q2'))),IsV ((aP b1 x1 y1 b2 x2 y2)),IsV ((aP b5 x5 y5 b6 x6 y6)),QT 349 (absR (q1 - q3)+absR ((q1') - (q3'))),IsV ((aP b5 x5 y5 b6 x6 y6)),IsV ((aP b3 x3 y3 b4 x4 y4)),QT 349 (absR (q3 - q2)+absR ((q3') - (q2'))),QL 349 6 ([absR (q1 - q3)+absR ((q1') - (q3')),absR (q3 - q2)+absR ((q3') - (q2'))]),QT 349 ((absR (q1 - q3)+absR ((q1') - (q3')))+(absR (q3 - q2)+absR ((q3') - (q2')))),iB,iB,IsV ((aP b3 x3 y3 b4 x4 y4)),IsV ((aP b1 x1 y1 b2 x2 y2)),PT 349 (q2 - q1) ((q2') - (q1')),IsV ((aP b5 x5 y5 b6 x6 y6)),IsV ((aP b1 x1 y1 b2 x2 y2)),PT 349 (q3 - q1) ((q3') - (q1')),QT 349 ((q2 - q1)*((q3') - (q1')) - ((q2') - (q1'))*(q3 - q1)),iI ((zan ((q2 - q1)*((q3') - (q1')) - ((q2') - (q1'))*(q3 - q1)) 0)),IsV (.bool (decide (zan ((q2 - q1)*((q3') - (q1')) - ((q2') - (q1'))*(q3 - q1)) 0=0))),IsV (.bool (decide (zan ((q2 - q1)*((q3') - (q1')) - ((q2') - (q1'))*(q3 - q1)) 0=0)))] S ?_ ?_
  ·refine sc (fun _ _ S _ _=>sv rfl (zaL rfl (S.at 3 rfl) (S.bx 0 rfl) rfl)) ?_
   refine sc (fun _ _ S _ _=>sv rfl (zaL rfl (S.at 2 rfl) (S.bx 1 rfl) rfl)) ?_
   refine sc (fun _ _ S _ hd=>sl rfl (rc2 Tryz.func76 (hd.v 0 rfl rfl) (hd.v 1 rfl rfl)) (zi0 (p4 S 8 hp0) (p4 S 4 hp1) (by assumption) (by assumption) (by assumption))) ?_
   refine sc (fun _ _ S _ _=>sv rfl (zaL rfl (S.at 3 rfl) (S.bx 0 rfl) rfl)) ?_
   refine sc (fun _ _ S _ _=>sv rfl (zaL rfl (S.at 1 rfl) (S.bx 2 rfl) rfl)) ?_
   refine sc (fun _ _ S _ hd=>sl rfl (rc2 Tryz.func76 (hd.v 3 rfl rfl) (hd.v 4 rfl rfl)) (zi0 (p4 S 8 hp0) (p4 S 0 hp2) (by assumption) (by assumption) (by assumption))) ?_
   refine sc (fun _ _ S _ _=>sv rfl (zaL rfl (S.at 1 rfl) (S.bx 2 rfl) rfl)) ?_
   refine sc (fun _ _ S _ _=>sv rfl (zaL rfl (S.at 2 rfl) (S.bx 1 rfl) rfl)) ?_
   refine sc (fun _ _ S _ hd=>sl rfl (rc2 Tryz.func76 (hd.v 6 rfl rfl) (hd.v 7 rfl rfl)) (zi0 (p4 S 0 hp2) (p4 S 4 hp1) (by assumption) (by assumption) (by assumption))) ?_
   refine sc (fun _ _ _ _ hd=>sy rfl (zbW rfl rfl rfl ((hd.r 5 rfl rfl)).any ((hd.r 8 rfl rfl)).any)) ?_
   refine sc (fun _ _ _ _ hd=>sl rfl (rc1 Tryz.func43 rfl) (zgl ((hd.r 9 rfl rfl)).row (by decide) (by assumption))) ?_
   refine sc (fun _ _ _ _ hd=>sl rfl (rc2 Tryz.func75 rfl rfl) (gtr (zqr ((hd.r 2 rfl rfl)).any ((hd.r 10 rfl rfl)).any (by decide) (by decide)) hs1_)) ?_
   refine sc (fun _ _ _ _ hd=>sv rfl (zao rfl (hd.v 11 rfl rfl))) ?_
   refine sc (fun _ _ S _ hd=>svg rfl (hd.v 12 rfl rfl) (zaL rfl (S.at 2 rfl) (S.bx 1 rfl) rfl)) ?_
   refine sc (fun _ _ S _ hd=>svg rfl (hd.v 12 rfl rfl) (zaL rfl (S.at 3 rfl) (S.bx 0 rfl) rfl)) ?_
   refine sc (fun _ _ S _ hd=>slg rfl (hd.v 12 rfl rfl) (rc2 Tryz.func34 (hd.v 13 rfl rfl) (hd.v 14 rfl rfl)) (zjW (p4 S 4 hp1) (p4 S 8 hp0) (by assumption) (by assumption))) ?_
   refine sc (fun _ _ S _ hd=>svg rfl (hd.v 12 rfl rfl) (zaL rfl (S.at 1 rfl) (S.bx 2 rfl) rfl)) ?_
   refine sc (fun _ _ S _ hd=>svg rfl (hd.v 12 rfl rfl) (zaL rfl (S.at 3 rfl) (S.bx 0 rfl) rfl)) ?_
   refine sc (fun _ _ S _ hd=>slg rfl (hd.v 12 rfl rfl) (rc2 Tryz.func34 (hd.v 16 rfl rfl) (hd.v 17 rfl rfl)) (zjW (p4 S 0 hp2) (p4 S 8 hp0) (by assumption) (by assumption))) ?_
   refine sc (fun _ _ _ _ hd=>slg rfl (hd.v 12 rfl rfl) (rc2 Tryz.func33 rfl rfl) (zs1 ((hd.r 15 rfl rfl)).any ((hd.r 18 rfl rfl)).any (by assumption) (by assumption) (by assumption))) ?_
   refine sc (fun _ _ _ _ hd=>slg rfl (hd.v 12 rfl rfl) (rc1 Tryz.func26 rfl) (zhO ((hd.r 19 rfl rfl)).any)) ?_
   refine sc (fun _ _ _ _ hd=>svg rfl (hd.v 12 rfl rfl) (zdx _ (by decide) rfl (hd.v 20 rfl rfl) rfl)) ?_
   refine sc (fun _ _ _ _ hd=>sv rfl (zas true rfl (hd.v 12 rfl rfl) (hd.v 21 rfl rfl))) ?_
   exact sn
  ·intro a1 V4 S hB hf
   have S:=S.add (hf.v 22 rfl rfl)
   clear hf S0
   show wpList _ _ _ [_] _ _
   refine av S (zak rfl (S.at 0 rfl)) fun a S=>?_
   refine hK2 _ _ ?_
   refine wp_ret ?_
   exact zay rfl S (S.at 0 rfl) ⟨_,rfl,congrArg Value.bool (ztw (a:=(q1,q1')) (b:=(q2,q2')) (p:=(q3,q3')) hs1_),S.below⟩
 ·skip
  have S:=S.keep [6,5,4,3] (ls':=[(6,.bool false),(5,pT g3 0),(4,pT g2 0),(3,pT g1 0)]) rfl
  obtain⟨W2,hW2⟩:∃W,W=V3:=⟨_,rfl⟩
  rw[<-hW2]at S ⊢
  have S0:=S
  refine fr 23 [7,8,9,10,11,12,13,14,15,16,17,18,19,20,21,22,23,24,25,26,27,28,29] [IsV ((aP b1 x1 y1 b2 x2 y2)),IsV ((aP b3 x3 y3 b4 x4 y4)),QT 349 (absR (q1 - q2)+absR ((q1') - (q2'))),IsV ((aP b1 x1 y1 b2 x2 y2)),IsV ((aP b5 x5 y5 b6 x6 y6)),QT 349 (absR (q1 - q3)+absR ((q1') - (q3'))),IsV ((aP b5 x5 y5 b6 x6 y6)),IsV ((aP b3 x3 y3 b4 x4 y4)),QT 349 (absR (q3 - q2)+absR ((q3') - (q2'))),QL 349 6 ([absR (q1 - q3)+absR ((q1') - (q3')),absR (q3 - q2)+absR ((q3') - (q2'))]),QT 349 ((absR (q1 - q3)+absR ((q1') - (q3')))+(absR (q3 - q2)+absR ((q3') - (q2')))),iF,iF,iU,iU,iU,iU,iU,iU,iU,iU,iU,iF] S ?_ ?_
  ·refine sc (fun _ _ S _ _=>sv rfl (zaL rfl (S.at 3 rfl) (S.bx 0 rfl) rfl)) ?_
   refine sc (fun _ _ S _ _=>sv rfl (zaL rfl (S.at 2 rfl) (S.bx 1 rfl) rfl)) ?_
   refine sc (fun _ _ S _ hd=>sl rfl (rc2 Tryz.func76 (hd.v 0 rfl rfl) (hd.v 1 rfl rfl)) (zi0 (p4 S 8 hp0) (p4 S 4 hp1) (by assumption) (by assumption) (by assumption))) ?_
   refine sc (fun _ _ S _ _=>sv rfl (zaL rfl (S.at 3 rfl) (S.bx 0 rfl) rfl)) ?_
   refine sc (fun _ _ S _ _=>sv rfl (zaL rfl (S.at 1 rfl) (S.bx 2 rfl) rfl)) ?_
   refine sc (fun _ _ S _ hd=>sl rfl (rc2 Tryz.func76 (hd.v 3 rfl rfl) (hd.v 4 rfl rfl)) (zi0 (p4 S 8 hp0) (p4 S 0 hp2) (by assumption) (by assumption) (by assumption))) ?_
   refine sc (fun _ _ S _ _=>sv rfl (zaL rfl (S.at 1 rfl) (S.bx 2 rfl) rfl)) ?_
   refine sc (fun _ _ S _ _=>sv rfl (zaL rfl (S.at 2 rfl) (S.bx 1 rfl) rfl)) ?_
   refine sc (fun _ _ S _ hd=>sl rfl (rc2 Tryz.func76 (hd.v 6 rfl rfl) (hd.v 7 rfl rfl)) (zi0 (p4 S 0 hp2) (p4 S 4 hp1) (by assumption) (by assumption) (by assumption))) ?_
   refine sc (fun _ _ _ _ hd=>sy rfl (zbW rfl rfl rfl ((hd.r 5 rfl rfl)).any ((hd.r 8 rfl rfl)).any)) ?_
   refine sc (fun _ _ _ _ hd=>sl rfl (rc1 Tryz.func43 rfl) (zgl ((hd.r 9 rfl rfl)).row (by decide) (by assumption))) ?_
   refine sc (fun _ _ _ _ hd=>sl rfl (rc2 Tryz.func75 rfl rfl) (gtr (zqr ((hd.r 2 rfl rfl)).any ((hd.r 10 rfl rfl)).any (by decide) (by decide)) hs1_)) ?_
   refine sc (fun _ _ _ _ hd=>sv rfl (zao rfl (hd.v 11 rfl rfl))) ?_
   refine sc (fun _ _ _ _ hd=>sk rfl (hd.v 12 rfl rfl)) ?_
   refine sc (fun _ _ _ _ hd=>sk rfl (hd.v 12 rfl rfl)) ?_
   refine sc (fun _ _ _ _ hd=>sk rfl (hd.v 12 rfl rfl)) ?_
   refine sc (fun _ _ _ _ hd=>sk rfl (hd.v 12 rfl rfl)) ?_
   refine sc (fun _ _ _ _ hd=>sk rfl (hd.v 12 rfl rfl)) ?_
   refine sc (fun _ _ _ _ hd=>sk rfl (hd.v 12 rfl rfl)) ?_
   refine sc (fun _ _ _ _ hd=>sk rfl (hd.v 12 rfl rfl)) ?_
   refine sc (fun _ _ _ _ hd=>sk rfl (hd.v 12 rfl rfl)) ?_
   refine sc (fun _ _ _ _ hd=>sk rfl (hd.v 12 rfl rfl)) ?_
   refine sc (fun _ _ _ _ hd=>sv rfl (zas false rfl (hd.v 12 rfl rfl) rfl)) ?_
   exact sn
  ·intro a2 V5 S hB hf
   have S:=S.add (hf.v 22 rfl rfl)
   clear hf S0
   show wpList _ _ _ [_] _ _
   refine av S (zak rfl (S.at 0 rfl)) fun a S=>?_
   refine hK2 _ _ ?_
   refine wp_ret ?_
   exact zay rfl S (S.at 0 rfl) ⟨_,rfl,congrArg Value.bool (ztx (a:=(q1,q1')) (b:=(q2,q2')) (p:=(q3,q3')) hs1_),S.below⟩
theorem zdY {V:World}(T:TT V):
  Calls Tryz.prog 9 #[] V (zaf V (fun v _=>v= .bool true)):=by
 refine fb Tryz.func9 Tryz.ntmps9 zau (fun a S=>?_)
 refine wsp fun K1 hK1=>?_
 refine ac S fun a S=>?_
 refine hK1 _ _ ?_
 refine wsp fun K2 hK2=>?_
 refine tc S (F:=PT 2 (((0:Int):Rat)) (((0:Int):Rat))) (zda Tryz.func25) (zbP (n:=0) (m:=0) (by decide)) fun v a V1 hF hb S=>?_
 obtain⟨b1,x1,y1,b2,x2,y2,rfl,hq1,hq2,⟨hk1,hk2⟩,⟨hk3,hk4⟩,⟨ok1,ok2⟩,ok3,ok4⟩:=hF
 have S:=S.know ok1
 have S:=S.know ok2
 have S:=S.know ok3
 have S:=S.know ok4
 refine tc S (F:=PT 2 (((2:Int):Rat)) (((2:Int):Rat))) (zda Tryz.func25) (zbP (n:=2) (m:=2) (by decide)) fun v a V2 hF hb S=>?_
 obtain⟨b3,x3,y3,b4,x4,y4,rfl,hq3,hq4,⟨hk5,hk6⟩,⟨hk7,hk8⟩,⟨ok5,ok6⟩,ok7,ok8⟩:=hF
 have S:=S.know ok5
 have S:=S.know ok6
 have S:=S.know ok7
 have S:=S.know ok8
 refine tc S (F:=PT 2 (((0:Int):Rat)) (((2:Int):Rat))) (zda Tryz.func25) (zbP (n:=0) (m:=2) (by decide)) fun v a V3 hF hb S=>?_
 obtain⟨b5,x5,y5,b6,x6,y6,rfl,hq5,hq6,⟨hk9,hk10⟩,⟨hk11,hk12⟩,⟨ok9,ok10⟩,ok11,ok12⟩:=hF
 have S:=S.know ok9
 have S:=S.know ok10
 have S:=S.know ok11
 have S:=S.know ok12
 refine tc S (F:=PT 2 (((2:Int):Rat)) (((0:Int):Rat))) (zda Tryz.func25) (zbP (n:=2) (m:=0) (by decide)) fun v a V4 hF hb S=>?_
 obtain⟨b7,x7,y7,b8,x8,y8,rfl,hq7,hq8,⟨hk13,hk14⟩,⟨hk15,hk16⟩,⟨ok13,ok14⟩,ok15,ok16⟩:=hF
 have S:=S.know ok13
 have S:=S.know ok14
 have S:=S.know ok15
 have S:=S.know ok16
 refine tc S (F:=MT 50 (zbG (((0:Int):Rat),((0:Int):Rat)) (((2:Int):Rat),((2:Int):Rat)) (((0:Int):Rat),((2:Int):Rat)) (((2:Int):Rat),((0:Int):Rat)))) (rc4 Tryz.func17 (S.at 3 rfl) (S.at 2 rfl) (S.at 1 rfl) (S.at 0 rfl)) (zmR (T.keep S.below) (zby S 12 hq1 hq2 hk1 hk2 hk3 hk4).any (zby S 8 hq3 hq4 hk5 hk6 hk7 hk8).any (zby S 4 hq5 hq6 hk9 hk10 hk11 hk12).any (zby S 0 hq7 hq8 hk13 hk14 hk15 hk16).any (by decide)) fun v a V5 hF hb S=>?_
 obtain⟨b9,x9,y9,b10,x10,y10,b11,x11,y11,b12,x12,y12,rfl,⟨hq9,hq10,hk17,hk18,hk19,hk20,ok17,ok18,ok19,ok20⟩,⟨hq11,hq12,hk21,hk22,hk23,hk24,ok21,ok22,ok23,ok24⟩⟩:=hF
 have S:=S.know ok17
 have S:=S.know ok18
 have S:=S.know ok19
 have S:=S.know ok20
 have S:=S.know ok21
 have S:=S.know ok22
 have S:=S.know ok23
 have S:=S.know ok24
 refine ti S (cs:=[.int .i8 0,.bool false,.slice none 0 0,.slice none 0 0,.bool false,.slice none 0 0,.slice none 0 0,.bool false,.slice none 0 0,.slice none 0 0,.bool false,.slice none 0 0,.slice none 0 0]) (zam rfl (Tryz.zeroValue42 _) rfl) (fun g1=>[⟨g1,42,[.int .i8 0,.bool false,.slice none 0 0,.slice none 0 0,.bool false,.slice none 0 0,.slice none 0 0,.bool false,.slice none 0 0,.slice none 0 0,.bool false,.slice none 0 0,.slice none 0 0]⟩]) fun g1 a V6 hgg1 S=>?_
 refine sto S 0 (fun ht=>zaj rfl (S.at 0 rfl) (S.at 1 rfl) zaZ rfl (zvZ rfl) ht) fun V7 S=>?_
 refine hK2 _ _ ?_
 refine wsp fun K3 hK3=>?_
 refine tc S (F:=PT 2 (((0:Int):Rat)) (((0:Int):Rat))) (zda Tryz.func25) (zbP (n:=0) (m:=0) (by decide)) fun v a V8 hF hb S=>?_
 obtain⟨b13,x13,y13,b14,x14,y14,rfl,hq13,hq14,⟨hk25,hk26⟩,⟨hk27,hk28⟩,⟨ok25,ok26⟩,ok27,ok28⟩:=hF
 have S:=S.know ok25
 have S:=S.know ok26
 have S:=S.know ok27
 have S:=S.know ok28
 refine tc S (F:=PT 2 (((3:Int):Rat)) (((0:Int):Rat))) (zda Tryz.func25) (zbP (n:=3) (m:=0) (by decide)) fun v a V9 hF hb S=>?_
 obtain⟨b15,x15,y15,b16,x16,y16,rfl,hq15,hq16,⟨hk29,hk30⟩,⟨hk31,hk32⟩,⟨ok29,ok30⟩,ok31,ok32⟩:=hF
 have S:=S.know ok29
 have S:=S.know ok30
 have S:=S.know ok31
 have S:=S.know ok32
 refine tc S (F:=PT 2 (((1:Int):Rat)) (((0:Int):Rat))) (zda Tryz.func25) (zbP (n:=1) (m:=0) (by decide)) fun v a V10 hF hb S=>?_
 obtain⟨b17,x17,y17,b18,x18,y18,rfl,hq17,hq18,⟨hk33,hk34⟩,⟨hk35,hk36⟩,⟨ok33,ok34⟩,ok35,ok36⟩:=hF
 have S:=S.know ok33
 have S:=S.know ok34
 have S:=S.know ok35
 have S:=S.know ok36
 refine tc S (F:=PT 2 (((5:Int):Rat)) (((0:Int):Rat))) (zda Tryz.func25) (zbP (n:=5) (m:=0) (by decide)) fun v a V11 hF hb S=>?_
 obtain⟨b19,x19,y19,b20,x20,y20,rfl,hq19,hq20,⟨hk37,hk38⟩,⟨hk39,hk40⟩,⟨ok37,ok38⟩,ok39,ok40⟩:=hF
 have S:=S.know ok37
 have S:=S.know ok38
 have S:=S.know ok39
 have S:=S.know ok40
 refine tc S (F:=MT 50 (zbG (((0:Int):Rat),((0:Int):Rat)) (((3:Int):Rat),((0:Int):Rat)) (((1:Int):Rat),((0:Int):Rat)) (((5:Int):Rat),((0:Int):Rat)))) (rc4 Tryz.func17 (S.at 3 rfl) (S.at 2 rfl) (S.at 1 rfl) (S.at 0 rfl)) (zmR (T.keep S.below) (zby S 12 hq13 hq14 hk25 hk26 hk27 hk28).any (zby S 8 hq15 hq16 hk29 hk30 hk31 hk32).any (zby S 4 hq17 hq18 hk33 hk34 hk35 hk36).any (zby S 0 hq19 hq20 hk37 hk38 hk39 hk40).any (by decide)) fun v a V12 hF hb S=>?_
 obtain⟨b21,x21,y21,b22,x22,y22,b23,x23,y23,b24,x24,y24,rfl,⟨hq21,hq22,hk41,hk42,hk43,hk44,ok41,ok42,ok43,ok44⟩,⟨hq23,hq24,hk45,hk46,hk47,hk48,ok45,ok46,ok47,ok48⟩⟩:=hF
 have S:=S.know ok41
 have S:=S.know ok42
 have S:=S.know ok43
 have S:=S.know ok44
 have S:=S.know ok45
 have S:=S.know ok46
 have S:=S.know ok47
 have S:=S.know ok48
 refine ti S (cs:=[.int .i8 0,.bool false,.slice none 0 0,.slice none 0 0,.bool false,.slice none 0 0,.slice none 0 0,.bool false,.slice none 0 0,.slice none 0 0,.bool false,.slice none 0 0,.slice none 0 0]) (zam rfl (Tryz.zeroValue42 _) rfl) (fun g2=>[⟨g1,42,(lM ((zbG (((0:Int):Rat),((0:Int):Rat)) (((2:Int):Rat),((2:Int):Rat)) (((0:Int):Rat),((2:Int):Rat)) (((2:Int):Rat),((0:Int):Rat))).kind) b9 x9 y9 b10 x10 y10 b11 x11 y11 b12 x12 y12)⟩,⟨g2,42,[.int .i8 0,.bool false,.slice none 0 0,.slice none 0 0,.bool false,.slice none 0 0,.slice none 0 0,.bool false,.slice none 0 0,.slice none 0 0,.bool false,.slice none 0 0,.slice none 0 0]⟩]) fun g2 a V13 hgg2 S=>?_
 refine sto S 1 (fun ht=>zaj rfl (S.at 0 rfl) (S.at 1 rfl) zaZ rfl (zvZ rfl) ht) fun V14 S=>?_
 refine hK3 _ _ ?_
 refine wsp fun K4 hK4=>?_
 refine tc S (F:=PT 2 (((0:Int):Rat)) (((0:Int):Rat))) (zda Tryz.func25) (zbP (n:=0) (m:=0) (by decide)) fun v a V15 hF hb S=>?_
 obtain⟨b25,x25,y25,b26,x26,y26,rfl,hq25,hq26,⟨hk49,hk50⟩,⟨hk51,hk52⟩,⟨ok49,ok50⟩,ok51,ok52⟩:=hF
 have S:=S.know ok49
 have S:=S.know ok50
 have S:=S.know ok51
 have S:=S.know ok52
 refine tc S (F:=PT 2 (((1:Int):Rat)) (((0:Int):Rat))) (zda Tryz.func25) (zbP (n:=1) (m:=0) (by decide)) fun v a V16 hF hb S=>?_
 obtain⟨b27,x27,y27,b28,x28,y28,rfl,hq27,hq28,⟨hk53,hk54⟩,⟨hk55,hk56⟩,⟨ok53,ok54⟩,ok55,ok56⟩:=hF
 have S:=S.know ok53
 have S:=S.know ok54
 have S:=S.know ok55
 have S:=S.know ok56
 refine tc S (F:=PT 2 (((2:Int):Rat)) (((0:Int):Rat))) (zda Tryz.func25) (zbP (n:=2) (m:=0) (by decide)) fun v a V17 hF hb S=>?_
 obtain⟨b29,x29,y29,b30,x30,y30,rfl,hq29,hq30,⟨hk57,hk58⟩,⟨hk59,hk60⟩,⟨ok57,ok58⟩,ok59,ok60⟩:=hF
 have S:=S.know ok57
 have S:=S.know ok58
 have S:=S.know ok59
 have S:=S.know ok60
 refine tc S (F:=PT 2 (((3:Int):Rat)) (((0:Int):Rat))) (zda Tryz.func25) (zbP (n:=3) (m:=0) (by decide)) fun v a V18 hF hb S=>?_
 obtain⟨b31,x31,y31,b32,x32,y32,rfl,hq31,hq32,⟨hk61,hk62⟩,⟨hk63,hk64⟩,⟨ok61,ok62⟩,ok63,ok64⟩:=hF
 have S:=S.know ok61
 have S:=S.know ok62
 have S:=S.know ok63
 have S:=S.know ok64
 refine tc S (F:=MT 50 (zbG (((0:Int):Rat),((0:Int):Rat)) (((1:Int):Rat),((0:Int):Rat)) (((2:Int):Rat),((0:Int):Rat)) (((3:Int):Rat),((0:Int):Rat)))) (rc4 Tryz.func17 (S.at 3 rfl) (S.at 2 rfl) (S.at 1 rfl) (S.at 0 rfl)) (zmR (T.keep S.below) (zby S 12 hq25 hq26 hk49 hk50 hk51 hk52).any (zby S 8 hq27 hq28 hk53 hk54 hk55 hk56).any (zby S 4 hq29 hq30 hk57 hk58 hk59 hk60).any (zby S 0 hq31 hq32 hk61 hk62 hk63 hk64).any (by decide)) fun v a V19 hF hb S=>?_
 obtain⟨b33,x33,y33,b34,x34,y34,b35,x35,y35,b36,x36,y36,rfl,⟨hq33,hq34,hk65,hk66,hk67,hk68,ok65,ok66,ok67,ok68⟩,⟨hq35,hq36,hk69,hk70,hk71,hk72,ok69,ok70,ok71,ok72⟩⟩:=hF
 have S:=S.know ok65
 have S:=S.know ok66
 have S:=S.know ok67
 have S:=S.know ok68
 have S:=S.know ok69
 have S:=S.know ok70
 have S:=S.know ok71
 have S:=S.know ok72
 refine ti S (cs:=[.int .i8 0,.bool false,.slice none 0 0,.slice none 0 0,.bool false,.slice none 0 0,.slice none 0 0,.bool false,.slice none 0 0,.slice none 0 0,.bool false,.slice none 0 0,.slice none 0 0]) (zam rfl (Tryz.zeroValue42 _) rfl) (fun g3=>[⟨g1,42,(lM ((zbG (((0:Int):Rat),((0:Int):Rat)) (((2:Int):Rat),((2:Int):Rat)) (((0:Int):Rat),((2:Int):Rat)) (((2:Int):Rat),((0:Int):Rat))).kind) b9 x9 y9 b10 x10 y10 b11 x11 y11 b12 x12 y12)⟩,⟨g2,42,(lM ((zbG (((0:Int):Rat),((0:Int):Rat)) (((3:Int):Rat),((0:Int):Rat)) (((1:Int):Rat),((0:Int):Rat)) (((5:Int):Rat),((0:Int):Rat))).kind) b21 x21 y21 b22 x22 y22 b23 x23 y23 b24 x24 y24)⟩,⟨g3,42,[.int .i8 0,.bool false,.slice none 0 0,.slice none 0 0,.bool false,.slice none 0 0,.slice none 0 0,.bool false,.slice none 0 0,.slice none 0 0,.bool false,.slice none 0 0,.slice none 0 0]⟩]) fun g3 a V20 hgg3 S=>?_
 refine sto S 2 (fun ht=>zaj rfl (S.at 0 rfl) (S.at 1 rfl) zaZ rfl (zvZ rfl) ht) fun V21 S=>?_
 refine hK4 _ _ ?_
 refine wp_seq_k fun K5 hK5=>?_
 have S:=S.keep [3,2,1,0] (ls':=[(3,pT g3 0),(2,pT g2 0),(1,pT g1 0),(0,.bool false)]) rfl
 obtain⟨W1,hW1⟩:∃W,W=V21:=⟨_,rfl⟩
 rw[<-hW1]at S ⊢
 have S0:=S
 refine fr 26 [19,20,21,22,23,24,25,26,27,28,29,30,31,32,33,34,35,36,37,38,39,40,41,42,43,44] [IsV ((aM ((zbG (((0:Int):Rat),((0:Int):Rat)) (((2:Int):Rat),((2:Int):Rat)) (((0:Int):Rat),((2:Int):Rat)) (((2:Int):Rat),((0:Int):Rat))).kind) b9 x9 y9 b10 x10 y10 b11 x11 y11 b12 x12 y12)),PT 2 (((1:Int):Rat)) (((1:Int):Rat)),PT 2 (((1:Int):Rat)) (((1:Int):Rat)),MT 2 ((.point (((1:Int):Rat),((1:Int):Rat)))),iB,iB,IsV ((aM ((zbG (((0:Int):Rat),((0:Int):Rat)) (((3:Int):Rat),((0:Int):Rat)) (((1:Int):Rat),((0:Int):Rat)) (((5:Int):Rat),((0:Int):Rat))).kind) b21 x21 y21 b22 x22 y22 b23 x23 y23 b24 x24 y24)),PT 2 (((1:Int):Rat)) (((0:Int):Rat)),PT 2 (((3:Int):Rat)) (((0:Int):Rat)),MT 2 ((.over (((1:Int):Rat),((0:Int):Rat)) (((3:Int):Rat),((0:Int):Rat)))),iB,iB,iB,IsV ((aM ((zbG (((0:Int):Rat),((0:Int):Rat)) (((1:Int):Rat),((0:Int):Rat)) (((2:Int):Rat),((0:Int):Rat)) (((3:Int):Rat),((0:Int):Rat))).kind) b33 x33 y33 b34 x34 y34 b35 x35 y35 b36 x36 y36)),PT 2 (((0:Int):Rat)) (((0:Int):Rat)),PT 2 (((0:Int):Rat)) (((0:Int):Rat)),MT 2 (.none),iB,iB,iB,PT 2 (((0:Int):Rat)) (((0:Int):Rat)),PT 2 (((0:Int):Rat)) (((0:Int):Rat)),PT 2 (((0:Int):Rat)) (((0:Int):Rat)),PT 2 (((1:Int):Rat)) (((1:Int):Rat)),iB,iB] S ?_ ?_
 ·refine sc (fun _ _ S _ _=>sv rfl (zad rfl (S.at 2 rfl) (S.bx 0 rfl) Tryz.underlying42 rfl (vs:=(lM ((zbG (((0:Int):Rat),((0:Int):Rat)) (((2:Int):Rat),((2:Int):Rat)) (((0:Int):Rat),((2:Int):Rat)) (((2:Int):Rat),((0:Int):Rat))).kind) b9 x9 y9 b10 x10 y10 b11 x11 y11 b12 x12 y12)) zaZ rfl)) ?_
  refine sc (fun _ _ _ _ _=>sl rfl (zda Tryz.func25) (zbP (n:=1) (m:=1) (by decide))) ?_
  refine sc (fun _ _ _ _ _=>sl rfl (zda Tryz.func25) (zbP (n:=1) (m:=1) (by decide))) ?_
  refine sc (fun _ _ _ _ hd=>by
   obtain⟨v,hv,hq⟩:=zmO (m:=(.point (((1:Int):Rat),((1:Int):Rat)))) rfl rfl rfl rfl rfl (hd.r 1 rfl rfl) (hd.r 2 rfl rfl)
   exact sv rfl (zdZ rfl rfl rfl rfl hv) hq) ?_
  refine sc (fun _ _ S _ hd=>sl rfl (rc2 Tryz.func16 (hd.v 0 rfl rfl) rfl) (zhl ((show MT 50 (zbG (((0:Int):Rat),((0:Int):Rat)) (((2:Int):Rat),((2:Int):Rat)) (((0:Int):Rat),((2:Int):Rat)) (((2:Int):Rat),((0:Int):Rat))) _ _ from mtm (zgS S 52 hq9 hq10 hk17 hk18 hk19 hk20) (zgS S 48 hq11 hq12 hk21 hk22 hk23 hk24))) (MT.of ((hd.r 3 rfl rfl)) (Mt.eq_of (by decide+kernel))))) ?_
  refine sc (fun _ _ _ _ hd=>sv rfl (zao rfl (hd.v 4 rfl rfl))) ?_
  refine sc (fun _ _ S _ hd=>svg rfl (hd.v 5 rfl rfl) (zad rfl (S.at 1 rfl) (S.bx 1 rfl) Tryz.underlying42 rfl (vs:=(lM ((zbG (((0:Int):Rat),((0:Int):Rat)) (((3:Int):Rat),((0:Int):Rat)) (((1:Int):Rat),((0:Int):Rat)) (((5:Int):Rat),((0:Int):Rat))).kind) b21 x21 y21 b22 x22 y22 b23 x23 y23 b24 x24 y24)) zaZ rfl)) ?_
  refine sc (fun _ _ _ _ hd=>slg rfl (hd.v 5 rfl rfl) (zda Tryz.func25) (zbP (n:=1) (m:=0) (by decide))) ?_
  refine sc (fun _ _ _ _ hd=>slg rfl (hd.v 5 rfl rfl) (zda Tryz.func25) (zbP (n:=3) (m:=0) (by decide))) ?_
  refine sc (fun _ _ _ _ hd=>by
   obtain⟨v,hv,hq⟩:=zmO (m:=(.over (((1:Int):Rat),((0:Int):Rat)) (((3:Int):Rat),((0:Int):Rat)))) rfl rfl rfl rfl rfl (hd.r 7 rfl rfl) (hd.r 8 rfl rfl)
   exact svg rfl (hd.v 5 rfl rfl) (zdZ rfl rfl rfl rfl hv) hq) ?_
  refine sc (fun _ _ S _ hd=>slg rfl (hd.v 5 rfl rfl) (rc2 Tryz.func16 (hd.v 6 rfl rfl) rfl) (zhl ((show MT 50 (zbG (((0:Int):Rat),((0:Int):Rat)) (((3:Int):Rat),((0:Int):Rat)) (((1:Int):Rat),((0:Int):Rat)) (((5:Int):Rat),((0:Int):Rat))) _ _ from mtm (zgS S 28 hq21 hq22 hk41 hk42 hk43 hk44) (zgS S 24 hq23 hq24 hk45 hk46 hk47 hk48))) (MT.of ((hd.r 9 rfl rfl)) (Mt.eq_of (by decide+kernel))))) ?_
  refine sc (fun _ _ _ _ hd=>sv rfl (zas true rfl (hd.v 5 rfl rfl) (hd.v 10 rfl rfl))) ?_
  refine sc (fun _ _ _ _ hd=>sv rfl (zao rfl (hd.v 11 rfl rfl))) ?_
  refine sc (fun _ _ S _ hd=>svg rfl (hd.v 12 rfl rfl) (zad rfl (S.at 0 rfl) (S.bx 2 rfl) Tryz.underlying42 rfl (vs:=(lM ((zbG (((0:Int):Rat),((0:Int):Rat)) (((1:Int):Rat),((0:Int):Rat)) (((2:Int):Rat),((0:Int):Rat)) (((3:Int):Rat),((0:Int):Rat))).kind) b33 x33 y33 b34 x34 y34 b35 x35 y35 b36 x36 y36)) zaZ rfl)) ?_
  refine sc (fun _ _ _ _ hd=>slg rfl (hd.v 12 rfl rfl) (zda Tryz.func25) (zbP (n:=0) (m:=0) (by decide))) ?_
  refine sc (fun _ _ _ _ hd=>slg rfl (hd.v 12 rfl rfl) (zda Tryz.func25) (zbP (n:=0) (m:=0) (by decide))) ?_
  refine sc (fun _ _ _ _ hd=>by
   obtain⟨v,hv,hq⟩:=ztz (m:= .none) rfl rfl rfl rfl rfl (hd.r 14 rfl rfl) (hd.r 15 rfl rfl)
   exact svg rfl (hd.v 12 rfl rfl) (zaU rfl rfl rfl hv) hq) ?_
  refine sc (fun _ _ S _ hd=>slg rfl (hd.v 12 rfl rfl) (rc2 Tryz.func16 (hd.v 13 rfl rfl) rfl) (zhl ((show MT 50 (zbG (((0:Int):Rat),((0:Int):Rat)) (((1:Int):Rat),((0:Int):Rat)) (((2:Int):Rat),((0:Int):Rat)) (((3:Int):Rat),((0:Int):Rat))) _ _ from mtm (zgS S 4 hq33 hq34 hk65 hk66 hk67 hk68) (zgS S 0 hq35 hq36 hk69 hk70 hk71 hk72))) (MT.of ((hd.r 16 rfl rfl)) (Mt.eq_of (by decide+kernel))))) ?_
  refine sc (fun _ _ _ _ hd=>sv rfl (zas true rfl (hd.v 12 rfl rfl) (hd.v 17 rfl rfl))) ?_
  refine sc (fun _ _ _ _ hd=>sv rfl (zao rfl (hd.v 18 rfl rfl))) ?_
  refine sc (fun _ _ _ _ hd=>slg rfl (hd.v 19 rfl rfl) (zda Tryz.func25) (zbP (n:=0) (m:=0) (by decide))) ?_
  refine sc (fun _ _ _ _ hd=>slg rfl (hd.v 19 rfl rfl) (zda Tryz.func25) (zbP (n:=0) (m:=0) (by decide))) ?_
  refine sc (fun _ _ _ _ hd=>slg rfl (hd.v 19 rfl rfl) (zda Tryz.func25) (zbP (n:=0) (m:=0) (by decide))) ?_
  refine sc (fun _ _ _ _ hd=>slg rfl (hd.v 19 rfl rfl) (zda Tryz.func25) (zbP (n:=1) (m:=1) (by decide))) ?_
  refine sc (fun _ _ S _ hd=>slg rfl (hd.v 19 rfl rfl) (rc4 Tryz.func19 rfl rfl rfl rfl) (zdd (zrR (T.keep S.below) ((hd.r 20 rfl rfl)).any ((hd.r 21 rfl rfl)).any ((hd.r 22 rfl rfl)).any ((hd.r 23 rfl rfl)).any (by decide) (by decide)) (fun _ _ h=>h.trans (congrArg Value.bool (show((zbG (((0:Int):Rat),((0:Int):Rat)) (((0:Int):Rat),((0:Int):Rat)) (((0:Int):Rat),((0:Int):Rat)) (((1:Int):Rat),((1:Int):Rat))).has)=true from(by decide+kernel)))))) ?_
  refine sc (fun _ _ _ _ hd=>sv rfl (zas true rfl (hd.v 19 rfl rfl) (hd.v 24 rfl rfl))) ?_
  exact sn
 ·intro a1 V22 S hB hf
  have S:=S.add (hf.v 25 rfl rfl)
  clear hf S0
  show wpList _ _ _ [_] _ _
  refine av S (zak rfl (S.at 0 rfl)) fun a S=>?_
  refine hK5 _ _ ?_
  refine wp_ret ?_
  exact zay rfl S (S.at 0 rfl) ⟨_,rfl,rfl,S.below⟩
end Go.Proofs.YtipckjmgdghkiaaGreatDoor
