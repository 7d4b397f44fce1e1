/- A part. -/
import Derived.Test.YtipckjmgdghkiaaGreatDoorGMtV
import Derived.Test.YtipckjmgdghkiaaGreatDoorGSLOn
set_option maxHeartbeats 4000000
set_option maxRecDepth 100000
namespace Go.Proofs.YtipckjmgdghkiaaGreatDoor
open Go Go.RowKit
section
variable {k K:Nat}{a b c d p x y z v:QQ}{m:Mt}
def SmP (k:Nat)(p:QQ):Prop:=Sm k p.1/\Sm k p.2
theorem SmP.mono (h:SmP k p)(hk:k<=K):SmP K p:=⟨h.1.mono hk,h.2.mono hk⟩
theorem SmP.sub (h:SmP k p)(h':SmP K x):SmP (k+K+1) (p.1 - x.1,p.2 - x.2):=⟨h.1.sub h'.1,h.2.sub h'.2⟩
theorem ztN:Sm 1 ((0:Int):Rat):=⟨by decide,by decide⟩
theorem zuS (hk:1<=k):SmP k (((0:Int):Rat),((0:Int):Rat)):=⟨ztN.mono hk,ztN.mono hk⟩
theorem zpI (ha:SmP k a)(hb:SmP k b)(hc:SmP k c)(hd:SmP k d):SmP (19*k+12) (zcQ a b c d):=by
 have w1:=hb.1.sub ha.1;have w2:=hb.2.sub ha.2
 have o1:=hd.1.sub hc.1;have o2:=hd.2.sub hc.2
 have c1:=hc.1.sub ha.1;have c2:=hc.2.sub ha.2
 have n:=(c1.mul o2).sub (c2.mul o1)
 have dn:=(w1.mul o2).sub (w2.mul o1)
 have t:=n.quo dn
 exact⟨(ha.1.add (w1.mul t)).mono (by omega),(ha.2.add (w2.mul t)).mono (by omega)⟩
theorem ziB {A B:QQ}(h:zaB a b c d= .over A B):zcR a b c d A/\zcR a b c d B:=by
 have hm:=fun q=>zgr (a:=a) (b:=b) (c:=c) (d:=d) (q:=q)
 unfold zaB at h
 split at h
 ·split at h <;> cases h
 ·cases h
 ·rename_i A' B' l e
  rw[e]at hm
  cases h
  exact⟨((hm A).1 List.mem_cons_self).1,((hm _).1 (List.mem_cons_of_mem _ (List.getLast_mem _))).1⟩
theorem zeI {e:QQ}(h:zcR a b c d e)(ha:SmP k a)(hb:SmP k b)(hc:SmP k c)(hd:SmP k d):SmP k e:=by
 rcases h with rfl|rfl|rfl|rfl
 ·exact ha
 ·exact hb
 ·exact hc
 ·exact hd
theorem zpJ {A:QQ}(h:zaB a b c d= .point A):zcR a b c d A\/A=zcQ a b c d:=by
 have hm:=fun q=>zgr (a:=a) (b:=b) (c:=c) (d:=d) (q:=q)
 unfold zaB at h
 split at h
 ·split at h
  ·cases h;exact .inr rfl
  ·cases h
 ·rename_i A' e
  rw[e]at hm
  cases h
  exact .inl ((hm A).1 List.mem_cons_self).1
 ·cases h
theorem zr1 (hk:1<=k)(ha:SmP k a)(hb:SmP k b)(hc:SmP k c)(hd:SmP k d):SmP (19*k+12) (zaB a b c d).fst/\SmP (19*k+12) (zaB a b c d).snd:=by
 rcases h:zaB a b c d with _|A|⟨A,B⟩
 ·exact⟨zuS (by omega),zuS (by omega)⟩
 ·have:SmP (19*k+12) A:=by
   rcases zpJ h with h|rfl
   ·exact(zeI h ha hb hc hd).mono (by omega)
   ·exact zpI ha hb hc hd
  exact⟨this,this⟩
 ·obtain⟨h1,h2⟩:=ziB h
  exact⟨(zeI h1 ha hb hc hd).mono (by omega),(zeI h2 ha hb hc hd).mono (by omega)⟩
theorem zlP:zaB d c b a=zaB a b c d:=by rw[zee,zdG,zef]
theorem zpK (m:Mt):m.has= !decide (m.kind=0):=by cases m <;> rfl
theorem zn1:((zaB d c b a).has != !decide ((zaB a b c d).kind=0))=false:=by rw[zlP,zpK];simp
theorem zpL (m:Mt):(m.mvM v).kind=m.kind:=by cases m <;> rfl
theorem zkv {q0 r0 q1 r1 q2 r2 q3 r3 q4 r4:Rat}:zaB (q0+q4,r0+r4) (q1+q4,r1+r4) (q2+q4,r2+r4) (q3+q4,r3+r4)=(zaB (q0,r0) (q1,r1) (q2,r2) (q3,r3)).mvM (q4,r4):=zpP (a:=(q0,r0)) (b:=(q1,r1)) (c:=(q2,r2)) (d:=(q3,r3)) (v:=(q4,r4))
theorem zmV (h:m.kind≠0):(m.mvM v).fst=mvQ m.fst v:=by cases m with
 |none=>exact absurd rfl h
 |point A=>rfl
 |over A B=>rfl
theorem zmW (h:m.kind≠0):(m.mvM v).snd=mvQ m.snd v:=by cases m with
 |none=>exact absurd rfl h
 |point A=>rfl
 |over A B=>rfl
theorem zfS (h:decide (m.kind=0)=true):m.fst=(((0:Int):Rat),((0:Int):Rat))/\m.snd=(((0:Int):Rat),((0:Int):Rat)):=by
 cases m with
 |none=>exact⟨rfl,rfl⟩
 |point A=>exact absurd (of_decide_eq_true h) (by simp[Mt.kind])
 |over A B=>exact absurd (of_decide_eq_true h) (by simp[Mt.kind])
structure Lies (a b c p:QQ) (m:Mt) (k:Nat):Prop where
 kind:(m.kind=1/\m.fst=m.snd)\/(m.kind=2/\lt2 m.fst m.snd)
 fst:zbj a b c p m.fst
 snd:zbj a b c p m.snd
 p_in:onS m.fst m.snd p
 sm:SmP k m.fst
 sm2:SmP k m.snd
theorem lies (hp:onS a b p)(ha:SmP k a)(hb:SmP k b)(hc:SmP k c)(hk:SmP k p):Lies a b c p (zaB a b c p) k:=by
 have hI:zbj a b c p p:=⟨hp,ziC c p⟩
 rcases zpQ zcU hI with e|⟨A,B,e,hlt,hA,hB,hon⟩
 ·rw[e];exact⟨.inl ⟨rfl,rfl⟩,hI,hI,zft p p,hk,hk⟩
 ·obtain⟨h1,h2⟩:=ziB e
  rw[e];exact⟨.inr ⟨rfl,hlt⟩,hA,hB,hon,zeI h1 ha hb hc hk,zeI h2 ha hb hc hk⟩
theorem Lies.cmp (h:Lies a b c p m k):(decide (za8 m.fst.1 m.fst.2 m.snd.1 m.snd.2=0) != decide (m.kind=1))=false/\decide (0<za8 m.fst.1 m.fst.2 m.snd.1 m.snd.2)=false:=by
 rcases h.kind with⟨k1,e⟩|⟨k2,hlt⟩
 ·rw[k1,e,zcT.2 rfl];exact⟨rfl,rfl⟩
 ·have h1:=zdh.2 hlt
  rw[k2]
  refine⟨?_,decide_eq_false (by omega)⟩
  rw[show decide (za8 m.fst.1 m.fst.2 m.snd.1 m.snd.2=0)=false from decide_eq_false (by omega)];rfl
theorem zhw (h:b.1 - a.1≠0):za1 a b a.1=a.2/\za1 b a b.1=b.2:=by
 unfold za1
 refine⟨by rw[if_neg h];grind,by rw[if_neg (by grind)];grind⟩
theorem zn2 {x:Rat}(h:b.1 - a.1≠0):(b.1 - a.1)*(za1 a b x - a.2) - (b.2 - a.2)*(x - a.1)=0:=by
 unfold za1
 rw[if_neg h]
 have:=zeY (u:=x - a.1) h
 grind
theorem zn3 {x:Rat}(hk:1<=k)(ha:SmP k a)(hb:SmP k b)(hx:Sm k x):Sm (7*k+4) (za1 a b x):=by
 unfold za1
 split
 ·exact ztN.mono (by omega)
 ·exact(ha.2.add ((hb.2.sub ha.2).mul ((hx.sub ha.1).quo (hb.1.sub ha.1)))).mono (by omega)
theorem zn4 {q0 q1:Rat}(h:q0=q1):(!decide (q1 - q0≠0))=true:=by
 rw[Bool.not_eq_true',decide_eq_false_iff_not];intro h2;exact h2 (by grind)
theorem zkw {q0 q1 r0 r1 x:Rat}(h:q0=q1):decide (zaq (za1 (q0,r0) (q1,r1) x) 0=0)=true:=by
 refine zfl ?_
 unfold za1
 rw[if_pos (show q1 - q0=0 by grind)]
def Mt.eqB:Mt->Mt->Bool
 | .none,.none=>true
 | .point A,.point B=>decide (A=B)
 | .over A B,.over C D=>decide (A=C)&&decide (B=D)
 |_,_=>false
theorem Mt.eq_of {m m':Mt}(h:Mt.eqB m m'=true):m=m':=by
 cases m <;> cases m' <;> simp[Mt.eqB]at h
 ·rfl
 ·rw[h]
 ·rw[h.1,h.2]
end
def zcB (l:List PEl):Bool:=l.any (zgi 2)
theorem zlQ {p0 p1:PEl}(h:zcB [p0,p1]=false):zgi 2 p0=false/\zgi 2 p1=false:=by simpa[zcB]using h
theorem zlR {p0 p1 p2 p3 p4:PEl}(h:zcB [p0,p1,p2,p3,p4]=false):zgi 2 p0=false/\zgi 2 p1=false/\zgi 2 p2=false/\zgi 2 p3=false/\zgi 2 p4=false:=by simpa[zcB]using h
theorem zr2 {A:Option Addr}{c:Nat}{l:List PEl}{V:World}(hR:PRds V V.heap.size A l)(hll:l.length<=100000000000000):
  Calls Tryz.prog 8 #[.slice A l.length c] V (zag V (fun v _=>v= .bool (zcB l))):=by
 refine fb Tryz.func8 Tryz.ntmps8 zav (fun a S=>?_)
 refine wsp fun K1 hK1=>?_
 refine ac S fun a S=>?_
 refine hK1 _ _ ?_
 refine wp_seq_k fun K2 hK2=>?_
 refine wsp fun K3 hK3=>?_
 refine ac S fun a S=>?_
 refine hK3 _ _ ?_
 refine wp_block ?_
 have S:=S.keep [3,0] (ls':=[(3,.int .i64 0),(0,.slice A l.length c)]) rfl
 have S:=S.sel [0,1] rfl
 have S:=S.seln [] rfl
 have S:=S.reorder [] rfl (by decide)
 refine wp_loop (fun aI VI=>∃(k:Nat),((l.take k).any (zgi 2)=false)/\(k<=l.length)/\Frm 42 [(3,.int .i64 (((k:Nat):Int))),(0,.slice A l.length c)] [] V [] aI VI) (fun aI _=>(l.length) - (intOf (aI.tmps.getD 3 undef)).toNat) ⟨0,rfl,Nat.zero_le _,S⟩ ?_
 rintro a1 V1 ⟨k,hI,hkl,S⟩
 have hm0:a1.tmps.getD 3 undef= .int .i64 (((k:Nat):Int)):=S.at 0 rfl
 refine wp_seq_k fun K4 hK4=>?_
 refine wsp fun K5 hK5=>?_
 refine mv S 0 fun a S=>?_
 refine mv S 2 fun a S=>?_
 refine tv S (zj3 rfl (S.at 0 rfl)) fun a S=>?_
 refine tv S (zeT rfl (S.at 2 rfl) (S.at 0 rfl)) fun a S=>?_
 refine hK5 _ _ ?_
 rcases zwf (decide (((k:Nat):Int)<((l.length:Nat):Int)))with hc7|hc7
 ·refine wp_cond_true ((S.at 0 rfl).trans (congrArg Value.bool hc7)) ?_
  have hlt:k<l.length:=by have:=of_decide_eq_true hc7;omega
  obtain⟨be,xe,ye,be2,xe2,ye2,hel⟩:∃b x y b' x' y',l[k]=(b,x,y,b',x',y'):=⟨_,_,_,_,_,_,rfl⟩
  obtain⟨⟨hea,heb⟩,hec,hed⟩:=hR.oks hlt hel
  have S:=S.know (hea.later S.below)
  have S:=S.know (heb.later S.below)
  have S:=S.know (hec.later S.below)
  have S:=S.know (hed.later S.below)
  refine wp_skip ?_
  refine hK4 _ _ ?_
  refine wp_seq_k fun K6 hK6=>?_
  refine wp_block ?_
  refine wp_seq_k fun K7 hK7=>?_
  obtain⟨W1,hW1⟩:∃W,W=V1:=⟨_,rfl⟩
  rw[<-hW1]at S ⊢
  have S0:=S
  refine fr 32 [10,11,12,13,14,15,16,17,18,19,20,21,22,23,24,25,26,27,28,29,30,31,32,33,34,35,36,37,38,39,40,41] [IsV (.slice A l.length c),iI ((((k:Nat):Int))),IsV (.pointer (some (zbr A (k*6)))),IsV (.pointer (some (zbr A (k*6)))),IsV (.pointer (some (zbr A (k*6)))),IsV (.pointer (some (zbr A (k*6+1)))),IsV (aS xe),iI ((((xe.n:Nat):Int))),IsV (.slice A l.length c),iI ((((k:Nat):Int))),IsV (.pointer (some (zbr A (k*6)))),IsV (.pointer (some (zbr A (k*6)))),IsV (.pointer (some (zbr A (k*6+2)))),IsV (aS ye),iI ((((ye.n:Nat):Int))),IsV (.slice A l.length c),iI ((((k:Nat):Int))),IsV (.pointer (some (zbr A (k*6)))),IsV (.pointer (some (zbr A (k*6+3)))),IsV (.pointer (some (zbr A (k*6+3)))),IsV (.pointer (some (zbr A (k*6+3+1)))),IsV (aS xe2),iI ((((xe2.n:Nat):Int))),IsV (.slice A l.length c),iI ((((k:Nat):Int))),IsV (.pointer (some (zbr A (k*6)))),IsV (.pointer (some (zbr A (k*6+3)))),IsV (.pointer (some (zbr A (k*6+3+2)))),IsV (aS ye2),iI ((((ye2.n:Nat):Int))),iI ((((max (max (max xe.n ye.n) xe2.n) ye2.n:Nat):Int))),IsV (.bool (decide (2<((max (max (max xe.n ye.n) xe2.n) ye2.n:Nat):Int))))] S ?_ ?_
  ·refine sc (fun _ _ S _ _=>sv rfl (zan rfl (S.at 5 rfl))) ?_
   refine sc (fun _ _ S _ _=>sv rfl (zan rfl (S.at 4 rfl))) ?_
   refine sc (fun _ _ _ _ hd=>sv rfl (zds (hR.el hlt hel).s hlt rfl (hd.v 0 rfl rfl) (hd.v 1 rfl rfl))) ?_
   refine sc (fun _ _ _ _ hd=>sv rfl (zdT znC rfl (hd.v 2 rfl rfl))) ?_
   refine sc (fun _ _ _ _ hd=>sv rfl (zdT zlv rfl (hd.v 3 rfl rfl))) ?_
   refine sc (fun _ _ _ _ hd=>sv rfl (zdT (zlx (hR.el hlt hel).s) rfl (hd.v 4 rfl rfl))) ?_
   refine sc (fun _ _ S _ hd=>sv rfl (zj2 ((hR.below S.below).el hlt hel).c1 rfl (hd.v 5 rfl rfl))) ?_
   refine sc (fun _ _ _ _ hd=>sv rfl (zcp (by decide) rfl (hd.v 6 rfl rfl))) ?_
   refine sc (fun _ _ S _ _=>sv rfl (zan rfl (S.at 5 rfl))) ?_
   refine sc (fun _ _ S _ _=>sv rfl (zan rfl (S.at 4 rfl))) ?_
   refine sc (fun _ _ _ _ hd=>sv rfl (zds (hR.el hlt hel).s hlt rfl (hd.v 8 rfl rfl) (hd.v 9 rfl rfl))) ?_
   refine sc (fun _ _ _ _ hd=>sv rfl (zdT znC rfl (hd.v 10 rfl rfl))) ?_
   refine sc (fun _ _ _ _ hd=>sv rfl (zdT (zlw (hR.el hlt hel).s) rfl (hd.v 11 rfl rfl))) ?_
   refine sc (fun _ _ S _ hd=>sv rfl (zj2 ((hR.below S.below).el hlt hel).c2 rfl (hd.v 12 rfl rfl))) ?_
   refine sc (fun _ _ _ _ hd=>sv rfl (zcp (by decide) rfl (hd.v 13 rfl rfl))) ?_
   refine sc (fun _ _ S _ _=>sv rfl (zan rfl (S.at 5 rfl))) ?_
   refine sc (fun _ _ S _ _=>sv rfl (zan rfl (S.at 4 rfl))) ?_
   refine sc (fun _ _ _ _ hd=>sv rfl (zds (hR.el hlt hel).s hlt rfl (hd.v 15 rfl rfl) (hd.v 16 rfl rfl))) ?_
   refine sc (fun _ _ _ _ hd=>sv rfl (zdT (znD (hR.el hlt hel).s) rfl (hd.v 17 rfl rfl))) ?_
   refine sc (fun _ _ _ _ hd=>sv rfl (zdT zlv rfl (hd.v 18 rfl rfl))) ?_
   refine sc (fun _ _ _ _ hd=>sv rfl (zdT (zlx (hR.el hlt hel).s) rfl (hd.v 19 rfl rfl))) ?_
   refine sc (fun _ _ S _ hd=>sv rfl (zj2 ((hR.below S.below).el hlt hel).c4 rfl (hd.v 20 rfl rfl))) ?_
   refine sc (fun _ _ _ _ hd=>sv rfl (zcp (by decide) rfl (hd.v 21 rfl rfl))) ?_
   refine sc (fun _ _ S _ _=>sv rfl (zan rfl (S.at 5 rfl))) ?_
   refine sc (fun _ _ S _ _=>sv rfl (zan rfl (S.at 4 rfl))) ?_
   refine sc (fun _ _ _ _ hd=>sv rfl (zds (hR.el hlt hel).s hlt rfl (hd.v 23 rfl rfl) (hd.v 24 rfl rfl))) ?_
   refine sc (fun _ _ _ _ hd=>sv rfl (zdT (znD (hR.el hlt hel).s) rfl (hd.v 25 rfl rfl))) ?_
   refine sc (fun _ _ _ _ hd=>sv rfl (zdT (zlw (hR.el hlt hel).s) rfl (hd.v 26 rfl rfl))) ?_
   refine sc (fun _ _ S _ hd=>sv rfl (zj2 ((hR.below S.below).el hlt hel).c5 rfl (hd.v 27 rfl rfl))) ?_
   refine sc (fun _ _ _ _ hd=>sv rfl (zcp (by decide) rfl (hd.v 28 rfl rfl))) ?_
   refine sc (fun _ _ _ _ hd=>sv rfl (zs7 rfl (hd.v 7 rfl rfl) (hd.v 14 rfl rfl) (hd.v 22 rfl rfl) (hd.v 29 rfl rfl))) ?_
   refine sc (fun _ _ _ _ hd=>sv rfl (zdd rfl (hd.v 30 rfl rfl) rfl)) ?_
   exact sn
  ·intro a2 V2 S hB hf
   have S:=S.add (hf.v 31 rfl rfl)
   clear hf S0
   show wpList _ _ _ [] _ _
   refine hK7 _ _ ?_
   rcases zwf (decide (2<((max (max (max xe.n ye.n) xe2.n) ye2.n:Nat):Int)))with hc41|hc41
   ·refine wp_cond_true ((S.at 0 rfl).trans (congrArg Value.bool hc41)) ?_
    refine wsp fun K8 hK8=>?_
    refine ac S fun a S=>?_
    refine hK8 _ _ ?_
    refine wp_ret ?_
    exact zaC rfl S (S.at 0 rfl) ⟨_,rfl,congrArg Value.bool (zs6 hlt ((zlu hel).symm.trans hc41)).symm,S.below⟩
   ·refine wp_cond_false ((S.at 0 rfl).trans (congrArg Value.bool hc41)) ?_
    refine wp_skip ?_
    refine hK6 _ _ ?_
    refine zaA ?_
    refine mv S 5 fun a S=>?_
    refine tv S (zfe (k:=k) (m:=1) rfl (S.at 0 rfl) rfl (by omega)) fun a S=>?_
    refine av S (zaj rfl (S.at 0 rfl)) fun a S=>?_
    have hI2:(l.take (k+1)).any (zgi 2)=false:=by rw[zrN hlt,hI,<-zlu hel];exact hc41
    have S:=S.sel [0,8] rfl
    have S:=S.seln [] rfl
    have S:=S.reorder [] rfl (by decide)
    refine⟨⟨k+1,hI2,hlt,S⟩,?_⟩
    have hm1:=S.at 0 rfl
    rw[hm0,hm1]
    simp only[intOf];omega
 ·refine wp_cond_false ((S.at 0 rfl).trans (congrArg Value.bool hc7)) ?_
  have hge:l.length<=k:=by have:=of_decide_eq_false hc7;omega
  refine wp_exit ?_
  refine hK2 _ _ ?_
  refine wsp fun K9 hK9=>?_
  refine ac S fun a S=>?_
  refine hK9 _ _ ?_
  refine wp_ret ?_
  exact zaC rfl S (S.at 0 rfl) ⟨_,rfl,congrArg Value.bool (show false=zcB l by unfold zcB;rw[List.take_of_length_le hge]at hI;exact hI.symm),S.below⟩
theorem zeJ {ps:List PEl}{G:Bool}{v:Value}{V:World}(h:GP ps v V)(hG:zcB ps=G):Calls Tryz.prog 8 #[v] V (zag V fun v _=>v= .bool G):=by
 obtain⟨A,c,rfl,hR,hl,-⟩:=h
 rw[<-hG]
 exact zr2 hR hl
theorem zkx {a:Act}{V:World}{o:Oper}{t1 t2 t3 t4 t5:Tmp}{b0 d0 b1 d1 b2 d2 b3 d3 b4 d4:Bool}{x0 y0 z0 w0 x1 y1 z1 w1 x2 y2 z2 w2 x3 y3 z3 w3 x4 y4 z4 w4:Num}(hop:o.op= .buildSlice 30 5 #[(0,.tmp t1),(1,.tmp t2),(2,.tmp t3),(3,.tmp t4),(4,.tmp t5)]) (h1:a.tmps.getD t1 undef= .agg #[.bool b0,.slice x0.A x0.n x0.c,.slice y0.A y0.n y0.c,.bool d0,.slice z0.A z0.n z0.c,.slice w0.A w0.n w0.c]) (h2:a.tmps.getD t2 undef= .agg #[.bool b1,.slice x1.A x1.n x1.c,.slice y1.A y1.n y1.c,.bool d1,.slice z1.A z1.n z1.c,.slice w1.A w1.n w1.c]) (h3:a.tmps.getD t3 undef= .agg #[.bool b2,.slice x2.A x2.n x2.c,.slice y2.A y2.n y2.c,.bool d2,.slice z2.A z2.n z2.c,.slice w2.A w2.n w2.c]) (h4:a.tmps.getD t4 undef= .agg #[.bool b3,.slice x3.A x3.n x3.c,.slice y3.A y3.n y3.c,.bool d3,.slice z3.A z3.n z3.c,.slice w3.A w3.n w3.c]) (h5:a.tmps.getD t5 undef= .agg #[.bool b4,.slice x4.A x4.n x4.c,.slice y4.A y4.n y4.c,.bool d4,.slice z4.A z4.n z4.c,.slice w4.A w4.n w4.c])
  (o0x:x0.ok V V.heap.size) (o0y:y0.ok V V.heap.size) (o0z:z0.ok V V.heap.size) (o0w:w0.ok V V.heap.size) (o1x:x1.ok V V.heap.size) (o1y:y1.ok V V.heap.size) (o1z:z1.ok V V.heap.size) (o1w:w1.ok V V.heap.size) (o2x:x2.ok V V.heap.size) (o2y:y2.ok V V.heap.size) (o2z:z2.ok V V.heap.size) (o2w:w2.ok V V.heap.size) (o3x:x3.ok V V.heap.size) (o3y:y3.ok V V.heap.size) (o3z:z3.ok V V.heap.size) (o3w:w3.ok V V.heap.size) (o4x:x4.ok V V.heap.size) (o4y:y4.ok V V.heap.size) (o4z:z4.ok V V.heap.size) (o4w:w4.ok V V.heap.size):zjQ o a V (GP [(b0,x0,y0,d0,z0,w0),(b1,x1,y1,d1,z1,w1),(b2,x2,y2,d2,z2,w2),(b3,x3,y3,d3,z3,w3),(b4,x4,y4,d4,z4,w4)]):=by
 refine⟨.slice (some ⟨V.heap.size,0,none⟩) 5 5,_,?_,zrO (ps:=[(b0,x0,y0,d0,z0,w0),(b1,x1,y1,d1,z1,w1),(b2,x2,y2,d2,z2,w2),(b3,x3,y3,d3,z3,w3),(b4,x4,y4,d4,z4,w4)]) (by simp[o0x,o0y,o0z,o0w,o1x,o1y,o1z,o1w,o2x,o2y,o2z,o2w,o3x,o3y,o3z,o3w,o4x,o4y,o4z,o4w]) (by simp),zv7.alloc zv6 _⟩
 rw[zae]at h1 h2 h3 h4 h5
 obtain⟨dst,op,ty,pos,after,guard⟩:=o
 simp only at hop
 subst hop
 simp only[zbt,zba,List.map_cons,List.map_nil,List.flatten_cons,List.flatten_nil,List.cons_append,List.nil_append]
 go_simp
theorem ztO {V:World}{v1 v2:Value}{K:Nat}{q q' r r':Rat}{m:Mt}(hk:(0:Int)=m.kind)(f1:q=m.fst.1)(f2:q'=m.fst.2)(s1:r=m.snd.1)(s2:r'=m.snd.2)(h:PT K q q' v1 V)(h':PT K r r' v2 V):
  ∃v,(Instr.build 42 #[(1,v1),(2,v2)]).run Tryz.prog V= .ok v V/\MT K m v V:=by
 subst f1 f2 s1 s2
 obtain⟨b,x,y,d,z,w,rfl,h1⟩:=h.parts6
 obtain⟨b2,x2,y2,d2,z2,w2,rfl,h2⟩:=h'.parts6
 exact⟨_,zr8 (b,x,y,d,z,w) (b2,x2,y2,d2,z2,w2),b,x,y,d,z,w,b2,x2,y2,d2,z2,w2,by rw[<-hk];rfl,h1,h2⟩
theorem zbC {n m:Int}{V:World}(hn:(-9223372036854775808<=n/\n<=9223372036854775807)/\ -9223372036854775808<=m/\m<=9223372036854775807):
  Calls Tryz.prog 25 #[.int .i64 n,.int .i64 m] V (zag V (PT 2 ((n:Int):Rat) ((m:Int):Rat))):=by
 refine fb Tryz.func25 Tryz.ntmps25 zav (fun a S=>?_)
 refine wsp fun K1 hK1=>?_
 refine ti S (cs:=lY) (zam rfl (Tryz.zeroValue29 _) rfl) (fun g1=>[⟨g1,29,lY⟩]) fun g1 a V1 hgg1 S=>?_
 refine hK1 _ _ ?_
 refine wsp fun K2 hK2=>?_
 refine mv S 1 fun a S=>?_
 refine mv S 3 fun a S=>?_
 refine tc S (F:=PT 2 (((n:Int):Rat)) (((m:Int):Rat))) (rc2 Tryz.func50 (S.at 1 rfl) (S.at 0 rfl)) (zvX (n:=n) (m:=m) hn) fun v a V2 hF hb S=>?_
 obtain⟨b1,x1,y1,b2,x2,y2,rfl,hq1,hq2,⟨hk1,hk2⟩,⟨hk3,hk4⟩,⟨ok1,ok2⟩,ok3,ok4⟩:=hF
 have S:=S.know ok1
 have S:=S.know ok2
 have S:=S.know ok3
 have S:=S.know ok4
 refine sto S 0 (fun ht=>zai rfl (S.at 3 rfl) (S.at 0 rfl) zbb rfl (zv5 rfl) ht) fun V3 S=>?_
 refine hK2 _ _ ?_
 refine wp_ret ?_
 exact zas rfl S (S.at 3 rfl) (i:=0) rfl Tryz.underlying29 rfl zbb ⟨_,rfl,(zcz S 0 hq1 hq2 hk1 hk2 hk3 hk4),S.below⟩
theorem zd2 {K K':Nat}{m:Mt}{v1 v2:Value}{V:World}(h1:MT K (m) v1 V)(h2:MT K' (m) v2 V):
  Calls Tryz.prog 16 #[v1,v2] V (zag V (fun v _=>v= .bool true)):=by
 obtain⟨b1,x1,y1,b2,x2,y2,b3,x3,y3,b4,x4,y4,rfl,⟨hq1,hq2,hk1,hk2,hk3,hk4,ok1,ok2,ok3,ok4⟩,⟨hq3,hq4,hk5,hk6,hk7,hk8,ok5,ok6,ok7,ok8⟩⟩:=h1
 obtain⟨b5,x5,y5,b6,x6,y6,b7,x7,y7,b8,x8,y8,rfl,⟨hq5,hq6,hk9,hk10,hk11,hk12,ok9,ok10,ok11,ok12⟩,⟨hq7,hq8,hk13,hk14,hk15,hk16,ok13,ok14,ok15,ok16⟩⟩:=h2
 refine fb Tryz.func16 Tryz.ntmps16 (zaa ok9 (zaa ok10 (zaa ok11 (zaa ok12 (zaa ok13 (zaa ok14 (zaa ok15 (zaa ok16 (zaa ok1 (zaa ok2 (zaa ok3 (zaa ok4 (zaa ok5 (zaa ok6 (zaa ok7 (zaa ok8 zav)))))))))))))))) (fun a S=>?_)
 refine wsp fun K1 hK1=>?_
 refine tb S 0 [.int .i8 m.kind,.bool b1,aS x1,aS y1,.bool b2,aS x2,aS y2,.bool b3,aS x3,aS y3,.bool b4,aS x4,aS y4] fun g1 a V1 hgg1 S=>?_
 refine tb S 2 [.int .i8 m.kind,.bool b5,aS x5,aS y5,.bool b6,aS x6,aS y6,.bool b7,aS x7,aS y7,.bool b8,aS x8,aS y8] fun g2 a V2 hgg2 S=>?_
 refine ac S fun a S=>?_
 refine hK1 _ _ ?_
 refine wsp fun K2 hK2=>?_
 refine tv S (zab rfl (S.at 2 rfl) (zb0 _)) fun a S=>?_
 refine tv S (zap rfl (S.at 0 rfl) (S.bx 0 rfl) (Tryz.isAgg40 _) rfl) fun a S=>?_
 refine tv S (zab rfl (S.at 3 rfl) (zb0 _)) fun a S=>?_
 refine tv S (zap rfl (S.at 0 rfl) (S.bx 1 rfl) (Tryz.isAgg40 _) rfl) fun a S=>?_
 refine tv S (zbU (c:=true) (zm3 rfl (S.at 2 rfl) (S.at 0 rfl)) (decide_eq_true rfl)) fun a S=>?_
 refine mv S 0 fun a S=>?_
 refine tvg S (S.at 0 rfl) (zab rfl (S.at 8 rfl) (zcf _)) fun a S=>?_
 refine tvg S (S.at 1 rfl) (za5 rfl (S.at 0 rfl) (S.bx 0 rfl) rfl) fun a S=>?_
 refine tvg S (S.at 2 rfl) (zab rfl (S.at 9 rfl) (zcf _)) fun a S=>?_
 refine tvg S (S.at 3 rfl) (za5 rfl (S.at 0 rfl) (S.bx 1 rfl) rfl) fun a S=>?_
 refine tcg S (S.at 4 rfl) (rc2 Tryz.func15 (S.at 2 rfl) (S.at 0 rfl)) (zfk (zs5 S 8 hq1 hq2 hk1 hk2 hk3 hk4) (zs5 S 0 hq5 hq6 hk9 hk10 hk11 hk12) rfl rfl) fun v a V3 hF hb S=>?_
 subst hF
 refine tv S (zaG true rfl (S.at 5 rfl) (S.at 0 rfl)) fun a S=>?_
 refine mv S 0 fun a S=>?_
 refine tvg S (S.at 0 rfl) (zab rfl (S.at 15 rfl) (zcg _)) fun a S=>?_
 refine tvg S (S.at 1 rfl) (za5 rfl (S.at 0 rfl) (S.bx 0 rfl) rfl) fun a S=>?_
 refine tvg S (S.at 2 rfl) (zab rfl (S.at 16 rfl) (zcg _)) fun a S=>?_
 refine tvg S (S.at 3 rfl) (za5 rfl (S.at 0 rfl) (S.bx 1 rfl) rfl) fun a S=>?_
 refine tcg S (S.at 4 rfl) (rc2 Tryz.func15 (S.at 2 rfl) (S.at 0 rfl)) (zfk (zs5 S 12 hq3 hq4 hk5 hk6 hk7 hk8) (zs5 S 4 hq7 hq8 hk13 hk14 hk15 hk16) rfl rfl) fun v a V4 hF hb S=>?_
 subst hF
 refine tv S (zaG true rfl (S.at 5 rfl) (S.at 0 rfl)) fun a S=>?_
 refine av S (zaj rfl (S.at 0 rfl)) fun a S=>?_
 refine hK2 _ _ ?_
 refine wp_ret ?_
 exact zaC rfl S (S.at 0 rfl) ⟨_,rfl,rfl,S.below⟩
theorem zdv {V:World}(T:TT V):
  Calls Tryz.prog 9 #[] V (zag V (fun v _=>v= .bool true)):=by
 refine fb Tryz.func9 Tryz.ntmps9 zav (fun a S=>?_)
 refine wsp fun K1 hK1=>?_
 refine ac S fun a S=>?_
 refine hK1 _ _ ?_
 refine wsp fun K2 hK2=>?_
 refine tc S (F:=PT 2 (((0:Int):Rat)) (((0:Int):Rat))) (zcZ Tryz.func25) (zbC (n:=0) (m:=0) (by decide)) fun v a V1 hF hb S=>?_
 obtain⟨b1,x1,y1,b2,x2,y2,rfl,hq1,hq2,⟨hk1,hk2⟩,⟨hk3,hk4⟩,⟨ok1,ok2⟩,ok3,ok4⟩:=hF
 have S:=S.know ok1
 have S:=S.know ok2
 have S:=S.know ok3
 have S:=S.know ok4
 refine tc S (F:=PT 2 (((2:Int):Rat)) (((2:Int):Rat))) (zcZ Tryz.func25) (zbC (n:=2) (m:=2) (by decide)) fun v a V2 hF hb S=>?_
 obtain⟨b3,x3,y3,b4,x4,y4,rfl,hq3,hq4,⟨hk5,hk6⟩,⟨hk7,hk8⟩,⟨ok5,ok6⟩,ok7,ok8⟩:=hF
 have S:=S.know ok5
 have S:=S.know ok6
 have S:=S.know ok7
 have S:=S.know ok8
 refine tc S (F:=PT 2 (((0:Int):Rat)) (((2:Int):Rat))) (zcZ Tryz.func25) (zbC (n:=0) (m:=2) (by decide)) fun v a V3 hF hb S=>?_
 obtain⟨b5,x5,y5,b6,x6,y6,rfl,hq5,hq6,⟨hk9,hk10⟩,⟨hk11,hk12⟩,⟨ok9,ok10⟩,ok11,ok12⟩:=hF
 have S:=S.know ok9
 have S:=S.know ok10
 have S:=S.know ok11
 have S:=S.know ok12
 refine tc S (F:=PT 2 (((2:Int):Rat)) (((0:Int):Rat))) (zcZ Tryz.func25) (zbC (n:=2) (m:=0) (by decide)) fun v a V4 hF hb S=>?_
 obtain⟨b7,x7,y7,b8,x8,y8,rfl,hq7,hq8,⟨hk13,hk14⟩,⟨hk15,hk16⟩,⟨ok13,ok14⟩,ok15,ok16⟩:=hF
 have S:=S.know ok13
 have S:=S.know ok14
 have S:=S.know ok15
 have S:=S.know ok16
 refine tc S (F:=MT 50 (zaB (((0:Int):Rat),((0:Int):Rat)) (((2:Int):Rat),((2:Int):Rat)) (((0:Int):Rat),((2:Int):Rat)) (((2:Int):Rat),((0:Int):Rat)))) (rc4 Tryz.func17 (S.at 3 rfl) (S.at 2 rfl) (S.at 1 rfl) (S.at 0 rfl)) (zgU (T.keep S.below) (zcz S 12 hq1 hq2 hk1 hk2 hk3 hk4).any (zcz S 8 hq3 hq4 hk5 hk6 hk7 hk8).any (zcz S 4 hq5 hq6 hk9 hk10 hk11 hk12).any (zcz S 0 hq7 hq8 hk13 hk14 hk15 hk16).any (by decide)) fun v a V5 hF hb S=>?_
 obtain⟨b9,x9,y9,b10,x10,y10,b11,x11,y11,b12,x12,y12,rfl,⟨hq9,hq10,hk17,hk18,hk19,hk20,ok17,ok18,ok19,ok20⟩,⟨hq11,hq12,hk21,hk22,hk23,hk24,ok21,ok22,ok23,ok24⟩⟩:=hF
 have S:=S.know ok17
 have S:=S.know ok18
 have S:=S.know ok19
 have S:=S.know ok20
 have S:=S.know ok21
 have S:=S.know ok22
 have S:=S.know ok23
 have S:=S.know ok24
 refine ti S (cs:=[.int .i8 0,.bool false,.slice none 0 0,.slice none 0 0,.bool false,.slice none 0 0,.slice none 0 0,.bool false,.slice none 0 0,.slice none 0 0,.bool false,.slice none 0 0,.slice none 0 0]) (zam rfl (Tryz.zeroValue42 _) rfl) (fun g1=>[⟨g1,42,[.int .i8 0,.bool false,.slice none 0 0,.slice none 0 0,.bool false,.slice none 0 0,.slice none 0 0,.bool false,.slice none 0 0,.slice none 0 0,.bool false,.slice none 0 0,.slice none 0 0]⟩]) fun g1 a V6 hgg1 S=>?_
 refine sto S 0 (fun ht=>zai rfl (S.at 0 rfl) (S.at 1 rfl) zaQ rfl (zv5 rfl) ht) fun V7 S=>?_
 refine hK2 _ _ ?_
 refine wsp fun K3 hK3=>?_
 refine tc S (F:=PT 2 (((0:Int):Rat)) (((0:Int):Rat))) (zcZ Tryz.func25) (zbC (n:=0) (m:=0) (by decide)) fun v a V8 hF hb S=>?_
 obtain⟨b13,x13,y13,b14,x14,y14,rfl,hq13,hq14,⟨hk25,hk26⟩,⟨hk27,hk28⟩,⟨ok25,ok26⟩,ok27,ok28⟩:=hF
 have S:=S.know ok25
 have S:=S.know ok26
 have S:=S.know ok27
 have S:=S.know ok28
 refine tc S (F:=PT 2 (((3:Int):Rat)) (((0:Int):Rat))) (zcZ Tryz.func25) (zbC (n:=3) (m:=0) (by decide)) fun v a V9 hF hb S=>?_
 obtain⟨b15,x15,y15,b16,x16,y16,rfl,hq15,hq16,⟨hk29,hk30⟩,⟨hk31,hk32⟩,⟨ok29,ok30⟩,ok31,ok32⟩:=hF
 have S:=S.know ok29
 have S:=S.know ok30
 have S:=S.know ok31
 have S:=S.know ok32
 refine tc S (F:=PT 2 (((1:Int):Rat)) (((0:Int):Rat))) (zcZ Tryz.func25) (zbC (n:=1) (m:=0) (by decide)) fun v a V10 hF hb S=>?_
 obtain⟨b17,x17,y17,b18,x18,y18,rfl,hq17,hq18,⟨hk33,hk34⟩,⟨hk35,hk36⟩,⟨ok33,ok34⟩,ok35,ok36⟩:=hF
 have S:=S.know ok33
 have S:=S.know ok34
 have S:=S.know ok35
 have S:=S.know ok36
 refine tc S (F:=PT 2 (((5:Int):Rat)) (((0:Int):Rat))) (zcZ Tryz.func25) (zbC (n:=5) (m:=0) (by decide)) fun v a V11 hF hb S=>?_
 obtain⟨b19,x19,y19,b20,x20,y20,rfl,hq19,hq20,⟨hk37,hk38⟩,⟨hk39,hk40⟩,⟨ok37,ok38⟩,ok39,ok40⟩:=hF
 have S:=S.know ok37
 have S:=S.know ok38
 have S:=S.know ok39
 have S:=S.know ok40
 refine tc S (F:=MT 50 (zaB (((0:Int):Rat),((0:Int):Rat)) (((3:Int):Rat),((0:Int):Rat)) (((1:Int):Rat),((0:Int):Rat)) (((5:Int):Rat),((0:Int):Rat)))) (rc4 Tryz.func17 (S.at 3 rfl) (S.at 2 rfl) (S.at 1 rfl) (S.at 0 rfl)) (zgU (T.keep S.below) (zcz S 12 hq13 hq14 hk25 hk26 hk27 hk28).any (zcz S 8 hq15 hq16 hk29 hk30 hk31 hk32).any (zcz S 4 hq17 hq18 hk33 hk34 hk35 hk36).any (zcz S 0 hq19 hq20 hk37 hk38 hk39 hk40).any (by decide)) fun v a V12 hF hb S=>?_
 obtain⟨b21,x21,y21,b22,x22,y22,b23,x23,y23,b24,x24,y24,rfl,⟨hq21,hq22,hk41,hk42,hk43,hk44,ok41,ok42,ok43,ok44⟩,⟨hq23,hq24,hk45,hk46,hk47,hk48,ok45,ok46,ok47,ok48⟩⟩:=hF
 have S:=S.know ok41
 have S:=S.know ok42
 have S:=S.know ok43
 have S:=S.know ok44
 have S:=S.know ok45
 have S:=S.know ok46
 have S:=S.know ok47
 have S:=S.know ok48
 refine ti S (cs:=[.int .i8 0,.bool false,.slice none 0 0,.slice none 0 0,.bool false,.slice none 0 0,.slice none 0 0,.bool false,.slice none 0 0,.slice none 0 0,.bool false,.slice none 0 0,.slice none 0 0]) (zam rfl (Tryz.zeroValue42 _) rfl) (fun g2=>[⟨g1,42,(lM ((zaB (((0:Int):Rat),((0:Int):Rat)) (((2:Int):Rat),((2:Int):Rat)) (((0:Int):Rat),((2:Int):Rat)) (((2:Int):Rat),((0:Int):Rat))).kind) b9 x9 y9 b10 x10 y10 b11 x11 y11 b12 x12 y12)⟩,⟨g2,42,[.int .i8 0,.bool false,.slice none 0 0,.slice none 0 0,.bool false,.slice none 0 0,.slice none 0 0,.bool false,.slice none 0 0,.slice none 0 0,.bool false,.slice none 0 0,.slice none 0 0]⟩]) fun g2 a V13 hgg2 S=>?_
 refine sto S 1 (fun ht=>zai rfl (S.at 0 rfl) (S.at 1 rfl) zaQ rfl (zv5 rfl) ht) fun V14 S=>?_
 refine hK3 _ _ ?_
 refine wsp fun K4 hK4=>?_
 refine tc S (F:=PT 2 (((0:Int):Rat)) (((0:Int):Rat))) (zcZ Tryz.func25) (zbC (n:=0) (m:=0) (by decide)) fun v a V15 hF hb S=>?_
 obtain⟨b25,x25,y25,b26,x26,y26,rfl,hq25,hq26,⟨hk49,hk50⟩,⟨hk51,hk52⟩,⟨ok49,ok50⟩,ok51,ok52⟩:=hF
 have S:=S.know ok49
 have S:=S.know ok50
 have S:=S.know ok51
 have S:=S.know ok52
 refine tc S (F:=PT 2 (((1:Int):Rat)) (((0:Int):Rat))) (zcZ Tryz.func25) (zbC (n:=1) (m:=0) (by decide)) fun v a V16 hF hb S=>?_
 obtain⟨b27,x27,y27,b28,x28,y28,rfl,hq27,hq28,⟨hk53,hk54⟩,⟨hk55,hk56⟩,⟨ok53,ok54⟩,ok55,ok56⟩:=hF
 have S:=S.know ok53
 have S:=S.know ok54
 have S:=S.know ok55
 have S:=S.know ok56
 refine tc S (F:=PT 2 (((2:Int):Rat)) (((0:Int):Rat))) (zcZ Tryz.func25) (zbC (n:=2) (m:=0) (by decide)) fun v a V17 hF hb S=>?_
 obtain⟨b29,x29,y29,b30,x30,y30,rfl,hq29,hq30,⟨hk57,hk58⟩,⟨hk59,hk60⟩,⟨ok57,ok58⟩,ok59,ok60⟩:=hF
 have S:=S.know ok57
 have S:=S.know ok58
 have S:=S.know ok59
 have S:=S.know ok60
 refine tc S (F:=PT 2 (((3:Int):Rat)) (((0:Int):Rat))) (zcZ Tryz.func25) (zbC (n:=3) (m:=0) (by decide)) fun v a V18 hF hb S=>?_
 obtain⟨b31,x31,y31,b32,x32,y32,rfl,hq31,hq32,⟨hk61,hk62⟩,⟨hk63,hk64⟩,⟨ok61,ok62⟩,ok63,ok64⟩:=hF
 have S:=S.know ok61
 have S:=S.know ok62
 have S:=S.know ok63
 have S:=S.know ok64
 refine tc S (F:=MT 50 (zaB (((0:Int):Rat),((0:Int):Rat)) (((1:Int):Rat),((0:Int):Rat)) (((2:Int):Rat),((0:Int):Rat)) (((3:Int):Rat),((0:Int):Rat)))) (rc4 Tryz.func17 (S.at 3 rfl) (S.at 2 rfl) (S.at 1 rfl) (S.at 0 rfl)) (zgU (T.keep S.below) (zcz S 12 hq25 hq26 hk49 hk50 hk51 hk52).any (zcz S 8 hq27 hq28 hk53 hk54 hk55 hk56).any (zcz S 4 hq29 hq30 hk57 hk58 hk59 hk60).any (zcz S 0 hq31 hq32 hk61 hk62 hk63 hk64).any (by decide)) fun v a V19 hF hb S=>?_
 obtain⟨b33,x33,y33,b34,x34,y34,b35,x35,y35,b36,x36,y36,rfl,⟨hq33,hq34,hk65,hk66,hk67,hk68,ok65,ok66,ok67,ok68⟩,⟨hq35,hq36,hk69,hk70,hk71,hk72,ok69,ok70,ok71,ok72⟩⟩:=hF
 have S:=S.know ok65
 have S:=S.know ok66
 have S:=S.know ok67
 have S:=S.know ok68
 have S:=S.know ok69
 have S:=S.know ok70
 have S:=S.know ok71
 have S:=S.know ok72
 refine ti S (cs:=[.int .i8 0,.bool false,.slice none 0 0,.slice none 0 0,.bool false,.slice none 0 0,.slice none 0 0,.bool false,.slice none 0 0,.slice none 0 0,.bool false,.slice none 0 0,.slice none 0 0]) (zam rfl (Tryz.zeroValue42 _) rfl) (fun g3=>[⟨g1,42,(lM ((zaB (((0:Int):Rat),((0:Int):Rat)) (((2:Int):Rat),((2:Int):Rat)) (((0:Int):Rat),((2:Int):Rat)) (((2:Int):Rat),((0:Int):Rat))).kind) b9 x9 y9 b10 x10 y10 b11 x11 y11 b12 x12 y12)⟩,⟨g2,42,(lM ((zaB (((0:Int):Rat),((0:Int):Rat)) (((3:Int):Rat),((0:Int):Rat)) (((1:Int):Rat),((0:Int):Rat)) (((5:Int):Rat),((0:Int):Rat))).kind) b21 x21 y21 b22 x22 y22 b23 x23 y23 b24 x24 y24)⟩,⟨g3,42,[.int .i8 0,.bool false,.slice none 0 0,.slice none 0 0,.bool false,.slice none 0 0,.slice none 0 0,.bool false,.slice none 0 0,.slice none 0 0,.bool false,.slice none 0 0,.slice none 0 0]⟩]) fun g3 a V20 hgg3 S=>?_
 refine sto S 2 (fun ht=>zai rfl (S.at 0 rfl) (S.at 1 rfl) zaQ rfl (zv5 rfl) ht) fun V21 S=>?_
 refine hK4 _ _ ?_
 refine wp_seq_k fun K5 hK5=>?_
 have S:=S.keep [3,2,1,0] (ls':=[(3,pT g3 0),(2,pT g2 0),(1,pT g1 0),(0,.bool false)]) rfl
 obtain⟨W1,hW1⟩:∃W,W=V21:=⟨_,rfl⟩
 rw[<-hW1]at S ⊢
 have S0:=S
 refine fr 26 [19,20,21,22,23,24,25,26,27,28,29,30,31,32,33,34,35,36,37,38,39,40,41,42,43,44] [IsV ((aM ((zaB (((0:Int):Rat),((0:Int):Rat)) (((2:Int):Rat),((2:Int):Rat)) (((0:Int):Rat),((2:Int):Rat)) (((2:Int):Rat),((0:Int):Rat))).kind) b9 x9 y9 b10 x10 y10 b11 x11 y11 b12 x12 y12)),PT 2 (((1:Int):Rat)) (((1:Int):Rat)),PT 2 (((1:Int):Rat)) (((1:Int):Rat)),MT 2 ((.point (((1:Int):Rat),((1:Int):Rat)))),iB,iB,IsV ((aM ((zaB (((0:Int):Rat),((0:Int):Rat)) (((3:Int):Rat),((0:Int):Rat)) (((1:Int):Rat),((0:Int):Rat)) (((5:Int):Rat),((0:Int):Rat))).kind) b21 x21 y21 b22 x22 y22 b23 x23 y23 b24 x24 y24)),PT 2 (((1:Int):Rat)) (((0:Int):Rat)),PT 2 (((3:Int):Rat)) (((0:Int):Rat)),MT 2 ((.over (((1:Int):Rat),((0:Int):Rat)) (((3:Int):Rat),((0:Int):Rat)))),iB,iB,iB,IsV ((aM ((zaB (((0:Int):Rat),((0:Int):Rat)) (((1:Int):Rat),((0:Int):Rat)) (((2:Int):Rat),((0:Int):Rat)) (((3:Int):Rat),((0:Int):Rat))).kind) b33 x33 y33 b34 x34 y34 b35 x35 y35 b36 x36 y36)),PT 2 (((0:Int):Rat)) (((0:Int):Rat)),PT 2 (((0:Int):Rat)) (((0:Int):Rat)),MT 2 (.none),iB,iB,iB,PT 2 (((0:Int):Rat)) (((0:Int):Rat)),PT 2 (((0:Int):Rat)) (((0:Int):Rat)),PT 2 (((0:Int):Rat)) (((0:Int):Rat)),PT 2 (((1:Int):Rat)) (((1:Int):Rat)),iB,iB] S ?_ ?_
 ·refine sc (fun _ _ S _ _=>sv rfl (zad rfl (S.at 2 rfl) (S.bx 0 rfl) Tryz.underlying42 rfl (vs:=(lM ((zaB (((0:Int):Rat),((0:Int):Rat)) (((2:Int):Rat),((2:Int):Rat)) (((0:Int):Rat),((2:Int):Rat)) (((2:Int):Rat),((0:Int):Rat))).kind) b9 x9 y9 b10 x10 y10 b11 x11 y11 b12 x12 y12)) zaQ rfl)) ?_
  refine sc (fun _ _ _ _ _=>sl rfl (zcZ Tryz.func25) (zbC (n:=1) (m:=1) (by decide))) ?_
  refine sc (fun _ _ _ _ _=>sl rfl (zcZ Tryz.func25) (zbC (n:=1) (m:=1) (by decide))) ?_
  refine sc (fun _ _ _ _ hd=>by
   obtain⟨v,hv,hq⟩:=zm2 (m:=(.point (((1:Int):Rat),((1:Int):Rat)))) rfl rfl rfl rfl rfl (hd.r 1 rfl rfl) (hd.r 2 rfl rfl)
   exact sv rfl (zd4 rfl rfl rfl rfl hv) hq) ?_
  refine sc (fun _ _ S _ hd=>sl rfl (rc2 Tryz.func16 (hd.v 0 rfl rfl) rfl) (zd2 ((show MT 50 (zaB (((0:Int):Rat),((0:Int):Rat)) (((2:Int):Rat),((2:Int):Rat)) (((0:Int):Rat),((2:Int):Rat)) (((2:Int):Rat),((0:Int):Rat))) _ _ from mtm (zew S 52 hq9 hq10 hk17 hk18 hk19 hk20) (zew S 48 hq11 hq12 hk21 hk22 hk23 hk24))) (MT.of ((hd.r 3 rfl rfl)) (Mt.eq_of (by decide+kernel))))) ?_
  refine sc (fun _ _ _ _ hd=>sv rfl (zan rfl (hd.v 4 rfl rfl))) ?_
  refine sc (fun _ _ S _ hd=>svg rfl (hd.v 5 rfl rfl) (zad rfl (S.at 1 rfl) (S.bx 1 rfl) Tryz.underlying42 rfl (vs:=(lM ((zaB (((0:Int):Rat),((0:Int):Rat)) (((3:Int):Rat),((0:Int):Rat)) (((1:Int):Rat),((0:Int):Rat)) (((5:Int):Rat),((0:Int):Rat))).kind) b21 x21 y21 b22 x22 y22 b23 x23 y23 b24 x24 y24)) zaQ rfl)) ?_
  refine sc (fun _ _ _ _ hd=>slg rfl (hd.v 5 rfl rfl) (zcZ Tryz.func25) (zbC (n:=1) (m:=0) (by decide))) ?_
  refine sc (fun _ _ _ _ hd=>slg rfl (hd.v 5 rfl rfl) (zcZ Tryz.func25) (zbC (n:=3) (m:=0) (by decide))) ?_
  refine sc (fun _ _ _ _ hd=>by
   obtain⟨v,hv,hq⟩:=zm2 (m:=(.over (((1:Int):Rat),((0:Int):Rat)) (((3:Int):Rat),((0:Int):Rat)))) rfl rfl rfl rfl rfl (hd.r 7 rfl rfl) (hd.r 8 rfl rfl)
   exact svg rfl (hd.v 5 rfl rfl) (zd4 rfl rfl rfl rfl hv) hq) ?_
  refine sc (fun _ _ S _ hd=>slg rfl (hd.v 5 rfl rfl) (rc2 Tryz.func16 (hd.v 6 rfl rfl) rfl) (zd2 ((show MT 50 (zaB (((0:Int):Rat),((0:Int):Rat)) (((3:Int):Rat),((0:Int):Rat)) (((1:Int):Rat),((0:Int):Rat)) (((5:Int):Rat),((0:Int):Rat))) _ _ from mtm (zew S 28 hq21 hq22 hk41 hk42 hk43 hk44) (zew S 24 hq23 hq24 hk45 hk46 hk47 hk48))) (MT.of ((hd.r 9 rfl rfl)) (Mt.eq_of (by decide+kernel))))) ?_
  refine sc (fun _ _ _ _ hd=>sv rfl (zaG true rfl (hd.v 5 rfl rfl) (hd.v 10 rfl rfl))) ?_
  refine sc (fun _ _ _ _ hd=>sv rfl (zan rfl (hd.v 11 rfl rfl))) ?_
  refine sc (fun _ _ S _ hd=>svg rfl (hd.v 12 rfl rfl) (zad rfl (S.at 0 rfl) (S.bx 2 rfl) Tryz.underlying42 rfl (vs:=(lM ((zaB (((0:Int):Rat),((0:Int):Rat)) (((1:Int):Rat),((0:Int):Rat)) (((2:Int):Rat),((0:Int):Rat)) (((3:Int):Rat),((0:Int):Rat))).kind) b33 x33 y33 b34 x34 y34 b35 x35 y35 b36 x36 y36)) zaQ rfl)) ?_
  refine sc (fun _ _ _ _ hd=>slg rfl (hd.v 12 rfl rfl) (zcZ Tryz.func25) (zbC (n:=0) (m:=0) (by decide))) ?_
  refine sc (fun _ _ _ _ hd=>slg rfl (hd.v 12 rfl rfl) (zcZ Tryz.func25) (zbC (n:=0) (m:=0) (by decide))) ?_
  refine sc (fun _ _ _ _ hd=>by
   obtain⟨v,hv,hq⟩:=ztO (m:= .none) rfl rfl rfl rfl rfl (hd.r 14 rfl rfl) (hd.r 15 rfl rfl)
   exact svg rfl (hd.v 12 rfl rfl) (zaW rfl rfl rfl hv) hq) ?_
  refine sc (fun _ _ S _ hd=>slg rfl (hd.v 12 rfl rfl) (rc2 Tryz.func16 (hd.v 13 rfl rfl) rfl) (zd2 ((show MT 50 (zaB (((0:Int):Rat),((0:Int):Rat)) (((1:Int):Rat),((0:Int):Rat)) (((2:Int):Rat),((0:Int):Rat)) (((3:Int):Rat),((0:Int):Rat))) _ _ from mtm (zew S 4 hq33 hq34 hk65 hk66 hk67 hk68) (zew S 0 hq35 hq36 hk69 hk70 hk71 hk72))) (MT.of ((hd.r 16 rfl rfl)) (Mt.eq_of (by decide+kernel))))) ?_
  refine sc (fun _ _ _ _ hd=>sv rfl (zaG true rfl (hd.v 12 rfl rfl) (hd.v 17 rfl rfl))) ?_
  refine sc (fun _ _ _ _ hd=>sv rfl (zan rfl (hd.v 18 rfl rfl))) ?_
  refine sc (fun _ _ _ _ hd=>slg rfl (hd.v 19 rfl rfl) (zcZ Tryz.func25) (zbC (n:=0) (m:=0) (by decide))) ?_
  refine sc (fun _ _ _ _ hd=>slg rfl (hd.v 19 rfl rfl) (zcZ Tryz.func25) (zbC (n:=0) (m:=0) (by decide))) ?_
  refine sc (fun _ _ _ _ hd=>slg rfl (hd.v 19 rfl rfl) (zcZ Tryz.func25) (zbC (n:=0) (m:=0) (by decide))) ?_
  refine sc (fun _ _ _ _ hd=>slg rfl (hd.v 19 rfl rfl) (zcZ Tryz.func25) (zbC (n:=1) (m:=1) (by decide))) ?_
  refine sc (fun _ _ S _ hd=>slg rfl (hd.v 19 rfl rfl) (rc4 Tryz.func19 rfl rfl rfl rfl) (zcS (zm6 (T.keep S.below) ((hd.r 20 rfl rfl)).any ((hd.r 21 rfl rfl)).any ((hd.r 22 rfl rfl)).any ((hd.r 23 rfl rfl)).any (by decide)) (fun _ _ h=>h.trans (congrArg Value.bool (show((zaB (((0:Int):Rat),((0:Int):Rat)) (((0:Int):Rat),((0:Int):Rat)) (((0:Int):Rat),((0:Int):Rat)) (((1:Int):Rat),((1:Int):Rat))).has)=true from(by decide+kernel)))))) ?_
  refine sc (fun _ _ _ _ hd=>sv rfl (zaG true rfl (hd.v 19 rfl rfl) (hd.v 24 rfl rfl))) ?_
  exact sn
 ·intro a1 V22 S hB hf
  have S:=S.add (hf.v 25 rfl rfl)
  clear hf S0
  show wpList _ _ _ [_] _ _
  refine av S (zaj rfl (S.at 0 rfl)) fun a S=>?_
  refine hK5 _ _ ?_
  refine wp_ret ?_
  exact zaC rfl S (S.at 0 rfl) ⟨_,rfl,rfl,S.below⟩
end Go.Proofs.YtipckjmgdghkiaaGreatDoor
