/- A part. -/
import Derived.Test.YtipckjmgdghkiaaGreatDoorGVVec
set_option maxHeartbeats 4000000
set_option maxRecDepth 100000
namespace Go.Proofs.YtipckjmgdghkiaaGreatDoor
open Go Go.RowKit
section
variable {a a' b b' p p' d d' s t u w:Rat}
def crs (a a' b b' p p':Rat):Rat:=(b - a)*(p' - a') - (b' - a')*(p - a)
theorem zc6 (a b:Rat):zan a b=zan (a - b) 0:=by
 have:=zqH a b (-b)
 rw[<-this,show a+ -b=a - b by grind,show b+ -b=0 by grind]
theorem zuo (q:Rat):zan q 0=q.num.sign:=by
 rw[zgn];simp
theorem zfy (a b:Rat):zan (a*b) 0=zan a 0*zan b 0:=by
 have:=zqJ a 0 b
 rw[Rat.zero_mul]at this
 rw[this,zuo b]
theorem zfz (a b:Rat):(a<b/\zan a b= -1)\/(a=b/\zan a b=0)\/(b<a/\zan a b=1):=by
 by_cases h:a<b
 ·exact .inl ⟨h,zcO h⟩
 ·by_cases h2:b<a
  ·exact .inr (.inr ⟨h2,zek h2⟩)
  ·exact .inr (.inl ⟨by grind,by simp[zan,h,h2]⟩)
theorem ziP (h:zan b a*zan p' a'≠zan b' a'*zan p a\/zan b a*zan p' a'=0):zcw (zan b a*zan p' a') (zan b' a'*zan p a)=zan (crs a a' b b' p p') 0:=by
 have e1:zan b a*zan p' a'=zan ((b - a)*(p' - a')) 0:=by rw[zfy,<-zc6,<-zc6]
 have e2:zan b' a'*zan p a=zan ((b' - a')*(p - a)) 0:=by rw[zfy,<-zc6,<-zc6]
 rw[e1,e2]at h ⊢
 unfold crs
 generalize (b - a)*(p' - a')=u at h ⊢
 generalize (b' - a')*(p - a)=w at h ⊢
 rw[<-zc6]
 unfold zcw
 rcases zfz u 0 with⟨h1,e1⟩|⟨h1,e1⟩|⟨h1,e1⟩ <;> rcases zfz w 0 with⟨h2,e2⟩|⟨h2,e2⟩|⟨h2,e2⟩ <;> rw[e1,e2]at h ⊢ <;> rcases zfz u w with⟨h3,e3⟩|⟨h3,e3⟩|⟨h3,e3⟩ <;> rw[e3] <;> first|decide|(exfalso;grind)
theorem zdJ (h:u*w=0):u=0\/w=0:=by
 have:=zfy u w
 rw[h,zel]at this
 rcases Int.mul_eq_zero.1 this.symm with h|h
 ·exact .inl (zd2.1 h)
 ·exact .inr (zd2.1 h)
theorem zf4 (h:d≠0):d*(u/d)=u:=by
 rw[Rat.mul_comm,Rat.div_mul_cancel h]
theorem zhQ (h:crs a a' b b' p p'=0)(hab: ¬(a=b/\a'=b')):∃t,p=a+(b - a)*t/\p'=a'+(b' - a')*t:=by
 unfold crs at h
 by_cases hd:b - a=0
 ·have hd':b' - a'≠0:=fun h'=>hab ⟨by grind,by grind⟩
  refine⟨(p' - a')/(b' - a'),?_,?_⟩
  ·rw[hd,Rat.zero_mul]at h
   have h2:(b' - a')*(p - a)=0:=by grind
   rcases zdJ h2 with h3|h3
   ·exact absurd h3 hd'
   ·rw[hd];grind
  ·rw[zf4 hd'];grind
 ·refine⟨(p - a)/(b - a),?_,?_⟩
  ·rw[zf4 hd];grind
  ·have h2:(b - a)*((b' - a')*((p - a)/(b - a)) - (p' - a'))=0:=by
    have:=zf4 (u:=p - a) hd
    grind
   rcases zdJ h2 with h3|h3
   ·exact absurd h3 hd
   ·grind
theorem zlb (a d s t:Rat):zan (a+d*s) (a+d*t)=zan d 0*zan s t:=by
 rw[zc6,show a+d*s - (a+d*t)=d*(s - t) by grind,zfy,<-zc6]
theorem zlc (a a' d d' s t:Rat):za0 (a+d*s) (a'+d'*s) (a+d*t) (a'+d'*t)=za0 d d' 0 0*zan s t:=by
 unfold za0
 rw[zlb,zlb]
 by_cases h:zan d 0=0
 ·rw[if_pos h,if_pos (by rw[h,Int.zero_mul])]
 ·rw[if_neg h]
  by_cases h2:zan s t=0
  ·rw[h2,if_pos (by rw[Int.mul_zero])];simp
  ·rw[if_neg (fun h3=>by rcases Int.mul_eq_zero.1 h3 with h3|h3 <;> contradiction)]
theorem zrb (h: ¬(d=0/\d'=0)):za0 d d' 0 0*za0 d d' 0 0=1:=by
 have h1:za0 d d' 0 0≠0:=fun h2=>h (zeP.1 h2)
 have h2:=zdA d d' 0 0
 have h3:za0 d d' 0 0= -1\/za0 d d' 0 0=1:=by omega
 rcases h3 with h3|h3 <;> rw[h3] <;> rfl
def zgQ (a a' b b' c c':Rat):Int:=za0 a a' b b'*za0 b b' c c'
def onR (a a' b b' p p':Rat):Bool:=decide (crs a a' b b' p p'=0)&&decide (0<=zgQ a a' p p' b b')
theorem zvp (a d:Rat):a=a+d*0:=by grind
theorem zvq (a b:Rat):b=a+(b - a)*1:=by grind
theorem znh (hab: ¬(a=b/\a'=b'))(t:Rat):zgQ a a' (a+(b - a)*t) (a'+(b' - a')*t) b b'=zan 0 t*zan t 1:=by
 have h:=zrb (d:=b - a) (d':=b' - a') (fun h=>hab ⟨by grind,by grind⟩)
 have e1:=zlc a a' (b - a) (b' - a') 0 t
 have e2:=zlc a a' (b - a) (b' - a') t 1
 rw[<-zvp,<-zvp]at e1
 rw[<-zvq,<-zvq]at e2
 unfold zgQ
 rw[e1,e2]
 generalize za0 (b - a) (b' - a') 0 0=S at h
 rw[show S*zan 0 t*(S*zan t 1)=S*S*(zan 0 t*zan t 1) by grind,h,Int.one_mul]
theorem zoT (a a':Rat):za0 a a' a a'=0:=zeP.2 ⟨rfl,rfl⟩
theorem ziQ:zgQ a a' p p' a a'= -(za0 a a' p p'*za0 a a' p p'):=by
 unfold zgQ
 rw[zeQ a a' p p'];grind
theorem zvr (t:Rat): ¬(0<=zan 0 t/\0<=zan t 1):=by
 rintro⟨h1,h2⟩
 have h3: ¬(0:Rat)<t:=zg7.1 (decide_eq_true h1)
 have h4: ¬t<1:=zg7.1 (decide_eq_true h2)
 grind
theorem tri (a b:Rat):zan a b= -1\/zan a b=0\/zan a b=1:=by have:=zdv a b;omega
theorem zrc:crs a a' p p' b b'= -crs a a' b b' p p':=by unfold crs;grind
theorem zsG:crs b b' p p' a a'=crs a a' b b' p p':=by unfold crs;grind
theorem zrd:crs b b' a a' p p'= -crs a a' b b' p p':=by unfold crs;grind
theorem zup:crs a a' a a' p p'=0:=by unfold crs;grind
end
abbrev QQ:=Rat×Rat
def cz (x y z:QQ):Rat:=crs x.1 x.2 y.1 y.2 z.1 z.2
def zre (l:List QQ):Prop:=∀x∈l,∀y∈l,∀z∈l,cz x y z=0
theorem zsH {x y z:QQ}(h:cz x y z=0):cz x z y=0:=by unfold cz at *; rw[zrc,h];rfl
theorem zni {x y z:QQ}(h:cz x y z=0):cz y x z=0:=by unfold cz at *; rw[zrd,h];rfl
theorem zrf {x y z:QQ}(h:cz x y z=0):cz y z x=0:=by unfold cz at *; rw[zsG,h]
theorem zf5 (x z:QQ):cz x x z=0:=zup
theorem zdy (x z:QQ):cz x z x=0:=zsH (zf5 x z)
theorem zd4 (x z:QQ):cz z x x=0:=zrf (zrf (zf5 x z))
theorem zuq (a a' d d' r s t:Rat):cz (a+d*r,a'+d'*r) (a+d*s,a'+d'*s) (a+d*t,a'+d'*t)=0:=by
 simp only[cz,crs];grind
theorem zsI {x y u v w:QQ}(hxy:x≠y)(hu:cz x y u=0)(hv:cz x y v=0)(huv:u≠v)(h:cz u v w=0):cz x y w=0:=by
 have hne: ¬(x.1=y.1/\x.2=y.2):=fun h=>hxy (Prod.ext h.1 h.2)
 obtain⟨r,hr,hr'⟩:=zhQ hu hne
 obtain⟨s,hs,hs'⟩:=zhQ hv hne
 have hrs:s - r≠0:=fun h0=>huv (Prod.ext (by rw[hr,hs,show s=r by grind]) (by rw[hr',hs',show s=r by grind]))
 unfold cz at h ⊢
 rw[hr,hr',hs,hs']at h
 have h2:(s - r)*crs x.1 x.2 y.1 y.2 w.1 w.2=0:=by unfold crs at h ⊢;grind
 rcases zdJ h2 with h3|h3
 ·exact absurd h3 hrs
 ·exact h3
section
variable {n m:Int}
theorem zur (h:decide (n<m)=true): -1=zcw n m:=by unfold zcw;rw[if_pos (of_decide_eq_true h)]
theorem zus (h:decide (n<m)=false)(h':decide (m<n)=true):1=zcw n m:=by unfold zcw;rw[if_neg (of_decide_eq_false h),if_pos (of_decide_eq_true h')]
theorem zut (h:decide (n<m)=false)(h':decide (m<n)=false):0=zcw n m:=by unfold zcw;rw[if_neg (of_decide_eq_false h),if_neg (of_decide_eq_false h')]
theorem zuu {x y:Int}(h: -1<=x/\x<=1)(h': -1<=y/\y<=1):Inr (x*y):=by
 have h1:x= -1\/x=0\/x=1:=by omega
 have h2:y= -1\/y=0\/y=1:=by omega
 unfold Inr
 rcases h1 with rfl|rfl|rfl <;> rcases h2 with rfl|rfl|rfl <;> decide
theorem zdP (a b c d:Rat):Inr (zan a b*zan c d):=zuu (zdv _ _) (zdv _ _)
variable {q1 q1' q2 q2' q3 q3':Rat}
end
section
variable {a:Act}{V:World}{o:Oper}{t1:Tmp}{g:Nat}
theorem zaL {U:TypeId}{off:Nat}{cs:List Value}{b b':Bool}{x y x' y':Num}(ho:o.op= .load 29 (.tmp t1)) (h:a.tmps.getD t1 undef= .pointer (some ⟨g,off,none⟩)) (hb:V.heap[g]?=some (.cells cs.toArray U (0,0))) (hv:(cs.drop off).take 6=[.bool b,.slice x.A x.n x.c,.slice y.A y.n y.c,.bool b',.slice x'.A x'.n x'.c,.slice y'.A y'.n y'.c]):
  (execOp a.eval o).run Tryz.prog V= .ok (.value (.agg #[.bool b,.slice x.A x.n x.c,.slice y.A y.n y.c,.bool b',.slice x'.A x'.n x'.c,.slice y'.A y'.n y'.c])) V:=
 zad ho h hb Tryz.underlying29 rfl (vs:=[.bool b,.slice x.A x.n x.c,.slice y.A y.n y.c,.bool b',.slice x'.A x'.n x'.c,.slice y'.A y'.n y'.c]) zaR hv
theorem lp {n:Nat}{ls:List (Tmp×Value)}{lb:List Bx}{w V:World}{e:List Num}{a:Act}{o:Oper}{t t1:Tmp}{ops:Array Oper}{Q:Exit->Act->World->Prop}{rest:List Oper}{U:TypeId}{g off:Nat}{cs:List Value}{b b':Bool}{x y x' y':Num}(S:Frm n ls lb w e a V)(i j:Nat)
 (k:∀a,Frm n ((t,aP b x y b' x' y')::ls) lb w e a V->wpList Tryz.prog ops Q rest a V) (ho:o.op= .load 29 (.tmp t1):=by exact rfl) (hi:ls[i]?=some (t1,.pointer (some ⟨g,off,none⟩)):=by exact rfl) (hb:lb[j]?=some ⟨g,U,cs⟩:=by exact rfl) (hv:(cs.drop off).take 6=lP b x y b' x' y':=by exact rfl)
 (hg:o.guard=none:=by exact rfl) (hd:o.dst=some t:=by exact rfl) (ht:t<n:=by decide) (hl:zgr t ls=true:=by exact rfl):wpList Tryz.prog ops Q (o::rest) a V:=tv S (zaL ho (S.at i hi) (S.bx j hb) hv) k hg hd ht hl
theorem zeM {U:TypeId}{off:Nat}{cs:List Value}{b:Bool}{x y:Num}(ho:o.op= .load 27 (.tmp t1)) (h:a.tmps.getD t1 undef= .pointer (some ⟨g,off,none⟩)) (hb:V.heap[g]?=some (.cells cs.toArray U (0,0))) (hv:(cs.drop off).take 3=[.bool b,.slice x.A x.n x.c,.slice y.A y.n y.c]):
  (execOp a.eval o).run Tryz.prog V= .ok (.value (.agg #[.bool b,.slice x.A x.n x.c,.slice y.A y.n y.c])) V:=
 zad ho h hb Tryz.underlying27 rfl (vs:=[.bool b,.slice x.A x.n x.c,.slice y.A y.n y.c]) zah hv
end
theorem ziR {n:Int}{V:World}:
  Calls Tryz.prog 207 #[.int .i64 n] V (zaf V (fun v _=>v= .bool false)):=by
 refine fb Tryz.func207 Tryz.ntmps207 zau (fun a S=>?_)
 refine wsp fun K1 hK1=>?_
 refine ac S fun a S=>?_
 refine hK1 _ _ ?_
 refine wsp fun K2 hK2=>?_
 refine mv S 1 fun a S=>?_
 refine mv S 2 fun a S=>?_
 refine tv S (zbz (zgp _ (by decide) rfl (S.at 1 rfl) (S.at 0 rfl)) (show(!decide (n=n))=false from(by simp))) fun a S=>?_
 refine av S (zak rfl (S.at 0 rfl)) fun a S=>?_
 refine hK2 _ _ ?_
 refine wp_ret ?_
 exact zay rfl S (S.at 0 rfl) ⟨_,rfl,rfl,S.below⟩
theorem zrg {n m:Int}{V:World}:
  Calls Tryz.prog 171 #[.int .i64 n,.int .i64 m] V (zaf V (fun v _=>v= .int .i64 (zcw n m))):=by
 refine fb Tryz.func171 Tryz.ntmps171 zau (fun a S=>?_)
 refine wsp fun K1 hK1=>?_
 refine ac S fun a S=>?_
 refine hK1 _ _ ?_
 refine wsp fun K2 hK2=>?_
 refine mv S 1 fun a S=>?_
 refine tc S (rc1 Tryz.func207 (S.at 0 rfl)) (ziR (n:=n)) fun v a V1 hF hb S=>?_
 subst hF
 refine tv S (zak rfl (S.at 0 rfl)) fun a S=>?_
 refine hK2 _ _ ?_
 refine wsp fun K3 hK3=>?_
 refine mv S 5 fun a S=>?_
 refine tc S (rc1 Tryz.func207 (S.at 0 rfl)) (ziR (n:=m)) fun v a V2 hF hb S=>?_
 subst hF
 refine tv S (zak rfl (S.at 0 rfl)) fun a S=>?_
 refine hK3 _ _ ?_
 refine wp_seq_k fun K4 hK4=>?_
 refine wsp fun K5 hK5=>?_
 refine mv S 3 fun a S=>?_
 refine hK5 _ _ ?_
 refine wp_cond_false (S.at 0 rfl) ?_
 refine wp_skip ?_
 refine hK4 _ _ ?_
 refine wp_seq_k fun K6 hK6=>?_
 refine wsp fun K7 hK7=>?_
 refine mv S 1 fun a S=>?_
 refine hK7 _ _ ?_
 refine wp_cond_false (S.at 0 rfl) ?_
 refine wp_skip ?_
 refine hK6 _ _ ?_
 refine wp_seq_k fun K8 hK8=>?_
 refine wsp fun K9 hK9=>?_
 refine mv S 9 fun a S=>?_
 refine mv S 11 fun a S=>?_
 refine tv S (zc9 rfl (S.at 1 rfl) (S.at 0 rfl)) fun a S=>?_
 refine hK9 _ _ ?_
 rcases zv9 (decide (n<m))with hc16|hc16
 ·refine wp_cond_true ((S.at 0 rfl).trans (congrArg Value.bool hc16)) ?_
  refine wp_seq_k fun K10 hK10=>?_
  have S:=S.keep [4] (ls':=[(4,.int .i64 0)]) rfl
  refine zaD ?_
  refine av S (zcB rfl) fun a S=>?_
  refine hK10 _ _ ?_
  refine wp_ret ?_
  exact zay rfl S (S.at 0 rfl) ⟨_,rfl,congrArg (Value.int .i64) (zur hc16),S.below⟩
 ·refine wp_cond_false ((S.at 0 rfl).trans (congrArg Value.bool hc16)) ?_
  refine wp_skip ?_
  refine hK8 _ _ ?_
  refine wp_seq_k fun K11 hK11=>?_
  refine wp_seq_k fun K12 hK12=>?_
  have S:=S.keep [0,1] (ls':=[(0,.int .i64 n),(1,.int .i64 m)]) rfl
  refine zaD ?_
  refine mv S 0 fun a S=>?_
  refine mv S 2 fun a S=>?_
  refine tv S (zcp rfl (S.at 1 rfl) (S.at 0 rfl)) fun a S=>?_
  refine hK12 _ _ ?_
  rcases zv9 (decide (m<n))with hc19|hc19
  ·refine wp_cond_true ((S.at 0 rfl).trans (congrArg Value.bool hc19)) ?_
   refine wsp fun K13 hK13=>?_
   refine ac S fun a S=>?_
   refine hK13 _ _ ?_
   refine wp_ret ?_
   exact zay rfl S (S.at 0 rfl) ⟨_,rfl,congrArg (Value.int .i64) (zus hc16 hc19),S.below⟩
  ·refine wp_cond_false ((S.at 0 rfl).trans (congrArg Value.bool hc19)) ?_
   refine wp_skip ?_
   refine hK11 _ _ ?_
   refine wsp fun K14 hK14=>?_
   refine ac S fun a S=>?_
   refine hK14 _ _ ?_
   refine wp_ret ?_
   exact zay rfl S (S.at 0 rfl) ⟨_,rfl,congrArg (Value.int .i64) (zut hc16 hc19),S.below⟩
theorem znj {K K':Nat}{q1 q1' q2 q2':Rat}{v1 v2:Value}{V:World}(T:TT V)(h1:P1 K (q1) (q1') v1 V)(h2:P1 K' (q2) (q2') v2 V)(hK0:K<=400:=by omega)(hK1:K'<=400:=by omega):
  Calls Tryz.prog 170 #[v1,v2] V (zaf V (fun v _=>v= .tuple #[.int .i64 (zan q2 q1),.int .i64 (zan q2' q1')])):=by
 obtain⟨b1,x1,y1,b2,x2,y2,rfl,hq1,hq2,⟨hk1,hk2⟩,⟨hk3,hk4⟩,⟨ok1,ok2⟩,ok3,ok4⟩:=h1
 obtain⟨b3,x3,y3,b4,x4,y4,rfl,hq3,hq4,⟨hk5,hk6⟩,⟨hk7,hk8⟩,⟨ok5,ok6⟩,ok7,ok8⟩:=h2
 have hp0:=fun {V':World}=>p1m (V:=V') hq1 hq2 hk1 hk2 hk3 hk4
 have hp1:=fun {V':World}=>p1m (V:=V') hq3 hq4 hk5 hk6 hk7 hk8
 refine fb Tryz.func170 Tryz.ntmps170 (zaa ok5 (zaa ok6 (zaa ok7 (zaa ok8 (zaa ok1 (zaa ok2 (zaa ok3 (zaa ok4 zau)))))))) (fun a S=>?_)
 refine wsp fun K1 hK1=>?_
 refine tb S 0 (lP b1 x1 y1 b2 x2 y2) fun g1 a V1 hgg1 S=>?_
 refine tb S 2 (lP b3 x3 y3 b4 x4 y4) fun g2 a V2 hgg2 S=>?_
 refine ac S fun a S=>?_
 refine ac S fun a S=>?_
 refine hK1 _ _ ?_
 refine wp_seq_k fun K2 hK2=>?_
 have S:=S.keep [5,4,3,2] (ls':=[(5,.int .i64 0),(4,.int .i64 0),(3,pT g2 0),(2,pT g1 0)]) rfl
 obtain⟨W1,hW1⟩:∃W,W=V2:=⟨_,rfl⟩
 rw[<-hW1]at S ⊢
 have S0:=S
 refine fr 10 [6,7,8,9,10,11,12,13,14,15] [IsV (pT g2 0),IsV ((aG b3 x3 y3)),IsV (pT g1 0),IsV ((aG b1 x1 y1)),iI ((zan q2 q1)),IsV (pT g2 3),IsV ((aG b4 x4 y4)),IsV (pT g1 3),IsV ((aG b2 x2 y2)),iI ((zan (q2') (q1')))] S ?_ ?_
 ·refine sc (fun _ _ S _ _=>sv rfl (zab rfl (S.at 2 rfl) (zaV _))) ?_
  refine sc (fun _ _ S _ hd=>sv rfl (zeM rfl (hd.v 0 rfl rfl) (S.bx 1 rfl) rfl)) ?_
  refine sc (fun _ _ S _ _=>sv rfl (zab rfl (S.at 3 rfl) (zaV _))) ?_
  refine sc (fun _ _ S _ hd=>sv rfl (zeM rfl (hd.v 2 rfl rfl) (S.bx 0 rfl) rfl)) ?_
  refine sc (fun _ _ S _ hd=>sl rfl (rc2 Tryz.func105 (hd.v 1 rfl rfl) (hd.v 3 rfl rfl)) (zkI (T.keep S.below) (q2m S 0 hq3 hk5 hk6) (q2m S 4 hq1 hk1 hk2))) ?_
  refine sc (fun _ _ S _ _=>sv rfl (zab rfl (S.at 2 rfl) (za3 _))) ?_
  refine sc (fun _ _ S _ hd=>sv rfl (zeM rfl (hd.v 5 rfl rfl) (S.bx 1 rfl) rfl)) ?_
  refine sc (fun _ _ S _ _=>sv rfl (zab rfl (S.at 3 rfl) (za3 _))) ?_
  refine sc (fun _ _ S _ hd=>sv rfl (zeM rfl (hd.v 7 rfl rfl) (S.bx 0 rfl) rfl)) ?_
  refine sc (fun _ _ S _ hd=>sl rfl (rc2 Tryz.func105 (hd.v 6 rfl rfl) (hd.v 8 rfl rfl)) (zkI (T.keep S.below) (q2m S 2 hq4 hk7 hk8) (q2m S 6 hq2 hk3 hk4))) ?_
  exact sn
 ·intro a1 V3 S hB hf
  have S:=S.add (hf.v 4 rfl rfl)
  have S:=S.add (hf.v 9 rfl rfl)
  clear hf S0
  show wpList _ _ _ [_,_] _ _
  refine av S (zak rfl (S.at 1 rfl)) fun a S=>?_
  refine av S (zak rfl (S.at 1 rfl)) fun a S=>?_
  refine hK2 _ _ ?_
  refine wp_ret ?_
  exact zoA rfl S (S.at 1 rfl) (S.at 0 rfl) ⟨_,rfl,rfl,S.below⟩
theorem zrh {Ka Kb Kc:Nat}{q1 q1' q2 q2' q3 q3':Rat}{v1 v2 v3:Value}{V:World}(T:TT V)(h1:P1 Ka (q1) (q1') v1 V)(h2:P1 Kb (q2) (q2') v2 V)(h3:P1 Kc (q3) (q3') v3 V)(hK1:Ka<=400)(hK2:Kb<=400)(hK3:Kc<=400)(hs0:Sm 250 (q2 - q1))(hs1:Sm 250 (q2' - q1'))(hs2:Sm 250 (q3 - q1))(hs3:Sm 250 (q3' - q1')):
  Calls Tryz.prog 131 #[v1,v2,v3] V (zaf V (fun v _=>v= .int .i64 (zan (crs q1 q1' q2 q2' q3 q3') 0))):=by
 obtain⟨b1,x1,y1,b2,x2,y2,rfl,hq1,hq2,⟨hk1,hk2⟩,⟨hk3,hk4⟩,⟨ok1,ok2⟩,ok3,ok4⟩:=h1
 obtain⟨b3,x3,y3,b4,x4,y4,rfl,hq3,hq4,⟨hk5,hk6⟩,⟨hk7,hk8⟩,⟨ok5,ok6⟩,ok7,ok8⟩:=h2
 obtain⟨b5,x5,y5,b6,x6,y6,rfl,hq5,hq6,⟨hk9,hk10⟩,⟨hk11,hk12⟩,⟨ok9,ok10⟩,ok11,ok12⟩:=h3
 have hp0:=fun {V':World}=>p1m (V:=V') hq1 hq2 hk1 hk2 hk3 hk4
 have hp1:=fun {V':World}=>p1m (V:=V') hq3 hq4 hk5 hk6 hk7 hk8
 have hp2:=fun {V':World}=>p1m (V:=V') hq5 hq6 hk9 hk10 hk11 hk12
 refine fb Tryz.func131 Tryz.ntmps131 (zaa ok9 (zaa ok10 (zaa ok11 (zaa ok12 (zaa ok5 (zaa ok6 (zaa ok7 (zaa ok8 (zaa ok1 (zaa ok2 (zaa ok3 (zaa ok4 zau)))))))))))) (fun a S=>?_)
 refine wsp fun K1 hK1=>?_
 refine tb S 0 (lP b1 x1 y1 b2 x2 y2) fun g1 a V1 hgg1 S=>?_
 refine tb S 2 (lP b3 x3 y3 b4 x4 y4) fun g2 a V2 hgg2 S=>?_
 refine tb S 4 (lP b5 x5 y5 b6 x6 y6) fun g3 a V3 hgg3 S=>?_
 refine ac S fun a S=>?_
 refine hK1 _ _ ?_
 refine wsp fun K2 hK2=>?_
 refine lp S 3 0 fun a S=>?_
 refine lp S 3 1 fun a S=>?_
 refine tc S (rc2 Tryz.func170 (S.at 1 rfl) (S.at 0 rfl)) (znj (T.keep S.below) (p4 S 8 hp0) (p4 S 4 hp1)) fun v a V4 hF hb S=>?_
 subst hF
 refine mv S 0 fun a S=>?_
 refine tv S (zaT rfl (S.at 0 rfl) rfl) fun a S=>?_
 refine tv S (zaT rfl (S.at 1 rfl) rfl) fun a S=>?_
 refine tv S (zak rfl (S.at 1 rfl)) fun a S=>?_
 refine tv S (zak rfl (S.at 1 rfl)) fun a S=>?_
 refine hK2 _ _ ?_
 refine wsp fun K3 hK3=>?_
 refine lp S 11 0 fun a S=>?_
 refine lp S 10 2 fun a S=>?_
 refine tc S (rc2 Tryz.func170 (S.at 1 rfl) (S.at 0 rfl)) (znj (T.keep S.below) (p4 S 8 hp0) (p4 S 0 hp2)) fun v a V5 hF hb S=>?_
 subst hF
 refine mv S 0 fun a S=>?_
 refine tv S (zaT rfl (S.at 0 rfl) rfl) fun a S=>?_
 refine tv S (zaT rfl (S.at 1 rfl) rfl) fun a S=>?_
 refine tv S (zak rfl (S.at 1 rfl)) fun a S=>?_
 refine tv S (zak rfl (S.at 1 rfl)) fun a S=>?_
 refine hK3 _ _ ?_
 refine wp_seq_k fun K4 hK4=>?_
 refine wp_seq_k fun K5 hK5=>?_
 rcases zv9 (decide (zan q2 q1*zan q3' q1'=zan q2' q1'*zan q3 q1))with hs1_|hs1_
 ·skip
  have S:=S.keep [10,9,8,7,5,4,3] (ls':=[(10,.int .i64 (zan (q3') (q1'))),(9,.int .i64 (zan q3 q1)),(8,.int .i64 (zan (q2') (q1'))),(7,.int .i64 (zan q2 q1)),(5,pT g3 0),(4,pT g2 0),(3,pT g1 0)]) rfl
  refine zaD ?_
  refine mv S 3 fun a S=>?_
  refine mv S 1 fun a S=>?_
  refine tv S (zdO rfl (S.at 1 rfl) (S.at 0 rfl) (zdP _ _ _ _)) fun a S=>?_
  refine mv S 5 fun a S=>?_
  refine mv S 5 fun a S=>?_
  refine tv S (zdO rfl (S.at 1 rfl) (S.at 0 rfl) (zdP _ _ _ _)) fun a S=>?_
  refine tv S (zbz (zgp _ (by decide) rfl (S.at 3 rfl) (S.at 0 rfl)) (show(!decide ((zan q2 q1)*(zan (q3') (q1'))=(zan (q2') (q1'))*(zan q3 q1)))=false from(by rw[hs1_];rfl))) fun a S=>?_
  refine mv S 0 fun a S=>?_
  refine tvg S (S.at 0 rfl) (zao rfl (S.at 11 rfl)) fun a S=>?_
  refine tvg S (S.at 1 rfl) (zao rfl (S.at 9 rfl)) fun a S=>?_
  refine tvg S (S.at 2 rfl) (zdO rfl (S.at 1 rfl) (S.at 0 rfl) (zdP _ _ _ _)) fun a S=>?_
  refine tvg S (S.at 3 rfl) (zdx _ (by decide) rfl (S.at 0 rfl) rfl) fun a S=>?_
  refine tv S (zas false rfl (S.at 4 rfl) (S.at 0 rfl)) fun a S=>?_
  refine hK5 _ _ ?_
  rcases zv9 (decide ((zan q2 q1)*(zan (q3') (q1'))=0))with hc35|hc35
  ·refine wp_cond_true ((S.at 0 rfl).trans (congrArg Value.bool hc35)) ?_
   refine wp_seq_k fun K6 hK6=>?_
   have S:=S.keep [10,9,8,7] (ls':=[(10,.int .i64 (zan (q3') (q1'))),(9,.int .i64 (zan q3 q1)),(8,.int .i64 (zan (q2') (q1'))),(7,.int .i64 (zan q2 q1))]) rfl
   refine zaD ?_
   refine mv S 3 fun a S=>?_
   refine mv S 1 fun a S=>?_
   refine tv S (zdO rfl (S.at 1 rfl) (S.at 0 rfl) (zdP _ _ _ _)) fun a S=>?_
   refine mv S 5 fun a S=>?_
   refine mv S 5 fun a S=>?_
   refine tv S (zdO rfl (S.at 1 rfl) (S.at 0 rfl) (zdP _ _ _ _)) fun a S=>?_
   refine tc S (rc2 Tryz.func171 (S.at 3 rfl) (S.at 0 rfl)) (zrg (n:=(zan q2 q1)*(zan (q3') (q1'))) (m:=(zan (q2') (q1'))*(zan q3 q1))) fun v a V6 hF hb S=>?_
   subst hF
   refine tv S (zak rfl (S.at 0 rfl)) fun a S=>?_
   refine hK6 _ _ ?_
   refine wp_ret ?_
   exact zay rfl S (S.at 0 rfl) ⟨_,rfl,congrArg (Value.int .i64) (ziP (.inr (of_decide_eq_true hc35))),S.below⟩
  ·refine wp_cond_false ((S.at 0 rfl).trans (congrArg Value.bool hc35)) ?_
   refine wp_skip ?_
   refine hK4 _ _ ?_
   refine wp_seq_k fun K7 hK7=>?_
   have S:=S.keep [5,4,3] (ls':=[(5,pT g3 0),(4,pT g2 0),(3,pT g1 0)]) rfl
   obtain⟨W1,hW1⟩:∃W,W=V5:=⟨_,rfl⟩
   rw[<-hW1]at S ⊢
   have S0:=S
   refine fr 8 [43,44,45,46,47,48,49,50] [IsV ((aP b3 x3 y3 b4 x4 y4)),IsV ((aP b1 x1 y1 b2 x2 y2)),PT 250 (q2 - q1) ((q2') - (q1')),IsV ((aP b5 x5 y5 b6 x6 y6)),IsV ((aP b1 x1 y1 b2 x2 y2)),PT 250 (q3 - q1) ((q3') - (q1')),QT 1001 ((q2 - q1)*((q3') - (q1')) - ((q2') - (q1'))*(q3 - q1)),iI ((zan ((q2 - q1)*((q3') - (q1')) - ((q2') - (q1'))*(q3 - q1)) 0))] S ?_ ?_
   ·refine sc (fun _ _ S _ _=>sv rfl (zaL rfl (S.at 1 rfl) (S.bx 1 rfl) rfl)) ?_
    refine sc (fun _ _ S _ _=>sv rfl (zaL rfl (S.at 2 rfl) (S.bx 0 rfl) rfl)) ?_
    refine sc (fun _ _ S _ hd=>sl rfl (rc2 Tryz.func45 (hd.v 0 rfl rfl) (hd.v 1 rfl rfl)) (zdd (zrw (T.keep S.below) (p4 S 4 hp1) (p4 S 8 hp0)) (fun _ _ h=>h.sml (by assumption) (by assumption)))) ?_
    refine sc (fun _ _ S _ _=>sv rfl (zaL rfl (S.at 0 rfl) (S.bx 2 rfl) rfl)) ?_
    refine sc (fun _ _ S _ _=>sv rfl (zaL rfl (S.at 2 rfl) (S.bx 0 rfl) rfl)) ?_
    refine sc (fun _ _ S _ hd=>sl rfl (rc2 Tryz.func45 (hd.v 3 rfl rfl) (hd.v 4 rfl rfl)) (zdd (zrw (T.keep S.below) (p4 S 0 hp2) (p4 S 8 hp0)) (fun _ _ h=>h.sml (by assumption) (by assumption)))) ?_
    refine sc (fun _ _ S _ hd=>sl rfl (rc2 Tryz.func46 rfl rfl) (zjU (T.keep S.below) ((hd.r 2 rfl rfl)).any ((hd.r 5 rfl rfl)).any (by omega) (by omega))) ?_
    refine sc (fun _ _ S _ hd=>sl rfl (rc1 Tryz.func172 rfl) (ztV (T.keep S.below) ((hd.r 6 rfl rfl)).any (by omega))) ?_
    exact sn
   ·intro a1 V7 S hB hf
    have S:=S.add (hf.v 7 rfl rfl)
    clear hf S0
    show wpList _ _ _ [_] _ _
    refine tv S (zak rfl (S.at 0 rfl)) fun a S=>?_
    refine hK7 _ _ ?_
    refine wp_ret ?_
    exact zay rfl S (S.at 0 rfl) ⟨_,rfl,rfl,S.below⟩
 ·skip
  have S:=S.keep [10,9,8,7,5,4,3] (ls':=[(10,.int .i64 (zan (q3') (q1'))),(9,.int .i64 (zan q3 q1)),(8,.int .i64 (zan (q2') (q1'))),(7,.int .i64 (zan q2 q1)),(5,pT g3 0),(4,pT g2 0),(3,pT g1 0)]) rfl
  refine zaD ?_
  refine mv S 3 fun a S=>?_
  refine mv S 1 fun a S=>?_
  refine tv S (zdO rfl (S.at 1 rfl) (S.at 0 rfl) (zdP _ _ _ _)) fun a S=>?_
  refine mv S 5 fun a S=>?_
  refine mv S 5 fun a S=>?_
  refine tv S (zdO rfl (S.at 1 rfl) (S.at 0 rfl) (zdP _ _ _ _)) fun a S=>?_
  refine tv S (zbz (zgp _ (by decide) rfl (S.at 3 rfl) (S.at 0 rfl)) (show(!decide ((zan q2 q1)*(zan (q3') (q1'))=(zan (q2') (q1'))*(zan q3 q1)))=true from(by rw[hs1_];rfl))) fun a S=>?_
  refine mv S 0 fun a S=>?_
  refine tk S (S.at 0 rfl) fun a S=>?_
  refine tk S (S.at 1 rfl) fun a S=>?_
  refine tk S (S.at 2 rfl) fun a S=>?_
  refine tk S (S.at 3 rfl) fun a S=>?_
  refine tv S (zas true rfl (S.at 4 rfl) rfl) fun a S=>?_
  refine hK5 _ _ ?_
  refine wp_cond_true (S.at 0 rfl) ?_
  refine wp_seq_k fun K8 hK8=>?_
  have S:=S.keep [10,9,8,7] (ls':=[(10,.int .i64 (zan (q3') (q1'))),(9,.int .i64 (zan q3 q1)),(8,.int .i64 (zan (q2') (q1'))),(7,.int .i64 (zan q2 q1))]) rfl
  refine zaD ?_
  refine mv S 3 fun a S=>?_
  refine mv S 1 fun a S=>?_
  refine tv S (zdO rfl (S.at 1 rfl) (S.at 0 rfl) (zdP _ _ _ _)) fun a S=>?_
  refine mv S 5 fun a S=>?_
  refine mv S 5 fun a S=>?_
  refine tv S (zdO rfl (S.at 1 rfl) (S.at 0 rfl) (zdP _ _ _ _)) fun a S=>?_
  refine tc S (rc2 Tryz.func171 (S.at 3 rfl) (S.at 0 rfl)) (zrg (n:=(zan q2 q1)*(zan (q3') (q1'))) (m:=(zan (q2') (q1'))*(zan q3 q1))) fun v a V8 hF hb S=>?_
  subst hF
  refine tv S (zak rfl (S.at 0 rfl)) fun a S=>?_
  refine hK8 _ _ ?_
  refine wp_ret ?_
  exact zay rfl S (S.at 0 rfl) ⟨_,rfl,congrArg (Value.int .i64) (ziP (.inl (of_decide_eq_false hs1_))),S.below⟩
end Go.Proofs.YtipckjmgdghkiaaGreatDoor
