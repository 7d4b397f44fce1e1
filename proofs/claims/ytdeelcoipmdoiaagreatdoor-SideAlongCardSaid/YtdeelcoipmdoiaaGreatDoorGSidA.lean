/- A part. -/
import Derived.Test.YtdeelcoipmdoiaaGreatDoorGVVec
set_option maxHeartbeats 4000000
set_option maxRecDepth 100000
namespace Go.Proofs.YtdeelcoipmdoiaaGreatDoor
open Go Go.RowKit
section
variable {a a' b b' p p' d d' s t u w:Rat}
def crs (a a' b b' p p':Rat):Rat:=(b - a)*(p' - a') - (b' - a')*(p - a)
theorem zee (a b:Rat):zan a b=zan (a - b) 0:=by
 have:=zo4 a b (-b)
 rw[←this,show a+ -b=a - b by grind,show b+ -b=0 by grind]
theorem zsA (q:Rat):zan q 0=q.num.sign:=by
 rw[zhI];simp
theorem zlg (a b:Rat):zan (a*b) 0=zan a 0*zan b 0:=by
 have:=zo5 a 0 b
 rw[Rat.zero_mul]at this
 rw[this,zsA b]
theorem ze1 (a b:Rat):(a<b∧zan a b= -1)∨(a=b∧zan a b=0)∨(b<a∧zan a b=1):=by
 by_cases h:a<b
 ·exact .inl ⟨h,zev h⟩
 ·by_cases h2:b<a
  ·exact .inr (.inr ⟨h2,zew h2⟩)
  ·exact .inr (.inl ⟨by grind,by simp[zan,h,h2]⟩)
theorem zhM (h:zan b a*zan p' a'≠zan b' a'*zan p a∨zan b a*zan p' a'=0):zbM (zan b a*zan p' a') (zan b' a'*zan p a)=zan (crs a a' b b' p p') 0:=by
 have e1:zan b a*zan p' a'=zan ((b - a)*(p' - a')) 0:=by rw[zlg,←zee,←zee]
 have e2:zan b' a'*zan p a=zan ((b' - a')*(p - a)) 0:=by rw[zlg,←zee,←zee]
 rw[e1,e2]at h ⊢
 unfold crs
 generalize (b - a)*(p' - a')=u at h ⊢
 generalize (b' - a')*(p - a)=w at h ⊢
 rw[←zee]
 unfold zbM
 rcases ze1 u 0 with⟨h1,e1⟩|⟨h1,e1⟩|⟨h1,e1⟩ <;> rcases ze1 w 0 with⟨h2,e2⟩|⟨h2,e2⟩|⟨h2,e2⟩ <;> rw[e1,e2]at h ⊢ <;> rcases ze1 u w with⟨h3,e3⟩|⟨h3,e3⟩|⟨h3,e3⟩ <;> rw[e3] <;> first|decide|(exfalso;grind)
theorem zef (h:u*w=0):u=0∨w=0:=by
 have:=zlg u w
 rw[h,zex]at this
 rcases Int.mul_eq_zero.1 this.symm with h|h
 ·exact .inl (zdE.1 h)
 ·exact .inr (zdE.1 h)
theorem zgP (h:d≠0):d*(u/d)=u:=by
 rw[Rat.mul_comm,Rat.div_mul_cancel h]
theorem ziO (h:crs a a' b b' p p'=0)(hab: ¬(a=b∧a'=b')):∃t,p=a+(b - a)*t∧p'=a'+(b' - a')*t:=by
 unfold crs at h
 by_cases hd:b - a=0
 ·have hd':b' - a'≠0:=fun h'=>hab ⟨by grind,by grind⟩
  refine⟨(p' - a')/(b' - a'),?_,?_⟩
  ·rw[hd,Rat.zero_mul]at h
   have h2:(b' - a')*(p - a)=0:=by grind
   rcases zef h2 with h3|h3
   ·exact absurd h3 hd'
   ·rw[hd];grind
  ·rw[zgP hd'];grind
 ·refine⟨(p - a)/(b - a),?_,?_⟩
  ·rw[zgP hd];grind
  ·have h2:(b - a)*((b' - a')*((p - a)/(b - a)) - (p' - a'))=0:=by
    have:=zgP (u:=p - a) hd
    grind
   rcases zef h2 with h3|h3
   ·exact absurd h3 hd
   ·grind
def inRow (a a' b b' c c':Rat):Int:=zcI a a' b b'*zcI b b' c c'
def onR (a a' b b' p p':Rat):Bool:=decide (crs a a' b b' p p'=0)&&decide (0≤inRow a a' p p' b b')
def zdQ (a a' b b' p p':Rat):Bool:=decide (crs a a' b b' p p'=0)&&decide (0<inRow a a' p p' b b')
def zc3 (a a' b b' p p':Rat):Bool:=decide (crs a a' b b' p p'=0)&&decide (0<inRow a a' b b' p p')
theorem tri (a b:Rat):zan a b= -1∨zan a b=0∨zan a b=1:=by have:=zdb a b;omega
theorem zpA:crs a a' p p' b b'= -crs a a' b b' p p':=by unfold crs;grind
theorem zq7:crs b b' p p' a a'=crs a a' b b' p p':=by unfold crs;grind
theorem zsB:crs a a' a a' p p'=0:=by unfold crs;grind
end
abbrev QQ:=Rat×Rat
def cz (x y z:QQ):Rat:=crs x.1 x.2 y.1 y.2 z.1 z.2
def zcw (l:List QQ):Prop:=∀x∈l,∀y∈l,∀z∈l,cz x y z=0
theorem zq8 {x y z:QQ}(h:cz x y z=0):cz x z y=0:=by unfold cz at *; rw[zpA,h];rfl
theorem zpB {x y z:QQ}(h:cz x y z=0):cz y z x=0:=by unfold cz at *; rw[zq7,h]
theorem ziP (x z:QQ):cz x x z=0:=zsB
theorem zpC (x z:QQ):cz x z x=0:=zq8 (ziP x z)
theorem zpD (x z:QQ):cz z x x=0:=zpB (zpB (ziP x z))
theorem zsC (a a' d d' r s t:Rat):cz (a+d*r,a'+d'*r) (a+d*s,a'+d'*s) (a+d*t,a'+d'*t)=0:=by
 simp only[cz,crs];grind
theorem zeC {l:List QQ}{a a' d d':Rat}(h:∀x∈l,∃t,x=(a+d*t,a'+d'*t)):zcw l:=by
 intro x hx y hy z hz
 obtain⟨r,rfl⟩:=h x hx
 obtain⟨s,rfl⟩:=h y hy
 obtain⟨t,rfl⟩:=h z hz
 exact zsC ..
theorem zq9 {x y u v w:QQ}(hxy:x≠y)(hu:cz x y u=0)(hv:cz x y v=0)(huv:u≠v)(h:cz u v w=0):cz x y w=0:=by
 have hne: ¬(x.1=y.1∧x.2=y.2):=fun h=>hxy (Prod.ext h.1 h.2)
 obtain⟨r,hr,hr'⟩:=ziO hu hne
 obtain⟨s,hs,hs'⟩:=ziO hv hne
 have hrs:s - r≠0:=fun h0=>huv (Prod.ext (by rw[hr,hs,show s=r by grind]) (by rw[hr',hs',show s=r by grind]))
 unfold cz at h ⊢
 rw[hr,hr',hs,hs']at h
 have h2:(s - r)*crs x.1 x.2 y.1 y.2 w.1 w.2=0:=by unfold crs at h ⊢;grind
 rcases zef h2 with h3|h3
 ·exact absurd h3 hrs
 ·exact h3
theorem zlh {l:List QQ}(hne:∀i (h:i+1<l.length),l[i]≠l[i+1])(hc:∀i (h:i+2<l.length),cz l[i] l[i+1] l[i+2]=0):zcw l:=by
 rcases zt9 l.length 2 with h2|h2
 ·intro x hx y hy z hz
  obtain⟨i,hi,rfl⟩:=List.mem_iff_getElem.1 hx
  obtain⟨j,hj,rfl⟩:=List.mem_iff_getElem.1 hy
  obtain rfl:i=j:=by omega
  exact ziP _ _
 ·have key:∀i (h:i<l.length),cz (l[0]'(by omega)) (l[1]'(by omega)) l[i]=0:=by
   intro i
   induction i using Nat.strongRecOn with
   |_ i ih=>
    intro h
    match i,ih,h with
    |0,_,_=>exact zpC _ _
    |1,_,_=>exact zpD _ _
    |k+2,ih,h=>exact zq9 (hne 0 (by omega)) (ih k (by omega) (by omega)) (ih (k+1) (by omega) (by omega)) (hne k (by omega)) (hc k h)
  have hne0:=hne 0 (by omega)
  have hn: ¬((l[0]'(by omega)).1=(l[1]'(by omega)).1∧(l[0]'(by omega)).2=(l[1]'(by omega)).2):=fun h=>hne0 (Prod.ext h.1 h.2)
  refine zeC (a:=(l[0]'(by omega)).1) (a':=(l[0]'(by omega)).2) (d:=(l[1]'(by omega)).1 - (l[0]'(by omega)).1) (d':=(l[1]'(by omega)).2 - (l[0]'(by omega)).2) fun x hx=>?_
  obtain⟨i,hi,rfl⟩:=List.mem_iff_getElem.1 hx
  obtain⟨t,h1,h2⟩:=ziO (key i hi) hn
  exact⟨t,Prod.ext h1 h2⟩
theorem zns {l r:List QQ}(h:∀x,x∈l↔x∈r):zcw l↔zcw r:=
 ⟨fun hl x hx y hy z hz=>hl x ((h x).2 hx) y ((h y).2 hy) z ((h z).2 hz),fun hl x hx y hy z hz=>hl x ((h x).1 hx) y ((h y).1 hy) z ((h z).1 hz)⟩
section
variable {n m:Int}
theorem zsD (h:decide (n<m)=true): -1=zbM n m:=by unfold zbM;rw[if_pos (of_decide_eq_true h)]
theorem zsE (h:decide (n<m)=false)(h':decide (m<n)=true):1=zbM n m:=by unfold zbM;rw[if_neg (of_decide_eq_false h),if_pos (of_decide_eq_true h')]
theorem zsF (h:decide (n<m)=false)(h':decide (m<n)=false):0=zbM n m:=by unfold zbM;rw[if_neg (of_decide_eq_false h),if_neg (of_decide_eq_false h')]
theorem zpE {x y:Int}(h: -1≤x∧x≤1)(h': -1≤y∧y≤1):Inr (x*y):=by
 have h1:x= -1∨x=0∨x=1:=by omega
 have h2:y= -1∨y=0∨y=1:=by omega
 unfold Inr
 rcases h1 with rfl|rfl|rfl <;> rcases h2 with rfl|rfl|rfl <;> decide
theorem zdR (a b c d:Rat):Inr (zan a b*zan c d):=zpE (zdb _ _) (zdb _ _)
theorem zsG (a b c d e f g h:Rat):Inr (zcI a b c d*zcI e f g h):=zpE (zg1 _ _ _ _) (zg1 _ _ _ _)
variable {q1 q1' q2 q2' q3 q3':Rat}
theorem zdS {q:Rat}:decide (zan q 0=0)=decide (q=0):=decide_eq_decide.2 zcL
theorem ztz (h:decide (zan (crs q1 q1' q2 q2' q3 q3') 0=0)=true):decide (0≤inRow q1 q1' q3 q3' q2 q2')=onR q1 q1' q2 q2' q3 q3':=by rw[zdS]at h;unfold onR;rw[h];rfl
theorem ztA (h:decide (zan (crs q1 q1' q2 q2' q3 q3') 0=0)=false):false=onR q1 q1' q2 q2' q3 q3':=by rw[zdS]at h;unfold onR;rw[h];rfl
theorem znt (h:decide (zan (crs q1 q1' q2 q2' q3 q3') 0=0)=true):decide (0<inRow q1 q1' q3 q3' q2 q2')=zdQ q1 q1' q2 q2' q3 q3':=by rw[zdS]at h;unfold zdQ;rw[h];rfl
theorem znu (h:decide (zan (crs q1 q1' q2 q2' q3 q3') 0=0)=false):false=zdQ q1 q1' q2 q2' q3 q3':=by rw[zdS]at h;unfold zdQ;rw[h];rfl
theorem zj3 (h:decide (zan (crs q1 q1' q2 q2' q3 q3') 0=0)=true):decide (0<inRow q1 q1' q2 q2' q3 q3')=zc3 q1 q1' q2 q2' q3 q3':=by rw[zdS]at h;unfold zc3;rw[h];rfl
theorem zj4 (h:decide (zan (crs q1 q1' q2 q2' q3 q3') 0=0)=false):false=zc3 q1 q1' q2 q2' q3 q3':=by rw[zdS]at h;unfold zc3;rw[h];rfl
end
section
variable {a:Act}{V:World}{o:Oper}{t1:Tmp}{g:Nat}
theorem zrL {f:FuncId}{args:Array Value}{b c:Bool}(h:Calls Tryz.prog f args V (zal V fun v _=>v= .bool b))(e:b=c):Calls Tryz.prog f args V (zal V fun v _=>v= .bool c):=by rw[←e];exact h
theorem za9 {U:TypeId}{off:Nat}{cs:List Value}{b b':Bool}{x y x' y':Num}(ho:o.op= .load 29 (.tmp t1)) (h:a.tmps.getD t1 undef= .pointer (some ⟨g,off,none⟩)) (hb:V.heap[g]?=some (.cells cs.toArray U (0,0))) (hv:(cs.drop off).take 6=[.bool b,.slice x.A x.n x.c,.slice y.A y.n y.c,.bool b',.slice x'.A x'.n x'.c,.slice y'.A y'.n y'.c]):
  (execOp a.eval o).run Tryz.prog V= .ok (.value (.agg #[.bool b,.slice x.A x.n x.c,.slice y.A y.n y.c,.bool b',.slice x'.A x'.n x'.c,.slice y'.A y'.n y'.c])) V:=
 zaj ho h hb Tryz.underlying29 rfl (vs:=[.bool b,.slice x.A x.n x.c,.slice y.A y.n y.c,.bool b',.slice x'.A x'.n x'.c,.slice y'.A y'.n y'.c]) zaZ hv
theorem zl4 {U:TypeId}{off:Nat}{cs:List Value}{b:Bool}{x y:Num}(ho:o.op= .load 27 (.tmp t1)) (h:a.tmps.getD t1 undef= .pointer (some ⟨g,off,none⟩)) (hb:V.heap[g]?=some (.cells cs.toArray U (0,0))) (hv:(cs.drop off).take 3=[.bool b,.slice x.A x.n x.c,.slice y.A y.n y.c]):
  (execOp a.eval o).run Tryz.prog V= .ok (.value (.agg #[.bool b,.slice x.A x.n x.c,.slice y.A y.n y.c])) V:=
 zaj ho h hb Tryz.underlying27 rfl (vs:=[.bool b,.slice x.A x.n x.c,.slice y.A y.n y.c]) zar hv
theorem zpF (ho:o.op= .indexAddr 62 (.tmp t1) (.const (.int .i64 0))) (h1:a.tmps.getD t1 undef= .pointer (some ⟨g,0,none⟩)):(execOp a.eval o).run Tryz.prog V= .ok (.value (.pointer (some ⟨g,0,none⟩))) V:=by
 rw[zae]at h1
 obtain⟨dst,op,ty,pos,after,guard⟩:=o
 simp only at ho
 subst ho
 go_simp
theorem zpG (ho:o.op= .indexAddr 62 (.tmp t1) (.const (.int .i64 1))) (h1:a.tmps.getD t1 undef= .pointer (some ⟨g,0,none⟩)):(execOp a.eval o).run Tryz.prog V= .ok (.value (.pointer (some ⟨g,6,none⟩))) V:=by
 rw[zae]at h1
 obtain⟨dst,op,ty,pos,after,guard⟩:=o
 simp only at ho
 subst ho
 go_simp
theorem zpH (ho:o.op= .indexAddr 62 (.tmp t1) (.const (.int .i64 2))) (h1:a.tmps.getD t1 undef= .pointer (some ⟨g,0,none⟩)):(execOp a.eval o).run Tryz.prog V= .ok (.value (.pointer (some ⟨g,12,none⟩))) V:=by
 rw[zae]at h1
 obtain⟨dst,op,ty,pos,after,guard⟩:=o
 simp only at ho
 subst ho
 go_simp
end
theorem zhN {n:Int}{V:World}:
  Calls Tryz.prog 61 #[.int .i64 n] V (zal V (fun v _=>v= .bool false)):=by
 refine zav (e:=[]) Tryz.func61 rfl Tryz.ntmps61 (zt2 rfl) [(0,.int .i64 n)] rfl zaN (fun a S=>?_)
 refine wp_seq_k fun K1 hK1=>?_
 refine zab ?_
 refine tv S (zaq rfl) fun a S=>?_
 refine hK1 _ _ ?_
 refine wp_seq_k fun K2 hK2=>?_
 refine zab ?_
 refine tv S (zac rfl (S.at 1 rfl)) fun a S=>?_
 refine tv S (zac rfl (S.at 2 rfl)) fun a S=>?_
 refine tv S (za5 (ziD _ (by decide) rfl (S.at 1 rfl) (S.at 0 rfl)) (show(!decide (n=n))=false from(by simp))) fun a S=>?_
 refine zaS S (v:= .bool false) (zag rfl (S.at 0 rfl)) rfl rfl (by decide) (ls':=[(5,.bool false),(4,.int .i64 n),(3,.int .i64 n),(0,.int .i64 n)]) rfl (fun a S=>?_)
 refine hK2 _ _ ?_
 refine wp_ret ?_
 exact zaE rfl S (S.at 0 rfl) ⟨_,rfl,rfl,S.below⟩
theorem zpI {n m:Int}{V:World}:
  Calls Tryz.prog 36 #[.int .i64 n,.int .i64 m] V (zal V (fun v _=>v= .int .i64 (zbM n m))):=by
 refine zav (e:=[]) Tryz.func36 rfl Tryz.ntmps36 (zt2 rfl) [(0,.int .i64 n),(1,.int .i64 m)] rfl zaN (fun a S=>?_)
 refine wp_seq_k fun K1 hK1=>?_
 refine zab ?_
 refine tv S (zaq rfl) fun a S=>?_
 refine hK1 _ _ ?_
 refine wp_seq_k fun K2 hK2=>?_
 refine zab ?_
 refine tv S (zac rfl (S.at 1 rfl)) fun a S=>?_
 refine tc S (F:=(fun v _=>v= .bool false)) (rc1 Tryz.func61 (S.at 0 rfl)) (zhN (n:=n)) fun v a V1 hF hb S=>?_
 subst hF
 refine tv S (zag rfl (S.at 0 rfl)) fun a S=>?_
 refine hK2 _ _ ?_
 refine wp_seq_k fun K3 hK3=>?_
 refine zab ?_
 refine tv S (zac rfl (S.at 5 rfl)) fun a S=>?_
 refine tc S (F:=(fun v _=>v= .bool false)) (rc1 Tryz.func61 (S.at 0 rfl)) (zhN (n:=m)) fun v a V2 hF hb S=>?_
 subst hF
 refine tv S (zag rfl (S.at 0 rfl)) fun a S=>?_
 refine hK3 _ _ ?_
 refine wp_seq_k fun K4 hK4=>?_
 refine wp_seq_k fun K5 hK5=>?_
 refine zab ?_
 refine tv S (zac rfl (S.at 3 rfl)) fun a S=>?_
 refine hK5 _ _ ?_
 refine wp_cond_false (S.at 0 rfl) ?_
 refine wp_skip ?_
 refine hK4 _ _ ?_
 refine wp_seq_k fun K6 hK6=>?_
 refine wp_seq_k fun K7 hK7=>?_
 refine zab ?_
 refine tv S (zac rfl (S.at 1 rfl)) fun a S=>?_
 refine hK7 _ _ ?_
 refine wp_cond_false (S.at 0 rfl) ?_
 refine wp_skip ?_
 refine hK6 _ _ ?_
 refine wp_seq_k fun K8 hK8=>?_
 refine wp_seq_k fun K9 hK9=>?_
 refine zab ?_
 refine tv S (zac rfl (S.at 9 rfl)) fun a S=>?_
 refine tv S (zac rfl (S.at 11 rfl)) fun a S=>?_
 refine tv S (zcG rfl (S.at 1 rfl) (S.at 0 rfl)) fun a S=>?_
 refine hK9 _ _ ?_
 rcases zuc (decide (n<m))with hc16|hc16
 ·refine wp_cond_true ((S.at 0 rfl).trans (congrArg Value.bool hc16)) ?_
  refine wp_seq_k fun K10 hK10=>?_
  have S:=S.keep [4] (ls':=[(4,.int .i64 0)]) rfl
  refine zab ?_
  refine zaS S (v:= .int .i64 (-1)) (zaq rfl) rfl rfl (by decide) (ls':=[]) rfl (fun a S=>?_)
  refine hK10 _ _ ?_
  refine wp_ret ?_
  exact zaE rfl S (S.at 0 rfl) ⟨_,rfl,congrArg (Value.int .i64) (zsD hc16),S.below⟩
 ·refine wp_cond_false ((S.at 0 rfl).trans (congrArg Value.bool hc16)) ?_
  refine wp_skip ?_
  refine hK8 _ _ ?_
  refine wp_seq_k fun K11 hK11=>?_
  refine wp_seq_k fun K12 hK12=>?_
  have S:=S.keep [0,1] (ls':=[(0,.int .i64 n),(1,.int .i64 m)]) rfl
  refine zab ?_
  refine tv S (zac rfl (S.at 0 rfl)) fun a S=>?_
  refine tv S (zac rfl (S.at 2 rfl)) fun a S=>?_
  refine tv S (zbS rfl (S.at 1 rfl) (S.at 0 rfl)) fun a S=>?_
  refine hK12 _ _ ?_
  rcases zuc (decide (m<n))with hc19|hc19
  ·refine wp_cond_true ((S.at 0 rfl).trans (congrArg Value.bool hc19)) ?_
   refine wp_seq_k fun K13 hK13=>?_
   refine zab ?_
   refine tv S (zaq rfl) fun a S=>?_
   refine hK13 _ _ ?_
   refine wp_ret ?_
   exact zaE rfl S (S.at 0 rfl) ⟨_,rfl,congrArg (Value.int .i64) (zsE hc16 hc19),S.below⟩
  ·refine wp_cond_false ((S.at 0 rfl).trans (congrArg Value.bool hc19)) ?_
   refine wp_skip ?_
   refine hK11 _ _ ?_
   refine wp_seq_k fun K14 hK14=>?_
   refine zab ?_
   refine tv S (zaq rfl) fun a S=>?_
   refine hK14 _ _ ?_
   refine wp_ret ?_
   exact zaE rfl S (S.at 0 rfl) ⟨_,rfl,congrArg (Value.int .i64) (zsF hc16 hc19),S.below⟩
theorem zl5 {K K':Nat}{q1 q1' q2 q2':Rat}{v1 v2:Value}{V:World}(T:TT V)(h1:P1 K (q1) (q1') v1 V)(h2:P1 K' (q2) (q2') v2 V)(hK0:K≤400)(hK1:K'≤400):
  Calls Tryz.prog 35 #[v1,v2] V (zal V (fun v _=>v= .tuple #[.int .i64 (zan q2 q1),.int .i64 (zan q2' q1')])):=by
 obtain⟨b1,x1,y1,b2,x2,y2,rfl,hq1,hq2,⟨hk1,hk2⟩,⟨hk3,hk4⟩,⟨ok1,ok2⟩,ok3,ok4⟩:=h1
 obtain⟨b3,x3,y3,b4,x4,y4,rfl,hq3,hq4,⟨hk5,hk6⟩,⟨hk7,hk8⟩,⟨ok5,ok6⟩,ok7,ok8⟩:=h2
 have hp0:=fun {V':World} (o1:x1.ok V' V'.heap.size) (o2:y1.ok V' V'.heap.size) (o3:x2.ok V' V'.heap.size) (o4:y2.ok V' V'.heap.size)=>(show P1 K q1 (q1') ((aP b1 x1 y1 b2 x2 y2)) V' from⟨b1,x1,y1,b2,x2,y2,rfl,hq1,hq2,⟨hk1,hk2⟩,⟨hk3,hk4⟩,⟨o1,o2⟩,o3,o4⟩)
 have hp1:=fun {V':World} (o1:x3.ok V' V'.heap.size) (o2:y3.ok V' V'.heap.size) (o3:x4.ok V' V'.heap.size) (o4:y4.ok V' V'.heap.size)=>(show P1 K' q2 (q2') ((aP b3 x3 y3 b4 x4 y4)) V' from⟨b3,x3,y3,b4,x4,y4,rfl,hq3,hq4,⟨hk5,hk6⟩,⟨hk7,hk8⟩,⟨o1,o2⟩,o3,o4⟩)
 refine zav (e:=[x3,y3,x4,y4,x1,y1,x2,y2]) Tryz.func35 rfl Tryz.ntmps35 (zt2 rfl) [(0,(aP b1 x1 y1 b2 x2 y2)),(1,(aP b3 x3 y3 b4 x4 y4))] rfl (zaa ok5 (zaa ok6 (zaa ok7 (zaa ok8 (zaa ok1 (zaa ok2 (zaa ok3 (zaa ok4 zaN)))))))) (fun a S=>?_)
 refine wp_seq_k fun K1 hK1=>?_
 refine zab ?_
 refine ti S (cs:=(lP b1 x1 y1 b2 x2 y2)) (zaw rfl (S.at 0 rfl) rfl) (fun g1=>[⟨g1,29,(lP b1 x1 y1 b2 x2 y2)⟩]) fun g1 a V1 hgg1 S=>?_
 refine ti S (cs:=(lP b3 x3 y3 b4 x4 y4)) (zaw rfl (S.at 2 rfl) rfl) (fun g2=>[⟨g1,29,(lP b1 x1 y1 b2 x2 y2)⟩,⟨g2,29,(lP b3 x3 y3 b4 x4 y4)⟩]) fun g2 a V2 hgg2 S=>?_
 refine tv S (zaq rfl) fun a S=>?_
 refine tv S (zaq rfl) fun a S=>?_
 refine hK1 _ _ ?_
 refine wp_seq_k fun K2 hK2=>?_
 have S:=S.keep [5,4,3,2] (ls':=[(5,.int .i64 0),(4,.int .i64 0),(3,pT g2 0),(2,pT g1 0)]) rfl
 obtain⟨W1,hW1⟩:∃W,W=V2:=⟨_,rfl⟩
 rw[←hW1]at S ⊢
 have S0:=S
 refine fr 10 [6,7,8,9,10,11,12,13,14,15] [IsV (pT g2 0),IsV ((aG b3 x3 y3)),IsV (pT g1 0),IsV ((aG b1 x1 y1)),IsV (.int .i64 (zan q2 q1)),IsV (pT g2 3),IsV ((aG b4 x4 y4)),IsV (pT g1 3),IsV ((aG b2 x2 y2)),IsV (.int .i64 (zan (q2') (q1')))] S ?_ ?_
 ·refine sc (fun _ _ S _ _=>sv rfl (zaf rfl (S.at 2 rfl) (zbf _))) ?_
  refine sc (fun _ _ S _ hd=>sv rfl (zl4 rfl (hd.v 0 rfl rfl) (S.bx 1 rfl) rfl)) ?_
  refine sc (fun _ _ S _ _=>sv rfl (zaf rfl (S.at 3 rfl) (zbf _))) ?_
  refine sc (fun _ _ S _ hd=>sv rfl (zl4 rfl (hd.v 2 rfl rfl) (S.bx 0 rfl) rfl)) ?_
  refine sc (fun _ _ S _ hd=>sl rfl (rc2 Tryz.func49 (hd.v 1 rfl rfl) (hd.v 3 rfl rfl)) (zjA (T.keep S.below) (show Q1 K' (q2) ((aG b3 x3 y3)) _ from⟨b3,x3,y3,rfl,hq3,hk5,hk6,(S.num 0 rfl),(S.num 1 rfl)⟩) (show Q1 K (q1) ((aG b1 x1 y1)) _ from⟨b1,x1,y1,rfl,hq1,hk1,hk2,(S.num 4 rfl),(S.num 5 rfl)⟩) (by omega) (by omega))) ?_
  refine sc (fun _ _ S _ _=>sv rfl (zaf rfl (S.at 2 rfl) (zbm _))) ?_
  refine sc (fun _ _ S _ hd=>sv rfl (zl4 rfl (hd.v 5 rfl rfl) (S.bx 1 rfl) rfl)) ?_
  refine sc (fun _ _ S _ _=>sv rfl (zaf rfl (S.at 3 rfl) (zbm _))) ?_
  refine sc (fun _ _ S _ hd=>sv rfl (zl4 rfl (hd.v 7 rfl rfl) (S.bx 0 rfl) rfl)) ?_
  refine sc (fun _ _ S _ hd=>sl rfl (rc2 Tryz.func49 (hd.v 6 rfl rfl) (hd.v 8 rfl rfl)) (zjA (T.keep S.below) (show Q1 K' (q2') ((aG b4 x4 y4)) _ from⟨b4,x4,y4,rfl,hq4,hk7,hk8,(S.num 2 rfl),(S.num 3 rfl)⟩) (show Q1 K (q1') ((aG b2 x2 y2)) _ from⟨b2,x2,y2,rfl,hq2,hk3,hk4,(S.num 6 rfl),(S.num 7 rfl)⟩) (by omega) (by omega))) ?_
  exact sn
 ·intro a1 V3 S hB hf
  have S:=S.add (hf.v 4 rfl rfl)
  have S:=S.add (hf.v 9 rfl rfl)
  clear hf S0
  show wpList _ _ _ [_,_] _ _
  refine zaS S (v:= .int .i64 (zan q2 q1)) (zag rfl (S.at 1 rfl)) rfl rfl (by decide) (ls':=[(15,.int .i64 (zan (q2') (q1'))),(10,.int .i64 (zan q2 q1)),(5,.int .i64 0),(3,pT g2 0),(2,pT g1 0)]) rfl (fun a S=>?_)
  refine zaS S (v:= .int .i64 (zan (q2') (q1'))) (zag rfl (S.at 1 rfl)) rfl rfl (by decide) (ls':=[(4,.int .i64 (zan q2 q1)),(15,.int .i64 (zan (q2') (q1'))),(10,.int .i64 (zan q2 q1)),(3,pT g2 0),(2,pT g1 0)]) rfl (fun a S=>?_)
  refine hK2 _ _ ?_
  refine wp_ret ?_
  exact zna rfl S (S.at 1 rfl) (S.at 0 rfl) ⟨_,rfl,rfl,S.below⟩
theorem zdu {Ka Kb Kc:Nat}{q1 q1' q2 q2' q3 q3':Rat}{v1 v2 v3:Value}{V:World}(T:TT V)(h1:P1 Ka (q1) (q1') v1 V)(h2:P1 Kb (q2) (q2') v2 V)(h3:P1 Kc (q3) (q3') v3 V)(hK1:Ka≤400)(hK2:Kb≤400)(hK3:Kc≤400)(hs0:Sm 250 (q2 - q1))(hs1:Sm 250 (q2' - q1'))(hs2:Sm 250 (q3 - q1))(hs3:Sm 250 (q3' - q1')):
  Calls Tryz.prog 10 #[v1,v2,v3] V (zal V (fun v _=>v= .int .i64 (zan (crs q1 q1' q2 q2' q3 q3') 0))):=by
 obtain⟨b1,x1,y1,b2,x2,y2,rfl,hq1,hq2,⟨hk1,hk2⟩,⟨hk3,hk4⟩,⟨ok1,ok2⟩,ok3,ok4⟩:=h1
 obtain⟨b3,x3,y3,b4,x4,y4,rfl,hq3,hq4,⟨hk5,hk6⟩,⟨hk7,hk8⟩,⟨ok5,ok6⟩,ok7,ok8⟩:=h2
 obtain⟨b5,x5,y5,b6,x6,y6,rfl,hq5,hq6,⟨hk9,hk10⟩,⟨hk11,hk12⟩,⟨ok9,ok10⟩,ok11,ok12⟩:=h3
 have hp0:=fun {V':World} (o1:x1.ok V' V'.heap.size) (o2:y1.ok V' V'.heap.size) (o3:x2.ok V' V'.heap.size) (o4:y2.ok V' V'.heap.size)=>(show P1 Ka q1 (q1') ((aP b1 x1 y1 b2 x2 y2)) V' from⟨b1,x1,y1,b2,x2,y2,rfl,hq1,hq2,⟨hk1,hk2⟩,⟨hk3,hk4⟩,⟨o1,o2⟩,o3,o4⟩)
 have hp1:=fun {V':World} (o1:x3.ok V' V'.heap.size) (o2:y3.ok V' V'.heap.size) (o3:x4.ok V' V'.heap.size) (o4:y4.ok V' V'.heap.size)=>(show P1 Kb q2 (q2') ((aP b3 x3 y3 b4 x4 y4)) V' from⟨b3,x3,y3,b4,x4,y4,rfl,hq3,hq4,⟨hk5,hk6⟩,⟨hk7,hk8⟩,⟨o1,o2⟩,o3,o4⟩)
 have hp2:=fun {V':World} (o1:x5.ok V' V'.heap.size) (o2:y5.ok V' V'.heap.size) (o3:x6.ok V' V'.heap.size) (o4:y6.ok V' V'.heap.size)=>(show P1 Kc q3 (q3') ((aP b5 x5 y5 b6 x6 y6)) V' from⟨b5,x5,y5,b6,x6,y6,rfl,hq5,hq6,⟨hk9,hk10⟩,⟨hk11,hk12⟩,⟨o1,o2⟩,o3,o4⟩)
 refine zav (e:=[x5,y5,x6,y6,x3,y3,x4,y4,x1,y1,x2,y2]) Tryz.func10 rfl Tryz.ntmps10 (zt2 rfl) [(0,(aP b1 x1 y1 b2 x2 y2)),(1,(aP b3 x3 y3 b4 x4 y4)),(2,(aP b5 x5 y5 b6 x6 y6))] rfl (zaa ok9 (zaa ok10 (zaa ok11 (zaa ok12 (zaa ok5 (zaa ok6 (zaa ok7 (zaa ok8 (zaa ok1 (zaa ok2 (zaa ok3 (zaa ok4 zaN)))))))))))) (fun a S=>?_)
 refine wp_seq_k fun K1 hK1=>?_
 refine zab ?_
 refine ti S (cs:=(lP b1 x1 y1 b2 x2 y2)) (zaw rfl (S.at 0 rfl) rfl) (fun g1=>[⟨g1,29,(lP b1 x1 y1 b2 x2 y2)⟩]) fun g1 a V1 hgg1 S=>?_
 refine ti S (cs:=(lP b3 x3 y3 b4 x4 y4)) (zaw rfl (S.at 2 rfl) rfl) (fun g2=>[⟨g1,29,(lP b1 x1 y1 b2 x2 y2)⟩,⟨g2,29,(lP b3 x3 y3 b4 x4 y4)⟩]) fun g2 a V2 hgg2 S=>?_
 refine ti S (cs:=(lP b5 x5 y5 b6 x6 y6)) (zaw rfl (S.at 4 rfl) rfl) (fun g3=>[⟨g1,29,(lP b1 x1 y1 b2 x2 y2)⟩,⟨g2,29,(lP b3 x3 y3 b4 x4 y4)⟩,⟨g3,29,(lP b5 x5 y5 b6 x6 y6)⟩]) fun g3 a V3 hgg3 S=>?_
 refine tv S (zaq rfl) fun a S=>?_
 refine hK1 _ _ ?_
 refine wp_seq_k fun K2 hK2=>?_
 refine zab ?_
 refine tv S (za9 rfl (S.at 3 rfl) (S.bx 0 rfl) rfl) fun a S=>?_
 refine tv S (za9 rfl (S.at 3 rfl) (S.bx 1 rfl) rfl) fun a S=>?_
 refine tc S (F:=(fun v _=>v= .tuple #[.int .i64 (zan q2 q1),.int .i64 (zan (q2') (q1'))])) (rc2 Tryz.func35 (S.at 1 rfl) (S.at 0 rfl)) (zl5 (T.keep S.below) (hp0 (S.num 8 rfl) (S.num 9 rfl) (S.num 10 rfl) (S.num 11 rfl)) (hp1 (S.num 4 rfl) (S.num 5 rfl) (S.num 6 rfl) (S.num 7 rfl)) (by omega) (by omega)) fun v a V4 hF hb S=>?_
 subst hF
 refine tv S (zac rfl (S.at 0 rfl)) fun a S=>?_
 refine tv S (zbd rfl (S.at 0 rfl) rfl) fun a S=>?_
 refine tv S (zbd rfl (S.at 1 rfl) rfl) fun a S=>?_
 refine tv S (zag rfl (S.at 1 rfl)) fun a S=>?_
 refine tv S (zag rfl (S.at 1 rfl)) fun a S=>?_
 refine hK2 _ _ ?_
 refine wp_seq_k fun K3 hK3=>?_
 refine zab ?_
 refine tv S (za9 rfl (S.at 11 rfl) (S.bx 0 rfl) rfl) fun a S=>?_
 refine tv S (za9 rfl (S.at 10 rfl) (S.bx 2 rfl) rfl) fun a S=>?_
 refine tc S (F:=(fun v _=>v= .tuple #[.int .i64 (zan q3 q1),.int .i64 (zan (q3') (q1'))])) (rc2 Tryz.func35 (S.at 1 rfl) (S.at 0 rfl)) (zl5 (T.keep S.below) (hp0 (S.num 8 rfl) (S.num 9 rfl) (S.num 10 rfl) (S.num 11 rfl)) (hp2 (S.num 0 rfl) (S.num 1 rfl) (S.num 2 rfl) (S.num 3 rfl)) (by omega) (by omega)) fun v a V5 hF hb S=>?_
 subst hF
 refine tv S (zac rfl (S.at 0 rfl)) fun a S=>?_
 refine tv S (zbd rfl (S.at 0 rfl) rfl) fun a S=>?_
 refine tv S (zbd rfl (S.at 1 rfl) rfl) fun a S=>?_
 refine tv S (zag rfl (S.at 1 rfl)) fun a S=>?_
 refine tv S (zag rfl (S.at 1 rfl)) fun a S=>?_
 refine hK3 _ _ ?_
 refine wp_seq_k fun K4 hK4=>?_
 refine wp_seq_k fun K5 hK5=>?_
 rcases zuc (decide (zan q2 q1*zan q3' q1'=zan q2' q1'*zan q3 q1))with hs1_|hs1_
 ·skip
  have S:=S.keep [10,9,8,7,5,4,3] (ls':=[(10,.int .i64 (zan (q3') (q1'))),(9,.int .i64 (zan q3 q1)),(8,.int .i64 (zan (q2') (q1'))),(7,.int .i64 (zan q2 q1)),(5,pT g3 0),(4,pT g2 0),(3,pT g1 0)]) rfl
  refine zab ?_
  refine tv S (zac rfl (S.at 3 rfl)) fun a S=>?_
  refine tv S (zac rfl (S.at 1 rfl)) fun a S=>?_
  refine tv S (zds rfl (S.at 1 rfl) (S.at 0 rfl) (zdR _ _ _ _)) fun a S=>?_
  refine tv S (zac rfl (S.at 5 rfl)) fun a S=>?_
  refine tv S (zac rfl (S.at 5 rfl)) fun a S=>?_
  refine tv S (zds rfl (S.at 1 rfl) (S.at 0 rfl) (zdR _ _ _ _)) fun a S=>?_
  refine tv S (za5 (ziD _ (by decide) rfl (S.at 3 rfl) (S.at 0 rfl)) (show(!decide ((zan q2 q1)*(zan (q3') (q1'))=(zan (q2') (q1'))*(zan q3 q1)))=false from(by rw[hs1_];rfl))) fun a S=>?_
  refine tv S (zac rfl (S.at 0 rfl)) fun a S=>?_
  refine tvg S (S.at 0 rfl) (zac rfl (S.at 11 rfl)) fun a S=>?_
  refine tvg S (S.at 1 rfl) (zac rfl (S.at 9 rfl)) fun a S=>?_
  refine tvg S (S.at 2 rfl) (zds rfl (S.at 1 rfl) (S.at 0 rfl) (zdR _ _ _ _)) fun a S=>?_
  refine tvg S (S.at 3 rfl) (zbT _ (by decide) rfl (S.at 0 rfl) rfl) fun a S=>?_
  refine tv S (zaP false rfl (S.at 4 rfl) (S.at 0 rfl)) fun a S=>?_
  refine hK5 _ _ ?_
  rcases zuc (decide ((zan q2 q1)*(zan (q3') (q1'))=0))with hc35|hc35
  ·refine wp_cond_true ((S.at 0 rfl).trans (congrArg Value.bool hc35)) ?_
   refine wp_seq_k fun K6 hK6=>?_
   have S:=S.keep [10,9,8,7] (ls':=[(10,.int .i64 (zan (q3') (q1'))),(9,.int .i64 (zan q3 q1)),(8,.int .i64 (zan (q2') (q1'))),(7,.int .i64 (zan q2 q1))]) rfl
   refine zab ?_
   refine tv S (zac rfl (S.at 3 rfl)) fun a S=>?_
   refine tv S (zac rfl (S.at 1 rfl)) fun a S=>?_
   refine tv S (zds rfl (S.at 1 rfl) (S.at 0 rfl) (zdR _ _ _ _)) fun a S=>?_
   refine tv S (zac rfl (S.at 5 rfl)) fun a S=>?_
   refine tv S (zac rfl (S.at 5 rfl)) fun a S=>?_
   refine tv S (zds rfl (S.at 1 rfl) (S.at 0 rfl) (zdR _ _ _ _)) fun a S=>?_
   refine tc S (F:=(fun v _=>v= .int .i64 (zbM ((zan q2 q1)*(zan (q3') (q1'))) ((zan (q2') (q1'))*(zan q3 q1))))) (rc2 Tryz.func36 (S.at 3 rfl) (S.at 0 rfl)) (zpI (n:=(zan q2 q1)*(zan (q3') (q1'))) (m:=(zan (q2') (q1'))*(zan q3 q1))) fun v a V6 hF hb S=>?_
   subst hF
   refine tv S (zag rfl (S.at 0 rfl)) fun a S=>?_
   refine hK6 _ _ ?_
   refine wp_ret ?_
   exact zaE rfl S (S.at 0 rfl) ⟨_,rfl,congrArg (Value.int .i64) (zhM (.inr (of_decide_eq_true hc35))),S.below⟩
  ·refine wp_cond_false ((S.at 0 rfl).trans (congrArg Value.bool hc35)) ?_
   refine wp_skip ?_
   refine hK4 _ _ ?_
   refine wp_seq_k fun K7 hK7=>?_
   have S:=S.keep [5,4,3] (ls':=[(5,pT g3 0),(4,pT g2 0),(3,pT g1 0)]) rfl
   obtain⟨W1,hW1⟩:∃W,W=V5:=⟨_,rfl⟩
   rw[←hW1]at S ⊢
   have S0:=S
   refine fr 8 [43,44,45,46,47,48,49,50] [IsV ((aP b3 x3 y3 b4 x4 y4)),IsV ((aP b1 x1 y1 b2 x2 y2)),PT 250 (q2 - q1) ((q2') - (q1')),IsV ((aP b5 x5 y5 b6 x6 y6)),IsV ((aP b1 x1 y1 b2 x2 y2)),PT 250 (q3 - q1) ((q3') - (q1')),QT 1001 ((q2 - q1)*((q3') - (q1')) - ((q2') - (q1'))*(q3 - q1)),IsV (.int .i64 (zan ((q2 - q1)*((q3') - (q1')) - ((q2') - (q1'))*(q3 - q1)) 0))] S ?_ ?_
   ·refine sc (fun _ _ S _ _=>sv rfl (za9 rfl (S.at 1 rfl) (S.bx 1 rfl) rfl)) ?_
    refine sc (fun _ _ S _ _=>sv rfl (za9 rfl (S.at 2 rfl) (S.bx 0 rfl) rfl)) ?_
    refine sc (fun _ _ S _ hd=>sl rfl (rc2 Tryz.func39 (hd.v 0 rfl rfl) (hd.v 1 rfl rfl)) (zcV (ztJ (T.keep S.below) (hp1 (S.num 4 rfl) (S.num 5 rfl) (S.num 6 rfl) (S.num 7 rfl)) (hp0 (S.num 8 rfl) (S.num 9 rfl) (S.num 10 rfl) (S.num 11 rfl)) (by omega) (by omega)) (fun _ _ h=>h.sml (by assumption) (by assumption)))) ?_
    refine sc (fun _ _ S _ _=>sv rfl (za9 rfl (S.at 0 rfl) (S.bx 2 rfl) rfl)) ?_
    refine sc (fun _ _ S _ _=>sv rfl (za9 rfl (S.at 2 rfl) (S.bx 0 rfl) rfl)) ?_
    refine sc (fun _ _ S _ hd=>sl rfl (rc2 Tryz.func39 (hd.v 3 rfl rfl) (hd.v 4 rfl rfl)) (zcV (ztJ (T.keep S.below) (hp2 (S.num 0 rfl) (S.num 1 rfl) (S.num 2 rfl) (S.num 3 rfl)) (hp0 (S.num 8 rfl) (S.num 9 rfl) (S.num 10 rfl) (S.num 11 rfl)) (by omega) (by omega)) (fun _ _ h=>h.sml (by assumption) (by assumption)))) ?_
    refine sc (fun _ _ S _ hd=>sl rfl (rc2 Tryz.func38 rfl rfl) (zrp (T.keep S.below) ((hd.r 2 rfl rfl)).any ((hd.r 5 rfl rfl)).any (by omega) (by omega))) ?_
    refine sc (fun _ _ S _ hd=>sl rfl (rc1 Tryz.func37 rfl) (zr9 (T.keep S.below) ((hd.r 6 rfl rfl)).any (by omega))) ?_
    exact sn
   ·intro a1 V7 S hB hf
    have S:=S.add (hf.v 7 rfl rfl)
    clear hf S0
    show wpList _ _ _ [_] _ _
    refine tv S (zag rfl (S.at 0 rfl)) fun a S=>?_
    refine hK7 _ _ ?_
    refine wp_ret ?_
    exact zaE rfl S (S.at 0 rfl) ⟨_,rfl,rfl,S.below⟩
 ·skip
  have S:=S.keep [10,9,8,7,5,4,3] (ls':=[(10,.int .i64 (zan (q3') (q1'))),(9,.int .i64 (zan q3 q1)),(8,.int .i64 (zan (q2') (q1'))),(7,.int .i64 (zan q2 q1)),(5,pT g3 0),(4,pT g2 0),(3,pT g1 0)]) rfl
  refine zab ?_
  refine tv S (zac rfl (S.at 3 rfl)) fun a S=>?_
  refine tv S (zac rfl (S.at 1 rfl)) fun a S=>?_
  refine tv S (zds rfl (S.at 1 rfl) (S.at 0 rfl) (zdR _ _ _ _)) fun a S=>?_
  refine tv S (zac rfl (S.at 5 rfl)) fun a S=>?_
  refine tv S (zac rfl (S.at 5 rfl)) fun a S=>?_
  refine tv S (zds rfl (S.at 1 rfl) (S.at 0 rfl) (zdR _ _ _ _)) fun a S=>?_
  refine tv S (za5 (ziD _ (by decide) rfl (S.at 3 rfl) (S.at 0 rfl)) (show(!decide ((zan q2 q1)*(zan (q3') (q1'))=(zan (q2') (q1'))*(zan q3 q1)))=true from(by rw[hs1_];rfl))) fun a S=>?_
  refine tv S (zac rfl (S.at 0 rfl)) fun a S=>?_
  refine tk S (S.at 0 rfl) fun a S=>?_
  refine tk S (S.at 1 rfl) fun a S=>?_
  refine tk S (S.at 2 rfl) fun a S=>?_
  refine tk S (S.at 3 rfl) fun a S=>?_
  refine tv S (zaP true rfl (S.at 4 rfl) rfl) fun a S=>?_
  refine hK5 _ _ ?_
  refine wp_cond_true (S.at 0 rfl) ?_
  refine wp_seq_k fun K8 hK8=>?_
  have S:=S.keep [10,9,8,7] (ls':=[(10,.int .i64 (zan (q3') (q1'))),(9,.int .i64 (zan q3 q1)),(8,.int .i64 (zan (q2') (q1'))),(7,.int .i64 (zan q2 q1))]) rfl
  refine zab ?_
  refine tv S (zac rfl (S.at 3 rfl)) fun a S=>?_
  refine tv S (zac rfl (S.at 1 rfl)) fun a S=>?_
  refine tv S (zds rfl (S.at 1 rfl) (S.at 0 rfl) (zdR _ _ _ _)) fun a S=>?_
  refine tv S (zac rfl (S.at 5 rfl)) fun a S=>?_
  refine tv S (zac rfl (S.at 5 rfl)) fun a S=>?_
  refine tv S (zds rfl (S.at 1 rfl) (S.at 0 rfl) (zdR _ _ _ _)) fun a S=>?_
  refine tc S (F:=(fun v _=>v= .int .i64 (zbM ((zan q2 q1)*(zan (q3') (q1'))) ((zan (q2') (q1'))*(zan q3 q1))))) (rc2 Tryz.func36 (S.at 3 rfl) (S.at 0 rfl)) (zpI (n:=(zan q2 q1)*(zan (q3') (q1'))) (m:=(zan (q2') (q1'))*(zan q3 q1))) fun v a V8 hF hb S=>?_
  subst hF
  refine tv S (zag rfl (S.at 0 rfl)) fun a S=>?_
  refine hK8 _ _ ?_
  refine wp_ret ?_
  exact zaE rfl S (S.at 0 rfl) ⟨_,rfl,congrArg (Value.int .i64) (zhM (.inl (of_decide_eq_false hs1_))),S.below⟩
theorem ziQ {Ka Kb Kc:Nat}{q1 q1' q2 q2' q3 q3':Rat}{v1 v2 v3:Value}{V:World}(T:TT V)(h1:P1 Ka (q1) (q1') v1 V)(h2:P1 Kb (q2) (q2') v2 V)(h3:P1 Kc (q3) (q3') v3 V)(hK1:Ka≤400)(hK2:Kb≤400)(hK3:Kc≤400):
  Calls Tryz.prog 44 #[v1,v2,v3] V (zal V (fun v _=>v= .int .i64 (inRow q1 q1' q2 q2' q3 q3'))):=by
 obtain⟨b1,x1,y1,b2,x2,y2,rfl,hq1,hq2,⟨hk1,hk2⟩,⟨hk3,hk4⟩,⟨ok1,ok2⟩,ok3,ok4⟩:=h1
 obtain⟨b3,x3,y3,b4,x4,y4,rfl,hq3,hq4,⟨hk5,hk6⟩,⟨hk7,hk8⟩,⟨ok5,ok6⟩,ok7,ok8⟩:=h2
 obtain⟨b5,x5,y5,b6,x6,y6,rfl,hq5,hq6,⟨hk9,hk10⟩,⟨hk11,hk12⟩,⟨ok9,ok10⟩,ok11,ok12⟩:=h3
 have hp0:=fun {V':World} (o1:x1.ok V' V'.heap.size) (o2:y1.ok V' V'.heap.size) (o3:x2.ok V' V'.heap.size) (o4:y2.ok V' V'.heap.size)=>(show P1 Ka q1 (q1') ((aP b1 x1 y1 b2 x2 y2)) V' from⟨b1,x1,y1,b2,x2,y2,rfl,hq1,hq2,⟨hk1,hk2⟩,⟨hk3,hk4⟩,⟨o1,o2⟩,o3,o4⟩)
 have hp1:=fun {V':World} (o1:x3.ok V' V'.heap.size) (o2:y3.ok V' V'.heap.size) (o3:x4.ok V' V'.heap.size) (o4:y4.ok V' V'.heap.size)=>(show P1 Kb q2 (q2') ((aP b3 x3 y3 b4 x4 y4)) V' from⟨b3,x3,y3,b4,x4,y4,rfl,hq3,hq4,⟨hk5,hk6⟩,⟨hk7,hk8⟩,⟨o1,o2⟩,o3,o4⟩)
 have hp2:=fun {V':World} (o1:x5.ok V' V'.heap.size) (o2:y5.ok V' V'.heap.size) (o3:x6.ok V' V'.heap.size) (o4:y6.ok V' V'.heap.size)=>(show P1 Kc q3 (q3') ((aP b5 x5 y5 b6 x6 y6)) V' from⟨b5,x5,y5,b6,x6,y6,rfl,hq5,hq6,⟨hk9,hk10⟩,⟨hk11,hk12⟩,⟨o1,o2⟩,o3,o4⟩)
 refine zav (e:=[x5,y5,x6,y6,x3,y3,x4,y4,x1,y1,x2,y2]) Tryz.func44 rfl Tryz.ntmps44 (zt2 rfl) [(0,(aP b1 x1 y1 b2 x2 y2)),(1,(aP b3 x3 y3 b4 x4 y4)),(2,(aP b5 x5 y5 b6 x6 y6))] rfl (zaa ok9 (zaa ok10 (zaa ok11 (zaa ok12 (zaa ok5 (zaa ok6 (zaa ok7 (zaa ok8 (zaa ok1 (zaa ok2 (zaa ok3 (zaa ok4 zaN)))))))))))) (fun a S=>?_)
 refine wp_seq_k fun K1 hK1=>?_
 refine zab ?_
 refine ti S (cs:=(lP b1 x1 y1 b2 x2 y2)) (zaw rfl (S.at 0 rfl) rfl) (fun g1=>[⟨g1,29,(lP b1 x1 y1 b2 x2 y2)⟩]) fun g1 a V1 hgg1 S=>?_
 refine ti S (cs:=(lP b3 x3 y3 b4 x4 y4)) (zaw rfl (S.at 2 rfl) rfl) (fun g2=>[⟨g1,29,(lP b1 x1 y1 b2 x2 y2)⟩,⟨g2,29,(lP b3 x3 y3 b4 x4 y4)⟩]) fun g2 a V2 hgg2 S=>?_
 refine ti S (cs:=(lP b5 x5 y5 b6 x6 y6)) (zaw rfl (S.at 4 rfl) rfl) (fun g3=>[⟨g1,29,(lP b1 x1 y1 b2 x2 y2)⟩,⟨g2,29,(lP b3 x3 y3 b4 x4 y4)⟩,⟨g3,29,(lP b5 x5 y5 b6 x6 y6)⟩]) fun g3 a V3 hgg3 S=>?_
 refine tv S (zaq rfl) fun a S=>?_
 refine hK1 _ _ ?_
 refine wp_seq_k fun K2 hK2=>?_
 have S:=S.keep [6,5,4,3] (ls':=[(6,.int .i64 0),(5,pT g3 0),(4,pT g2 0),(3,pT g1 0)]) rfl
 obtain⟨W1,hW1⟩:∃W,W=V3:=⟨_,rfl⟩
 rw[←hW1]at S ⊢
 have S0:=S
 refine fr 7 [7,8,9,10,11,12,13] [IsV ((aP b1 x1 y1 b2 x2 y2)),IsV ((aP b3 x3 y3 b4 x4 y4)),IsV (.int .i64 (zcI q1 (q1') q2 (q2'))),IsV ((aP b3 x3 y3 b4 x4 y4)),IsV ((aP b5 x5 y5 b6 x6 y6)),IsV (.int .i64 (zcI q2 (q2') q3 (q3'))),IsV (.int .i64 ((zcI q1 (q1') q2 (q2'))*(zcI q2 (q2') q3 (q3'))))] S ?_ ?_
 ·refine sc (fun _ _ S _ _=>sv rfl (za9 rfl (S.at 3 rfl) (S.bx 0 rfl) rfl)) ?_
  refine sc (fun _ _ S _ _=>sv rfl (za9 rfl (S.at 2 rfl) (S.bx 1 rfl) rfl)) ?_
  refine sc (fun _ _ S _ hd=>sl rfl (rc2 Tryz.func71 (hd.v 0 rfl rfl) (hd.v 1 rfl rfl)) (ztK (T.keep S.below) (hp0 (S.num 8 rfl) (S.num 9 rfl) (S.num 10 rfl) (S.num 11 rfl)) (hp1 (S.num 4 rfl) (S.num 5 rfl) (S.num 6 rfl) (S.num 7 rfl)) (by omega) (by omega))) ?_
  refine sc (fun _ _ S _ _=>sv rfl (za9 rfl (S.at 2 rfl) (S.bx 1 rfl) rfl)) ?_
  refine sc (fun _ _ S _ _=>sv rfl (za9 rfl (S.at 1 rfl) (S.bx 2 rfl) rfl)) ?_
  refine sc (fun _ _ S _ hd=>sl rfl (rc2 Tryz.func71 (hd.v 3 rfl rfl) (hd.v 4 rfl rfl)) (ztK (T.keep S.below) (hp1 (S.num 4 rfl) (S.num 5 rfl) (S.num 6 rfl) (S.num 7 rfl)) (hp2 (S.num 0 rfl) (S.num 1 rfl) (S.num 2 rfl) (S.num 3 rfl)) (by omega) (by omega))) ?_
  refine sc (fun _ _ _ _ hd=>sv rfl (zds rfl (hd.v 2 rfl rfl) (hd.v 5 rfl rfl) (zsG _ _ _ _ _ _ _ _))) ?_
  exact sn
 ·intro a1 V4 S hB hf
  have S:=S.add (hf.v 6 rfl rfl)
  clear hf S0
  show wpList _ _ _ [_] _ _
  refine zaS S (v:= .int .i64 ((zcI q1 (q1') q2 (q2'))*(zcI q2 (q2') q3 (q3')))) (zag rfl (S.at 0 rfl)) rfl rfl (by decide) (ls':=[(13,.int .i64 ((zcI q1 (q1') q2 (q2'))*(zcI q2 (q2') q3 (q3')))),(5,pT g3 0),(4,pT g2 0),(3,pT g1 0)]) rfl (fun a S=>?_)
  refine hK2 _ _ ?_
  refine wp_ret ?_
  exact zaE rfl S (S.at 0 rfl) ⟨_,rfl,rfl,S.below⟩
theorem ztT {Ka Kb Kc:Nat}{q1 q1' q2 q2' q3 q3':Rat}{v1 v2 v3:Value}{V:World}(T:TT V)(h1:P1 Ka (q1) (q1') v1 V)(h2:P1 Kb (q2) (q2') v2 V)(h3:P1 Kc (q3) (q3') v3 V)(hK1:Ka≤400)(hK2:Kb≤400)(hK3:Kc≤400)(hs0:Sm 250 (q2 - q1))(hs1:Sm 250 (q2' - q1'))(hs2:Sm 250 (q3 - q1))(hs3:Sm 250 (q3' - q1')):
  Calls Tryz.prog 15 #[v1,v2,v3] V (zal V (fun v _=>v= .bool (onR q1 q1' q2 q2' q3 q3'))):=by
 obtain⟨b1,x1,y1,b2,x2,y2,rfl,hq1,hq2,⟨hk1,hk2⟩,⟨hk3,hk4⟩,⟨ok1,ok2⟩,ok3,ok4⟩:=h1
 obtain⟨b3,x3,y3,b4,x4,y4,rfl,hq3,hq4,⟨hk5,hk6⟩,⟨hk7,hk8⟩,⟨ok5,ok6⟩,ok7,ok8⟩:=h2
 obtain⟨b5,x5,y5,b6,x6,y6,rfl,hq5,hq6,⟨hk9,hk10⟩,⟨hk11,hk12⟩,⟨ok9,ok10⟩,ok11,ok12⟩:=h3
 have hp0:=fun {V':World} (o1:x1.ok V' V'.heap.size) (o2:y1.ok V' V'.heap.size) (o3:x2.ok V' V'.heap.size) (o4:y2.ok V' V'.heap.size)=>(show P1 Ka q1 (q1') ((aP b1 x1 y1 b2 x2 y2)) V' from⟨b1,x1,y1,b2,x2,y2,rfl,hq1,hq2,⟨hk1,hk2⟩,⟨hk3,hk4⟩,⟨o1,o2⟩,o3,o4⟩)
 have hp1:=fun {V':World} (o1:x3.ok V' V'.heap.size) (o2:y3.ok V' V'.heap.size) (o3:x4.ok V' V'.heap.size) (o4:y4.ok V' V'.heap.size)=>(show P1 Kb q2 (q2') ((aP b3 x3 y3 b4 x4 y4)) V' from⟨b3,x3,y3,b4,x4,y4,rfl,hq3,hq4,⟨hk5,hk6⟩,⟨hk7,hk8⟩,⟨o1,o2⟩,o3,o4⟩)
 have hp2:=fun {V':World} (o1:x5.ok V' V'.heap.size) (o2:y5.ok V' V'.heap.size) (o3:x6.ok V' V'.heap.size) (o4:y6.ok V' V'.heap.size)=>(show P1 Kc q3 (q3') ((aP b5 x5 y5 b6 x6 y6)) V' from⟨b5,x5,y5,b6,x6,y6,rfl,hq5,hq6,⟨hk9,hk10⟩,⟨hk11,hk12⟩,⟨o1,o2⟩,o3,o4⟩)
 refine zav (e:=[x5,y5,x6,y6,x3,y3,x4,y4,x1,y1,x2,y2]) Tryz.func15 rfl Tryz.ntmps15 (zt2 rfl) [(0,(aP b1 x1 y1 b2 x2 y2)),(1,(aP b3 x3 y3 b4 x4 y4)),(2,(aP b5 x5 y5 b6 x6 y6))] rfl (zaa ok9 (zaa ok10 (zaa ok11 (zaa ok12 (zaa ok5 (zaa ok6 (zaa ok7 (zaa ok8 (zaa ok1 (zaa ok2 (zaa ok3 (zaa ok4 zaN)))))))))))) (fun a S=>?_)
 refine wp_seq_k fun K1 hK1=>?_
 refine zab ?_
 refine ti S (cs:=(lP b1 x1 y1 b2 x2 y2)) (zaw rfl (S.at 0 rfl) rfl) (fun g1=>[⟨g1,29,(lP b1 x1 y1 b2 x2 y2)⟩]) fun g1 a V1 hgg1 S=>?_
 refine ti S (cs:=(lP b3 x3 y3 b4 x4 y4)) (zaw rfl (S.at 2 rfl) rfl) (fun g2=>[⟨g1,29,(lP b1 x1 y1 b2 x2 y2)⟩,⟨g2,29,(lP b3 x3 y3 b4 x4 y4)⟩]) fun g2 a V2 hgg2 S=>?_
 refine ti S (cs:=(lP b5 x5 y5 b6 x6 y6)) (zaw rfl (S.at 4 rfl) rfl) (fun g3=>[⟨g1,29,(lP b1 x1 y1 b2 x2 y2)⟩,⟨g2,29,(lP b3 x3 y3 b4 x4 y4)⟩,⟨g3,29,(lP b5 x5 y5 b6 x6 y6)⟩]) fun g3 a V3 hgg3 S=>?_
 refine tv S (zaq rfl) fun a S=>?_
 refine hK1 _ _ ?_
 refine wp_seq_k fun K2 hK2=>?_
 rcases zuc (decide (zan (crs q1 q1' q2 q2' q3 q3') 0=0))with hs1_|hs1_
 ·skip
  refine zab ?_
  refine tv S (za9 rfl (S.at 3 rfl) (S.bx 0 rfl) rfl) fun a S=>?_
  refine tv S (za9 rfl (S.at 3 rfl) (S.bx 1 rfl) rfl) fun a S=>?_
  refine tv S (za9 rfl (S.at 3 rfl) (S.bx 2 rfl) rfl) fun a S=>?_
  refine tc S (F:=(fun v _=>v= .int .i64 (zan (crs q1 (q1') q2 (q2') q3 (q3')) 0))) (rc3 Tryz.func10 (S.at 2 rfl) (S.at 1 rfl) (S.at 0 rfl)) (zdu (T.keep S.below) (hp0 (S.num 8 rfl) (S.num 9 rfl) (S.num 10 rfl) (S.num 11 rfl)) (hp1 (S.num 4 rfl) (S.num 5 rfl) (S.num 6 rfl) (S.num 7 rfl)) (hp2 (S.num 0 rfl) (S.num 1 rfl) (S.num 2 rfl) (S.num 3 rfl)) (by omega) (by omega) (by omega) (by assumption) (by assumption) (by assumption) (by assumption)) fun v a V4 hF hb S=>?_
  subst hF
  refine tv S (za5 (c:=true) (zbT _ (by decide) rfl (S.at 0 rfl) rfl) hs1_) fun a S=>?_
  refine tv S (zac rfl (S.at 0 rfl)) fun a S=>?_
  refine tvg S (S.at 0 rfl) (za9 rfl (S.at 9 rfl) (S.bx 0 rfl) rfl) fun a S=>?_
  refine tvg S (S.at 1 rfl) (za9 rfl (S.at 8 rfl) (S.bx 2 rfl) rfl) fun a S=>?_
  refine tvg S (S.at 2 rfl) (za9 rfl (S.at 10 rfl) (S.bx 1 rfl) rfl) fun a S=>?_
  refine tcg S (S.at 3 rfl) (F:=(fun v _=>v= .int .i64 (inRow q1 (q1') q3 (q3') q2 (q2')))) (rc3 Tryz.func44 (S.at 2 rfl) (S.at 1 rfl) (S.at 0 rfl)) (ziQ (T.keep S.below) (hp0 (S.num 8 rfl) (S.num 9 rfl) (S.num 10 rfl) (S.num 11 rfl)) (hp2 (S.num 0 rfl) (S.num 1 rfl) (S.num 2 rfl) (S.num 3 rfl)) (hp1 (S.num 4 rfl) (S.num 5 rfl) (S.num 6 rfl) (S.num 7 rfl)) (by omega) (by omega) (by omega)) fun v a V5 hF hb S=>?_
  subst hF
  refine tvg S (S.at 4 rfl) (zsi rfl (S.at 0 rfl) rfl) fun a S=>?_
  refine tv S (zaP true rfl (S.at 5 rfl) (S.at 0 rfl)) fun a S=>?_
  refine zaS S (v:= .bool (decide (0≤inRow q1 (q1') q3 (q3') q2 (q2')))) (zag rfl (S.at 0 rfl)) rfl rfl (by decide) (ls':=[(18,.bool (decide (0≤inRow q1 (q1') q3 (q3') q2 (q2')))),(17,.bool (decide (0≤inRow q1 (q1') q3 (q3') q2 (q2')))),(16,.int .i64 (inRow q1 (q1') q3 (q3') q2 (q2'))),(15,(aP b3 x3 y3 b4 x4 y4)),(14,(aP b5 x5 y5 b6 x6 y6)),(13,(aP b1 x1 y1 b2 x2 y2)),(12,.bool true),(11,.bool true),(10,.int .i64 (zan (crs q1 (q1') q2 (q2') q3 (q3')) 0)),(9,(aP b5 x5 y5 b6 x6 y6)),(8,(aP b3 x3 y3 b4 x4 y4)),(7,(aP b1 x1 y1 b2 x2 y2)),(5,pT g3 0),(4,pT g2 0),(3,pT g1 0),(0,(aP b1 x1 y1 b2 x2 y2)),(1,(aP b3 x3 y3 b4 x4 y4)),(2,(aP b5 x5 y5 b6 x6 y6))]) rfl (fun a S=>?_)
  refine hK2 _ _ ?_
  refine wp_ret ?_
  exact zaE rfl S (S.at 0 rfl) ⟨_,rfl,congrArg Value.bool (ztz hs1_),S.below⟩
 ·skip
  refine zab ?_
  refine tv S (za9 rfl (S.at 3 rfl) (S.bx 0 rfl) rfl) fun a S=>?_
  refine tv S (za9 rfl (S.at 3 rfl) (S.bx 1 rfl) rfl) fun a S=>?_
  refine tv S (za9 rfl (S.at 3 rfl) (S.bx 2 rfl) rfl) fun a S=>?_
  refine tc S (F:=(fun v _=>v= .int .i64 (zan (crs q1 (q1') q2 (q2') q3 (q3')) 0))) (rc3 Tryz.func10 (S.at 2 rfl) (S.at 1 rfl) (S.at 0 rfl)) (zdu (T.keep S.below) (hp0 (S.num 8 rfl) (S.num 9 rfl) (S.num 10 rfl) (S.num 11 rfl)) (hp1 (S.num 4 rfl) (S.num 5 rfl) (S.num 6 rfl) (S.num 7 rfl)) (hp2 (S.num 0 rfl) (S.num 1 rfl) (S.num 2 rfl) (S.num 3 rfl)) (by omega) (by omega) (by omega) (by assumption) (by assumption) (by assumption) (by assumption)) fun v a V6 hF hb S=>?_
  subst hF
  refine tv S (za5 (c:=false) (zbT _ (by decide) rfl (S.at 0 rfl) rfl) hs1_) fun a S=>?_
  refine tv S (zac rfl (S.at 0 rfl)) fun a S=>?_
  refine tk S (S.at 0 rfl) fun a S=>?_
  refine tk S (S.at 1 rfl) fun a S=>?_
  refine tk S (S.at 2 rfl) fun a S=>?_
  refine tk S (S.at 3 rfl) fun a S=>?_
  refine tk S (S.at 4 rfl) fun a S=>?_
  refine tv S (zaP false rfl (S.at 5 rfl) rfl) fun a S=>?_
  refine zaS S (v:= .bool false) (zag rfl (S.at 0 rfl)) rfl rfl (by decide) (ls':=[(18,.bool false),(17,undef),(16,undef),(15,undef),(14,undef),(13,undef),(12,.bool false),(11,.bool false),(10,.int .i64 (zan (crs q1 (q1') q2 (q2') q3 (q3')) 0)),(9,(aP b5 x5 y5 b6 x6 y6)),(8,(aP b3 x3 y3 b4 x4 y4)),(7,(aP b1 x1 y1 b2 x2 y2)),(5,pT g3 0),(4,pT g2 0),(3,pT g1 0),(0,(aP b1 x1 y1 b2 x2 y2)),(1,(aP b3 x3 y3 b4 x4 y4)),(2,(aP b5 x5 y5 b6 x6 y6))]) rfl (fun a S=>?_)
  refine hK2 _ _ ?_
  refine wp_ret ?_
  exact zaE rfl S (S.at 0 rfl) ⟨_,rfl,congrArg Value.bool (ztA hs1_),S.below⟩
theorem zj5 {Ka Kb Kc:Nat}{q1 q1' q2 q2' q3 q3':Rat}{v1 v2 v3:Value}{V:World}(T:TT V)(h1:P1 Ka (q1) (q1') v1 V)(h2:P1 Kb (q2) (q2') v2 V)(h3:P1 Kc (q3) (q3') v3 V)(hK1:Ka≤400)(hK2:Kb≤400)(hK3:Kc≤400)(hs0:Sm 250 (q2 - q1))(hs1:Sm 250 (q2' - q1'))(hs2:Sm 250 (q3 - q1))(hs3:Sm 250 (q3' - q1')):
  Calls Tryz.prog 17 #[v1,v2,v3] V (zal V (fun v _=>v= .bool (zdQ q1 q1' q2 q2' q3 q3'))):=by
 obtain⟨b1,x1,y1,b2,x2,y2,rfl,hq1,hq2,⟨hk1,hk2⟩,⟨hk3,hk4⟩,⟨ok1,ok2⟩,ok3,ok4⟩:=h1
 obtain⟨b3,x3,y3,b4,x4,y4,rfl,hq3,hq4,⟨hk5,hk6⟩,⟨hk7,hk8⟩,⟨ok5,ok6⟩,ok7,ok8⟩:=h2
 obtain⟨b5,x5,y5,b6,x6,y6,rfl,hq5,hq6,⟨hk9,hk10⟩,⟨hk11,hk12⟩,⟨ok9,ok10⟩,ok11,ok12⟩:=h3
 have hp0:=fun {V':World} (o1:x1.ok V' V'.heap.size) (o2:y1.ok V' V'.heap.size) (o3:x2.ok V' V'.heap.size) (o4:y2.ok V' V'.heap.size)=>(show P1 Ka q1 (q1') ((aP b1 x1 y1 b2 x2 y2)) V' from⟨b1,x1,y1,b2,x2,y2,rfl,hq1,hq2,⟨hk1,hk2⟩,⟨hk3,hk4⟩,⟨o1,o2⟩,o3,o4⟩)
 have hp1:=fun {V':World} (o1:x3.ok V' V'.heap.size) (o2:y3.ok V' V'.heap.size) (o3:x4.ok V' V'.heap.size) (o4:y4.ok V' V'.heap.size)=>(show P1 Kb q2 (q2') ((aP b3 x3 y3 b4 x4 y4)) V' from⟨b3,x3,y3,b4,x4,y4,rfl,hq3,hq4,⟨hk5,hk6⟩,⟨hk7,hk8⟩,⟨o1,o2⟩,o3,o4⟩)
 have hp2:=fun {V':World} (o1:x5.ok V' V'.heap.size) (o2:y5.ok V' V'.heap.size) (o3:x6.ok V' V'.heap.size) (o4:y6.ok V' V'.heap.size)=>(show P1 Kc q3 (q3') ((aP b5 x5 y5 b6 x6 y6)) V' from⟨b5,x5,y5,b6,x6,y6,rfl,hq5,hq6,⟨hk9,hk10⟩,⟨hk11,hk12⟩,⟨o1,o2⟩,o3,o4⟩)
 refine zav (e:=[x5,y5,x6,y6,x3,y3,x4,y4,x1,y1,x2,y2]) Tryz.func17 rfl Tryz.ntmps17 (zt2 rfl) [(0,(aP b1 x1 y1 b2 x2 y2)),(1,(aP b3 x3 y3 b4 x4 y4)),(2,(aP b5 x5 y5 b6 x6 y6))] rfl (zaa ok9 (zaa ok10 (zaa ok11 (zaa ok12 (zaa ok5 (zaa ok6 (zaa ok7 (zaa ok8 (zaa ok1 (zaa ok2 (zaa ok3 (zaa ok4 zaN)))))))))))) (fun a S=>?_)
 refine wp_seq_k fun K1 hK1=>?_
 refine zab ?_
 refine ti S (cs:=(lP b1 x1 y1 b2 x2 y2)) (zaw rfl (S.at 0 rfl) rfl) (fun g1=>[⟨g1,29,(lP b1 x1 y1 b2 x2 y2)⟩]) fun g1 a V1 hgg1 S=>?_
 refine ti S (cs:=(lP b3 x3 y3 b4 x4 y4)) (zaw rfl (S.at 2 rfl) rfl) (fun g2=>[⟨g1,29,(lP b1 x1 y1 b2 x2 y2)⟩,⟨g2,29,(lP b3 x3 y3 b4 x4 y4)⟩]) fun g2 a V2 hgg2 S=>?_
 refine ti S (cs:=(lP b5 x5 y5 b6 x6 y6)) (zaw rfl (S.at 4 rfl) rfl) (fun g3=>[⟨g1,29,(lP b1 x1 y1 b2 x2 y2)⟩,⟨g2,29,(lP b3 x3 y3 b4 x4 y4)⟩,⟨g3,29,(lP b5 x5 y5 b6 x6 y6)⟩]) fun g3 a V3 hgg3 S=>?_
 refine tv S (zaq rfl) fun a S=>?_
 refine hK1 _ _ ?_
 refine wp_seq_k fun K2 hK2=>?_
 rcases zuc (decide (zan (crs q1 q1' q2 q2' q3 q3') 0=0))with hs1_|hs1_
 ·skip
  refine zab ?_
  refine tv S (za9 rfl (S.at 3 rfl) (S.bx 0 rfl) rfl) fun a S=>?_
  refine tv S (za9 rfl (S.at 3 rfl) (S.bx 1 rfl) rfl) fun a S=>?_
  refine tv S (za9 rfl (S.at 3 rfl) (S.bx 2 rfl) rfl) fun a S=>?_
  refine tc S (F:=(fun v _=>v= .int .i64 (zan (crs q1 (q1') q2 (q2') q3 (q3')) 0))) (rc3 Tryz.func10 (S.at 2 rfl) (S.at 1 rfl) (S.at 0 rfl)) (zdu (T.keep S.below) (hp0 (S.num 8 rfl) (S.num 9 rfl) (S.num 10 rfl) (S.num 11 rfl)) (hp1 (S.num 4 rfl) (S.num 5 rfl) (S.num 6 rfl) (S.num 7 rfl)) (hp2 (S.num 0 rfl) (S.num 1 rfl) (S.num 2 rfl) (S.num 3 rfl)) (by omega) (by omega) (by omega) (by assumption) (by assumption) (by assumption) (by assumption)) fun v a V4 hF hb S=>?_
  subst hF
  refine tv S (za5 (c:=true) (zbT _ (by decide) rfl (S.at 0 rfl) rfl) hs1_) fun a S=>?_
  refine tv S (zac rfl (S.at 0 rfl)) fun a S=>?_
  refine tvg S (S.at 0 rfl) (za9 rfl (S.at 9 rfl) (S.bx 0 rfl) rfl) fun a S=>?_
  refine tvg S (S.at 1 rfl) (za9 rfl (S.at 8 rfl) (S.bx 2 rfl) rfl) fun a S=>?_
  refine tvg S (S.at 2 rfl) (za9 rfl (S.at 10 rfl) (S.bx 1 rfl) rfl) fun a S=>?_
  refine tcg S (S.at 3 rfl) (F:=(fun v _=>v= .int .i64 (inRow q1 (q1') q3 (q3') q2 (q2')))) (rc3 Tryz.func44 (S.at 2 rfl) (S.at 1 rfl) (S.at 0 rfl)) (ziQ (T.keep S.below) (hp0 (S.num 8 rfl) (S.num 9 rfl) (S.num 10 rfl) (S.num 11 rfl)) (hp2 (S.num 0 rfl) (S.num 1 rfl) (S.num 2 rfl) (S.num 3 rfl)) (hp1 (S.num 4 rfl) (S.num 5 rfl) (S.num 6 rfl) (S.num 7 rfl)) (by omega) (by omega) (by omega)) fun v a V5 hF hb S=>?_
  subst hF
  refine tvg S (S.at 4 rfl) (zbS rfl (S.at 0 rfl) rfl) fun a S=>?_
  refine tv S (zaP true rfl (S.at 5 rfl) (S.at 0 rfl)) fun a S=>?_
  refine zaS S (v:= .bool (decide (0<inRow q1 (q1') q3 (q3') q2 (q2')))) (zag rfl (S.at 0 rfl)) rfl rfl (by decide) (ls':=[(18,.bool (decide (0<inRow q1 (q1') q3 (q3') q2 (q2')))),(17,.bool (decide (0<inRow q1 (q1') q3 (q3') q2 (q2')))),(16,.int .i64 (inRow q1 (q1') q3 (q3') q2 (q2'))),(15,(aP b3 x3 y3 b4 x4 y4)),(14,(aP b5 x5 y5 b6 x6 y6)),(13,(aP b1 x1 y1 b2 x2 y2)),(12,.bool true),(11,.bool true),(10,.int .i64 (zan (crs q1 (q1') q2 (q2') q3 (q3')) 0)),(9,(aP b5 x5 y5 b6 x6 y6)),(8,(aP b3 x3 y3 b4 x4 y4)),(7,(aP b1 x1 y1 b2 x2 y2)),(5,pT g3 0),(4,pT g2 0),(3,pT g1 0),(0,(aP b1 x1 y1 b2 x2 y2)),(1,(aP b3 x3 y3 b4 x4 y4)),(2,(aP b5 x5 y5 b6 x6 y6))]) rfl (fun a S=>?_)
  refine hK2 _ _ ?_
  refine wp_ret ?_
  exact zaE rfl S (S.at 0 rfl) ⟨_,rfl,congrArg Value.bool (znt hs1_),S.below⟩
 ·skip
  refine zab ?_
  refine tv S (za9 rfl (S.at 3 rfl) (S.bx 0 rfl) rfl) fun a S=>?_
  refine tv S (za9 rfl (S.at 3 rfl) (S.bx 1 rfl) rfl) fun a S=>?_
  refine tv S (za9 rfl (S.at 3 rfl) (S.bx 2 rfl) rfl) fun a S=>?_
  refine tc S (F:=(fun v _=>v= .int .i64 (zan (crs q1 (q1') q2 (q2') q3 (q3')) 0))) (rc3 Tryz.func10 (S.at 2 rfl) (S.at 1 rfl) (S.at 0 rfl)) (zdu (T.keep S.below) (hp0 (S.num 8 rfl) (S.num 9 rfl) (S.num 10 rfl) (S.num 11 rfl)) (hp1 (S.num 4 rfl) (S.num 5 rfl) (S.num 6 rfl) (S.num 7 rfl)) (hp2 (S.num 0 rfl) (S.num 1 rfl) (S.num 2 rfl) (S.num 3 rfl)) (by omega) (by omega) (by omega) (by assumption) (by assumption) (by assumption) (by assumption)) fun v a V6 hF hb S=>?_
  subst hF
  refine tv S (za5 (c:=false) (zbT _ (by decide) rfl (S.at 0 rfl) rfl) hs1_) fun a S=>?_
  refine tv S (zac rfl (S.at 0 rfl)) fun a S=>?_
  refine tk S (S.at 0 rfl) fun a S=>?_
  refine tk S (S.at 1 rfl) fun a S=>?_
  refine tk S (S.at 2 rfl) fun a S=>?_
  refine tk S (S.at 3 rfl) fun a S=>?_
  refine tk S (S.at 4 rfl) fun a S=>?_
  refine tv S (zaP false rfl (S.at 5 rfl) rfl) fun a S=>?_
  refine zaS S (v:= .bool false) (zag rfl (S.at 0 rfl)) rfl rfl (by decide) (ls':=[(18,.bool false),(17,undef),(16,undef),(15,undef),(14,undef),(13,undef),(12,.bool false),(11,.bool false),(10,.int .i64 (zan (crs q1 (q1') q2 (q2') q3 (q3')) 0)),(9,(aP b5 x5 y5 b6 x6 y6)),(8,(aP b3 x3 y3 b4 x4 y4)),(7,(aP b1 x1 y1 b2 x2 y2)),(5,pT g3 0),(4,pT g2 0),(3,pT g1 0),(0,(aP b1 x1 y1 b2 x2 y2)),(1,(aP b3 x3 y3 b4 x4 y4)),(2,(aP b5 x5 y5 b6 x6 y6))]) rfl (fun a S=>?_)
  refine hK2 _ _ ?_
  refine wp_ret ?_
  exact zaE rfl S (S.at 0 rfl) ⟨_,rfl,congrArg Value.bool (znu hs1_),S.below⟩
theorem zli {Ka Kb Kc:Nat}{q1 q1' q2 q2' q3 q3':Rat}{v1 v2 v3:Value}{V:World}(T:TT V)(h1:P1 Ka (q1) (q1') v1 V)(h2:P1 Kb (q2) (q2') v2 V)(h3:P1 Kc (q3) (q3') v3 V)(hK1:Ka≤400)(hK2:Kb≤400)(hK3:Kc≤400)(hs0:Sm 250 (q2 - q1))(hs1:Sm 250 (q2' - q1'))(hs2:Sm 250 (q3 - q1))(hs3:Sm 250 (q3' - q1')):
  Calls Tryz.prog 19 #[v1,v2,v3] V (zal V (fun v _=>v= .bool (zc3 q1 q1' q2 q2' q3 q3'))):=by
 obtain⟨b1,x1,y1,b2,x2,y2,rfl,hq1,hq2,⟨hk1,hk2⟩,⟨hk3,hk4⟩,⟨ok1,ok2⟩,ok3,ok4⟩:=h1
 obtain⟨b3,x3,y3,b4,x4,y4,rfl,hq3,hq4,⟨hk5,hk6⟩,⟨hk7,hk8⟩,⟨ok5,ok6⟩,ok7,ok8⟩:=h2
 obtain⟨b5,x5,y5,b6,x6,y6,rfl,hq5,hq6,⟨hk9,hk10⟩,⟨hk11,hk12⟩,⟨ok9,ok10⟩,ok11,ok12⟩:=h3
 have hp0:=fun {V':World} (o1:x1.ok V' V'.heap.size) (o2:y1.ok V' V'.heap.size) (o3:x2.ok V' V'.heap.size) (o4:y2.ok V' V'.heap.size)=>(show P1 Ka q1 (q1') ((aP b1 x1 y1 b2 x2 y2)) V' from⟨b1,x1,y1,b2,x2,y2,rfl,hq1,hq2,⟨hk1,hk2⟩,⟨hk3,hk4⟩,⟨o1,o2⟩,o3,o4⟩)
 have hp1:=fun {V':World} (o1:x3.ok V' V'.heap.size) (o2:y3.ok V' V'.heap.size) (o3:x4.ok V' V'.heap.size) (o4:y4.ok V' V'.heap.size)=>(show P1 Kb q2 (q2') ((aP b3 x3 y3 b4 x4 y4)) V' from⟨b3,x3,y3,b4,x4,y4,rfl,hq3,hq4,⟨hk5,hk6⟩,⟨hk7,hk8⟩,⟨o1,o2⟩,o3,o4⟩)
 have hp2:=fun {V':World} (o1:x5.ok V' V'.heap.size) (o2:y5.ok V' V'.heap.size) (o3:x6.ok V' V'.heap.size) (o4:y6.ok V' V'.heap.size)=>(show P1 Kc q3 (q3') ((aP b5 x5 y5 b6 x6 y6)) V' from⟨b5,x5,y5,b6,x6,y6,rfl,hq5,hq6,⟨hk9,hk10⟩,⟨hk11,hk12⟩,⟨o1,o2⟩,o3,o4⟩)
 refine zav (e:=[x5,y5,x6,y6,x3,y3,x4,y4,x1,y1,x2,y2]) Tryz.func19 rfl Tryz.ntmps19 (zt2 rfl) [(0,(aP b1 x1 y1 b2 x2 y2)),(1,(aP b3 x3 y3 b4 x4 y4)),(2,(aP b5 x5 y5 b6 x6 y6))] rfl (zaa ok9 (zaa ok10 (zaa ok11 (zaa ok12 (zaa ok5 (zaa ok6 (zaa ok7 (zaa ok8 (zaa ok1 (zaa ok2 (zaa ok3 (zaa ok4 zaN)))))))))))) (fun a S=>?_)
 refine wp_seq_k fun K1 hK1=>?_
 refine zab ?_
 refine ti S (cs:=(lP b1 x1 y1 b2 x2 y2)) (zaw rfl (S.at 0 rfl) rfl) (fun g1=>[⟨g1,29,(lP b1 x1 y1 b2 x2 y2)⟩]) fun g1 a V1 hgg1 S=>?_
 refine ti S (cs:=(lP b3 x3 y3 b4 x4 y4)) (zaw rfl (S.at 2 rfl) rfl) (fun g2=>[⟨g1,29,(lP b1 x1 y1 b2 x2 y2)⟩,⟨g2,29,(lP b3 x3 y3 b4 x4 y4)⟩]) fun g2 a V2 hgg2 S=>?_
 refine ti S (cs:=(lP b5 x5 y5 b6 x6 y6)) (zaw rfl (S.at 4 rfl) rfl) (fun g3=>[⟨g1,29,(lP b1 x1 y1 b2 x2 y2)⟩,⟨g2,29,(lP b3 x3 y3 b4 x4 y4)⟩,⟨g3,29,(lP b5 x5 y5 b6 x6 y6)⟩]) fun g3 a V3 hgg3 S=>?_
 refine tv S (zaq rfl) fun a S=>?_
 refine hK1 _ _ ?_
 refine wp_seq_k fun K2 hK2=>?_
 rcases zuc (decide (zan (crs q1 q1' q2 q2' q3 q3') 0=0))with hs1_|hs1_
 ·skip
  refine zab ?_
  refine tv S (za9 rfl (S.at 3 rfl) (S.bx 0 rfl) rfl) fun a S=>?_
  refine tv S (za9 rfl (S.at 3 rfl) (S.bx 1 rfl) rfl) fun a S=>?_
  refine tv S (za9 rfl (S.at 3 rfl) (S.bx 2 rfl) rfl) fun a S=>?_
  refine tc S (F:=(fun v _=>v= .int .i64 (zan (crs q1 (q1') q2 (q2') q3 (q3')) 0))) (rc3 Tryz.func10 (S.at 2 rfl) (S.at 1 rfl) (S.at 0 rfl)) (zdu (T.keep S.below) (hp0 (S.num 8 rfl) (S.num 9 rfl) (S.num 10 rfl) (S.num 11 rfl)) (hp1 (S.num 4 rfl) (S.num 5 rfl) (S.num 6 rfl) (S.num 7 rfl)) (hp2 (S.num 0 rfl) (S.num 1 rfl) (S.num 2 rfl) (S.num 3 rfl)) (by omega) (by omega) (by omega) (by assumption) (by assumption) (by assumption) (by assumption)) fun v a V4 hF hb S=>?_
  subst hF
  refine tv S (za5 (c:=true) (zbT _ (by decide) rfl (S.at 0 rfl) rfl) hs1_) fun a S=>?_
  refine tv S (zac rfl (S.at 0 rfl)) fun a S=>?_
  refine tvg S (S.at 0 rfl) (za9 rfl (S.at 9 rfl) (S.bx 0 rfl) rfl) fun a S=>?_
  refine tvg S (S.at 1 rfl) (za9 rfl (S.at 9 rfl) (S.bx 1 rfl) rfl) fun a S=>?_
  refine tvg S (S.at 2 rfl) (za9 rfl (S.at 9 rfl) (S.bx 2 rfl) rfl) fun a S=>?_
  refine tcg S (S.at 3 rfl) (F:=(fun v _=>v= .int .i64 (inRow q1 (q1') q2 (q2') q3 (q3')))) (rc3 Tryz.func44 (S.at 2 rfl) (S.at 1 rfl) (S.at 0 rfl)) (ziQ (T.keep S.below) (hp0 (S.num 8 rfl) (S.num 9 rfl) (S.num 10 rfl) (S.num 11 rfl)) (hp1 (S.num 4 rfl) (S.num 5 rfl) (S.num 6 rfl) (S.num 7 rfl)) (hp2 (S.num 0 rfl) (S.num 1 rfl) (S.num 2 rfl) (S.num 3 rfl)) (by omega) (by omega) (by omega)) fun v a V5 hF hb S=>?_
  subst hF
  refine tvg S (S.at 4 rfl) (zbS rfl (S.at 0 rfl) rfl) fun a S=>?_
  refine tv S (zaP true rfl (S.at 5 rfl) (S.at 0 rfl)) fun a S=>?_
  refine zaS S (v:= .bool (decide (0<inRow q1 (q1') q2 (q2') q3 (q3')))) (zag rfl (S.at 0 rfl)) rfl rfl (by decide) (ls':=[(18,.bool (decide (0<inRow q1 (q1') q2 (q2') q3 (q3')))),(17,.bool (decide (0<inRow q1 (q1') q2 (q2') q3 (q3')))),(16,.int .i64 (inRow q1 (q1') q2 (q2') q3 (q3'))),(15,(aP b5 x5 y5 b6 x6 y6)),(14,(aP b3 x3 y3 b4 x4 y4)),(13,(aP b1 x1 y1 b2 x2 y2)),(12,.bool true),(11,.bool true),(10,.int .i64 (zan (crs q1 (q1') q2 (q2') q3 (q3')) 0)),(9,(aP b5 x5 y5 b6 x6 y6)),(8,(aP b3 x3 y3 b4 x4 y4)),(7,(aP b1 x1 y1 b2 x2 y2)),(5,pT g3 0),(4,pT g2 0),(3,pT g1 0),(0,(aP b1 x1 y1 b2 x2 y2)),(1,(aP b3 x3 y3 b4 x4 y4)),(2,(aP b5 x5 y5 b6 x6 y6))]) rfl (fun a S=>?_)
  refine hK2 _ _ ?_
  refine wp_ret ?_
  exact zaE rfl S (S.at 0 rfl) ⟨_,rfl,congrArg Value.bool (zj3 hs1_),S.below⟩
 ·skip
  refine zab ?_
  refine tv S (za9 rfl (S.at 3 rfl) (S.bx 0 rfl) rfl) fun a S=>?_
  refine tv S (za9 rfl (S.at 3 rfl) (S.bx 1 rfl) rfl) fun a S=>?_
  refine tv S (za9 rfl (S.at 3 rfl) (S.bx 2 rfl) rfl) fun a S=>?_
  refine tc S (F:=(fun v _=>v= .int .i64 (zan (crs q1 (q1') q2 (q2') q3 (q3')) 0))) (rc3 Tryz.func10 (S.at 2 rfl) (S.at 1 rfl) (S.at 0 rfl)) (zdu (T.keep S.below) (hp0 (S.num 8 rfl) (S.num 9 rfl) (S.num 10 rfl) (S.num 11 rfl)) (hp1 (S.num 4 rfl) (S.num 5 rfl) (S.num 6 rfl) (S.num 7 rfl)) (hp2 (S.num 0 rfl) (S.num 1 rfl) (S.num 2 rfl) (S.num 3 rfl)) (by omega) (by omega) (by omega) (by assumption) (by assumption) (by assumption) (by assumption)) fun v a V6 hF hb S=>?_
  subst hF
  refine tv S (za5 (c:=false) (zbT _ (by decide) rfl (S.at 0 rfl) rfl) hs1_) fun a S=>?_
  refine tv S (zac rfl (S.at 0 rfl)) fun a S=>?_
  refine tk S (S.at 0 rfl) fun a S=>?_
  refine tk S (S.at 1 rfl) fun a S=>?_
  refine tk S (S.at 2 rfl) fun a S=>?_
  refine tk S (S.at 3 rfl) fun a S=>?_
  refine tk S (S.at 4 rfl) fun a S=>?_
  refine tv S (zaP false rfl (S.at 5 rfl) rfl) fun a S=>?_
  refine zaS S (v:= .bool false) (zag rfl (S.at 0 rfl)) rfl rfl (by decide) (ls':=[(18,.bool false),(17,undef),(16,undef),(15,undef),(14,undef),(13,undef),(12,.bool false),(11,.bool false),(10,.int .i64 (zan (crs q1 (q1') q2 (q2') q3 (q3')) 0)),(9,(aP b5 x5 y5 b6 x6 y6)),(8,(aP b3 x3 y3 b4 x4 y4)),(7,(aP b1 x1 y1 b2 x2 y2)),(5,pT g3 0),(4,pT g2 0),(3,pT g1 0),(0,(aP b1 x1 y1 b2 x2 y2)),(1,(aP b3 x3 y3 b4 x4 y4)),(2,(aP b5 x5 y5 b6 x6 y6))]) rfl (fun a S=>?_)
  refine hK2 _ _ ?_
  refine wp_ret ?_
  exact zaE rfl S (S.at 0 rfl) ⟨_,rfl,congrArg Value.bool (zj4 hs1_),S.below⟩
theorem zsH {Ka Kb Kc:Nat}{q1 q1' q2 q2' q3 q3':Rat}{b1_ b1b_:Bool}{x1_ y1_ x1b_ y1b_:Num}{b2_ b2b_:Bool}{x2_ y2_ x2b_ y2b_:Num}{b3_ b3b_:Bool}{x3_ y3_ x3b_ y3b_:Num}{V:World}(T:TT V)(hq1:qOf b1_ x1_.N y1_.N=q1)(hq1':qOf b1b_ x1b_.N y1b_.N=q1')(hx1:x1_.n≤Ka)(hy1:y1_.n≤Ka)(hx1':x1b_.n≤Ka)(hy1':y1b_.n≤Ka)(ox1:x1_.ok V V.heap.size)(oy1:y1_.ok V V.heap.size)(ox1':x1b_.ok V V.heap.size)(oy1':y1b_.ok V V.heap.size)(hq2:qOf b2_ x2_.N y2_.N=q2)(hq2':qOf b2b_ x2b_.N y2b_.N=q2')(hx2:x2_.n≤Kb)(hy2:y2_.n≤Kb)(hx2':x2b_.n≤Kb)(hy2':y2b_.n≤Kb)(ox2:x2_.ok V V.heap.size)(oy2:y2_.ok V V.heap.size)(ox2':x2b_.ok V V.heap.size)(oy2':y2b_.ok V V.heap.size)(hq3:qOf b3_ x3_.N y3_.N=q3)(hq3':qOf b3b_ x3b_.N y3b_.N=q3')(hx3:x3_.n≤Kc)(hy3:y3_.n≤Kc)(hx3':x3b_.n≤Kc)(hy3':y3b_.n≤Kc)(ox3:x3_.ok V V.heap.size)(oy3:y3_.ok V V.heap.size)(ox3':x3b_.ok V V.heap.size)(oy3':y3b_.ok V V.heap.size)(hK1:Ka≤400)(hK2:Kb≤400)(hK3:Kc≤400)(hs0:Sm 250 (q2 - q1))(hs1:Sm 250 (q2' - q1'))(hs2:Sm 250 (q3 - q1))(hs3:Sm 250 (q3' - q1')):
  Calls Tryz.prog 43 #[.agg #[.bool b1_,aS x1_,aS y1_,.bool b1b_,aS x1b_,aS y1b_,.bool b2_,aS x2_,aS y2_,.bool b2b_,aS x2b_,aS y2b_,.bool b3_,aS x3_,aS y3_,.bool b3b_,aS x3b_,aS y3b_]] V (zal V (fun v _=>v= .int .i64 (zan (crs q1 q1' q2 q2' q3 q3') 0))):=by
 refine zav (e:=[x3_,y3_,x3b_,y3b_,x2_,y2_,x2b_,y2b_,x1_,y1_,x1b_,y1b_]) Tryz.func43 rfl Tryz.ntmps43 (zt2 rfl) [(0,.agg #[.bool b1_,aS x1_,aS y1_,.bool b1b_,aS x1b_,aS y1b_,.bool b2_,aS x2_,aS y2_,.bool b2b_,aS x2b_,aS y2b_,.bool b3_,aS x3_,aS y3_,.bool b3b_,aS x3b_,aS y3b_])] rfl (zaa ox3 (zaa oy3 (zaa ox3' (zaa oy3' (zaa ox2 (zaa oy2 (zaa ox2' (zaa oy2' (zaa ox1 (zaa oy1 (zaa ox1' (zaa oy1' zaN)))))))))))) (fun a S=>?_)
 refine wp_seq_k fun K1 hK1=>?_
 refine zab ?_
 refine ti S (cs:=[.bool b1_,aS x1_,aS y1_,.bool b1b_,aS x1b_,aS y1b_,.bool b2_,aS x2_,aS y2_,.bool b2b_,aS x2b_,aS y2b_,.bool b3_,aS x3_,aS y3_,.bool b3b_,aS x3b_,aS y3b_]) (zaw rfl (S.at 0 rfl) rfl) (fun g1=>[⟨g1,62,[.bool b1_,aS x1_,aS y1_,.bool b1b_,aS x1b_,aS y1b_,.bool b2_,aS x2_,aS y2_,.bool b2b_,aS x2b_,aS y2b_,.bool b3_,aS x3_,aS y3_,.bool b3b_,aS x3b_,aS y3b_]⟩]) fun g1 a V1 hgg1 S=>?_
 refine tv S (zaq rfl) fun a S=>?_
 refine hK1 _ _ ?_
 refine wp_seq_k fun K2 hK2=>?_
 refine zab ?_
 refine tv S (zpF rfl (S.at 1 rfl)) fun a S=>?_
 refine tv S (za9 rfl (S.at 0 rfl) (S.bx 0 rfl) rfl) fun a S=>?_
 refine tv S (zpG rfl (S.at 3 rfl)) fun a S=>?_
 refine tv S (za9 rfl (S.at 0 rfl) (S.bx 0 rfl) rfl) fun a S=>?_
 refine tv S (zpH rfl (S.at 5 rfl)) fun a S=>?_
 refine tv S (za9 rfl (S.at 0 rfl) (S.bx 0 rfl) rfl) fun a S=>?_
 refine tc S (F:=(fun v _=>v= .int .i64 (zan (crs q1 (q1') q2 (q2') q3 (q3')) 0))) (rc3 Tryz.func10 (S.at 4 rfl) (S.at 2 rfl) (S.at 0 rfl)) (zdu (T.keep S.below) (show P1 Ka (q1) (q1') ((aP b1_ x1_ y1_ b1b_ x1b_ y1b_)) _ from⟨b1_,x1_,y1_,b1b_,x1b_,y1b_,rfl,hq1,hq1',⟨hx1,hy1⟩,⟨hx1',hy1'⟩,⟨(S.num 8 rfl),(S.num 9 rfl)⟩,(S.num 10 rfl),(S.num 11 rfl)⟩) (show P1 Kb (q2) (q2') ((aP b2_ x2_ y2_ b2b_ x2b_ y2b_)) _ from⟨b2_,x2_,y2_,b2b_,x2b_,y2b_,rfl,hq2,hq2',⟨hx2,hy2⟩,⟨hx2',hy2'⟩,⟨(S.num 4 rfl),(S.num 5 rfl)⟩,(S.num 6 rfl),(S.num 7 rfl)⟩) (show P1 Kc (q3) (q3') ((aP b3_ x3_ y3_ b3b_ x3b_ y3b_)) _ from⟨b3_,x3_,y3_,b3b_,x3b_,y3b_,rfl,hq3,hq3',⟨hx3,hy3⟩,⟨hx3',hy3'⟩,⟨(S.num 0 rfl),(S.num 1 rfl)⟩,(S.num 2 rfl),(S.num 3 rfl)⟩) (by omega) (by omega) (by omega) (by assumption) (by assumption) (by assumption) (by assumption)) fun v a V2 hF hb S=>?_
 subst hF
 refine zaS S (v:= .int .i64 (zan (crs q1 (q1') q2 (q2') q3 (q3')) 0)) (zag rfl (S.at 0 rfl)) rfl rfl (by decide) (ls':=[(9,.int .i64 (zan (crs q1 (q1') q2 (q2') q3 (q3')) 0)),(8,(aP b3_ x3_ y3_ b3b_ x3b_ y3b_)),(7,pT g1 12),(6,(aP b2_ x2_ y2_ b2b_ x2b_ y2b_)),(5,pT g1 6),(4,(aP b1_ x1_ y1_ b1b_ x1b_ y1b_)),(3,pT g1 0),(1,pT g1 0),(0,.agg #[.bool b1_,aS x1_,aS y1_,.bool b1b_,aS x1b_,aS y1b_,.bool b2_,aS x2_,aS y2_,.bool b2b_,aS x2b_,aS y2b_,.bool b3_,aS x3_,aS y3_,.bool b3b_,aS x3b_,aS y3b_])]) rfl (fun a S=>?_)
 refine hK2 _ _ ?_
 refine wp_ret ?_
 exact zaE rfl S (S.at 0 rfl) ⟨_,rfl,rfl,S.below⟩
end Go.Proofs.YtdeelcoipmdoiaaGreatDoor
