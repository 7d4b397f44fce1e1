/- A part. -/
import Derived.Test.YtdeelcoipmdoiaaGreatDoorGVVec
set_option maxHeartbeats 4000000
set_option maxRecDepth 100000
namespace Go.Proofs.YtdeelcoipmdoiaaGreatDoor
open Go Go.RowKit
section
variable {a a' b b' p p' d d' s t u w:Rat}
def crs (a a' b b' p p':Rat):Rat:=(b - a)*(p' - a') - (b' - a')*(p - a)
theorem zdp (a b:Rat):zag a b=zag (a - b) 0:=by
 have:=zp8 a b (-b)
 rw[←this,show a+ -b=a - b by grind,show b+ -b=0 by grind]
theorem ztw (q:Rat):zag q 0=q.num.sign:=by
 rw[zf0];simp
theorem zjx (a b:Rat):zag (a*b) 0=zag a 0*zag b 0:=by
 have:=zqa a 0 b
 rw[Rat.zero_mul]at this
 rw[this,ztw b]
theorem zfk (a b:Rat):(a<b∧zag a b= -1)∨(a=b∧zag a b=0)∨(b<a∧zag a b=1):=by
 by_cases h:a<b
 ·exact .inl ⟨h,zd4 h⟩
 ·by_cases h2:b<a
  ·exact .inr (.inr ⟨h2,zeP h2⟩)
  ·exact .inr (.inl ⟨by grind,by simp[zag,h,h2]⟩)
theorem ziv (h:zag b a*zag p' a'≠zag b' a'*zag p a∨zag b a*zag p' a'=0):zb9 (zag b a*zag p' a') (zag b' a'*zag p a)=zag (crs a a' b b' p p') 0:=by
 have e1:zag b a*zag p' a'=zag ((b - a)*(p' - a')) 0:=by rw[zjx,←zdp,←zdp]
 have e2:zag b' a'*zag p a=zag ((b' - a')*(p - a)) 0:=by rw[zjx,←zdp,←zdp]
 rw[e1,e2]at h ⊢
 unfold crs
 generalize (b - a)*(p' - a')=u at h ⊢
 generalize (b' - a')*(p - a)=w at h ⊢
 rw[←zdp]
 unfold zb9
 rcases zfk u 0 with⟨h1,e1⟩|⟨h1,e1⟩|⟨h1,e1⟩ <;> rcases zfk w 0 with⟨h2,e2⟩|⟨h2,e2⟩|⟨h2,e2⟩ <;> rw[e1,e2]at h ⊢ <;> rcases zfk u w with⟨h3,e3⟩|⟨h3,e3⟩|⟨h3,e3⟩ <;> rw[e3] <;> first|decide|(exfalso;grind)
theorem zex (h:u*w=0):u=0∨w=0:=by
 have:=zjx u w
 rw[h,zd5]at this
 rcases Int.mul_eq_zero.1 this.symm with h|h
 ·exact .inl (zcE.1 h)
 ·exact .inr (zcE.1 h)
theorem zht (h:d≠0):d*(u/d)=u:=by
 rw[Rat.mul_comm,Rat.div_mul_cancel h]
theorem zjy (h:crs a a' b b' p p'=0)(hab: ¬(a=b∧a'=b')):∃t,p=a+(b - a)*t∧p'=a'+(b' - a')*t:=by
 unfold crs at h
 by_cases hd:b - a=0
 ·have hd':b' - a'≠0:=fun h'=>hab ⟨by grind,by grind⟩
  refine⟨(p' - a')/(b' - a'),?_,?_⟩
  ·rw[hd,Rat.zero_mul]at h
   have h2:(b' - a')*(p - a)=0:=by grind
   rcases zex h2 with h3|h3
   ·exact absurd h3 hd'
   ·rw[hd];grind
  ·rw[zht hd'];grind
 ·refine⟨(p - a)/(b - a),?_,?_⟩
  ·rw[zht hd];grind
  ·have h2:(b - a)*((b' - a')*((p - a)/(b - a)) - (p' - a'))=0:=by
    have:=zht (u:=p - a) hd
    grind
   rcases zex h2 with h3|h3
   ·exact absurd h3 hd
   ·grind
theorem zdT (a d s t:Rat):zag (a+d*s) (a+d*t)=zag d 0*zag s t:=by
 rw[zdp,show a+d*s - (a+d*t)=d*(s - t) by grind,zjx,←zdp]
theorem zkQ (a a' d d' s t:Rat):zaQ (a+d*s) (a'+d'*s) (a+d*t) (a'+d'*t)=zaQ d d' 0 0*zag s t:=by
 unfold zaQ
 rw[zdT,zdT]
 by_cases h:zag d 0=0
 ·rw[if_pos h,if_pos (by rw[h,Int.zero_mul])]
 ·rw[if_neg h]
  by_cases h2:zag s t=0
  ·rw[h2,if_pos (by rw[Int.mul_zero])];simp
  ·rw[if_neg (fun h3=>by rcases Int.mul_eq_zero.1 h3 with h3|h3 <;> contradiction)]
theorem zqB (h: ¬(d=0∧d'=0)):zaQ d d' 0 0*zaQ d d' 0 0=1:=by
 have h1:zaQ d d' 0 0≠0:=fun h2=>h (zk9.1 h2)
 have h2:=zcA d d' 0 0
 have h3:zaQ d d' 0 0= -1∨zaQ d d' 0 0=1:=by omega
 rcases h3 with h3|h3 <;> rw[h3] <;> rfl
def inRow (a a' b b' c c':Rat):Int:=zaQ a a' b b'*zaQ b b' c c'
def onR (a a' b b' p p':Rat):Bool:=decide (crs a a' b b' p p'=0)&&decide (0≤inRow a a' p p' b b')
def zbO (a a' b b' p p':Rat):Bool:=decide (crs a a' b b' p p'=0)&&decide (0<inRow a a' p p' b b')
def za3 (a a' b b' p p':Rat):Bool:=decide (crs a a' b b' p p'=0)&&decide (0<inRow a a' b b' p p')
theorem ztx (a d:Rat):a=a+d*0:=by grind
theorem zty (a b:Rat):b=a+(b - a)*1:=by grind
theorem zr1 (hab: ¬(a=b∧a'=b'))(t:Rat):inRow a a' (a+(b - a)*t) (a'+(b' - a')*t) b b'=zag 0 t*zag t 1:=by
 have h:=zqB (d:=b - a) (d':=b' - a') (fun h=>hab ⟨by grind,by grind⟩)
 have e1:=zkQ a a' (b - a) (b' - a') 0 t
 have e2:=zkQ a a' (b - a) (b' - a') t 1
 rw[←ztx,←ztx]at e1
 rw[←zty,←zty]at e2
 unfold inRow
 rw[e1,e2]
 generalize zaQ (b - a) (b' - a') 0 0=S at h
 rw[show S*zag 0 t*(S*zag t 1)=S*S*(zag 0 t*zag t 1) by grind,h,Int.one_mul]
theorem zom:inRow a a' p p' a a'= -(zaQ a a' p p'*zaQ a a' p p'):=by
 unfold inRow
 rw[zla a a' p p'];grind
def zbr (a b r:Rat):Bool:=(decide (zag a r≤0)&&decide (zag r b≤0))||(decide (zag b r≤0)&&decide (zag r a≤0))
theorem zuw (t:Rat): ¬(0≤zag 0 t∧0≤zag t 1):=by
 rintro⟨h1,h2⟩
 have h3: ¬(0:Rat)<t:=zmN.1 (decide_eq_true h1)
 have h4: ¬t<1:=zmN.1 (decide_eq_true h2)
 grind
theorem tri (a b:Rat):zag a b= -1∨zag a b=0∨zag a b=1:=by have:=zdn a b;omega
theorem zhu (t:Rat):zbr a b (a+(b - a)*t)=(decide (zag (b - a) 0=0)||decide (0≤zag 0 t*zag t 1)):=by
 have e1:=zdT a (b - a) 0 t
 have e2:=zdT a (b - a) t 1
 have e3:=zdT a (b - a) 1 t
 have e4:=zdT a (b - a) t 0
 rw[←ztx]at e1 e4
 rw[←zty]at e2 e3
 unfold zbr
 rw[e1,e2,e3,e4,zdS t 1,zdS 0 t]
 have h:=zuw t
 rcases tri (b - a) 0 with h1|h1|h1 <;> rcases tri 0 t with h2|h2|h2 <;> rcases tri t 1 with h3|h3|h3 <;> rw[h1,h2,h3]at* <;> first|decide|(exfalso;omega)
theorem ziw:(decide (crs a a' b b' p p'=0)&&(zbr a b p&&zbr a' b' p'))=onR a a' b b' p p':=by
 unfold onR
 by_cases hc:crs a a' b b' p p'=0
 ·rw[decide_eq_true hc,Bool.true_and,Bool.true_and]
  by_cases hab:a=b∧a'=b'
  ·obtain⟨rfl,rfl⟩:=hab
   rw[zom]
   have h1:∀x y:Rat,zbr x x y=decide (zag x y=0):=fun x y=>by
    unfold zbr
    rw[zdS x y]
    rcases tri x y with h|h|h <;> rw[h] <;> decide
   rw[h1,h1]
   unfold zaQ
   rcases tri a p with h|h|h <;> rcases tri a' p' with h'|h'|h' <;> rw[h,h'] <;> decide
  ·obtain⟨t,rfl,rfl⟩:=zjy hc hab
   rw[zr1 hab,zhu,zhu]
   have h3: ¬(zag (b - a) 0=0∧zag (b' - a') 0=0):=fun h=>hab ⟨by have:=zcE.1 h.1;grind,by have:=zcE.1 h.2;grind⟩
   by_cases h4:zag (b - a) 0=0 <;> by_cases h5:zag (b' - a') 0=0 <;> simp[h4,h5] <;> exact absurd ⟨h4,h5⟩ h3
 ·rw[decide_eq_false hc];rfl
theorem zf7:(onR a a' b b' p p'&&(!decide (zaQ a a' p p'=0)&& !decide (zaQ b b' p p'=0)))=zbO a a' b b' p p':=by
 unfold onR zbO inRow
 rw[zla p p' b b']
 have h1:=zcA a a' p p'
 have h2:=zcA p p' b b'
 by_cases hc:crs a a' b b' p p'=0
 ·rw[decide_eq_true hc,Bool.true_and,Bool.true_and]
  have h1:zaQ a a' p p'= -1∨zaQ a a' p p'=0∨zaQ a a' p p'=1:=by omega
  have h2:zaQ p p' b b'= -1∨zaQ p p' b b'=0∨zaQ p p' b b'=1:=by omega
  rcases h1 with h1|h1|h1 <;> rcases h2 with h2|h2|h2 <;> rw[h1,h2] <;> decide
 ·rw[decide_eq_false hc];rfl
theorem zkR:crs a a' p p' b b'= -crs a a' b b' p p':=by unfold crs;grind
theorem zr2:crs b b' p p' a a'=crs a a' b b' p p':=by unfold crs;grind
theorem zqC:crs b b' a a' p p'= -crs a a' b b' p p':=by unfold crs;grind
theorem ztz:crs a a' a a' p p'=0:=by unfold crs;grind
theorem zfJ {q:Rat}: -q=0↔q=0:=by constructor <;> intro h <;> grind
theorem zey:((!decide (zaQ a a' b b'=0)&& !decide (zaQ b b' p p'=0))&&onR a a' p p' b b')=za3 a a' b b' p p':=by
 unfold onR za3 inRow
 rw[zkR]
 have h1:=zcA a a' b b'
 have h2:=zcA b b' p p'
 by_cases hc:crs a a' b b' p p'=0
 ·rw[decide_eq_true hc,decide_eq_true (zfJ.2 hc),Bool.true_and,Bool.true_and]
  have h1:zaQ a a' b b'= -1∨zaQ a a' b b'=0∨zaQ a a' b b'=1:=by omega
  have h2:zaQ b b' p p'= -1∨zaQ b b' p p'=0∨zaQ b b' p p'=1:=by omega
  rcases h1 with h1|h1|h1 <;> rcases h2 with h2|h2|h2 <;> rw[h1,h2] <;> decide
 ·rw[decide_eq_false hc,decide_eq_false (fun h=>hc (zfJ.1 h))];simp
end
abbrev QQ:=Rat×Rat
def cz (x y z:QQ):Rat:=crs x.1 x.2 y.1 y.2 z.1 z.2
def zbQ (l:List QQ):Prop:=∀x∈l,∀y∈l,∀z∈l,cz x y z=0
theorem zmU {x y z:QQ}(h:cz x y z=0):cz x z y=0:=by unfold cz at *; rw[zkR,h];rfl
theorem zmV {x y z:QQ}(h:cz x y z=0):cz y x z=0:=by unfold cz at *; rw[zqC,h];rfl
theorem zf8 {x y z:QQ}(h:cz x y z=0):cz y z x=0:=by unfold cz at *; rw[zr2,h]
theorem zgO (x z:QQ):cz x x z=0:=ztz
theorem zhv (x z:QQ):cz x z x=0:=zmU (zgO x z)
theorem zhw (x z:QQ):cz z x x=0:=zf8 (zf8 (zgO x z))
theorem zon {l:List QQ}:(∀(j k i:Nat) (hi:i<l.length),(hjk:j<k)→(hki:k<i)→cz (l[j]'(by omega)) (l[k]'(by omega)) l[i]=0)↔zbQ l:=by
 constructor
 ·intro h x hx y hy z hz
  obtain⟨i,hi,rfl⟩:=List.mem_iff_getElem.1 hx
  obtain⟨j,hj,rfl⟩:=List.mem_iff_getElem.1 hy
  obtain⟨k,hk,rfl⟩:=List.mem_iff_getElem.1 hz
  rcases Nat.lt_trichotomy i j with a1|rfl|a1
  ·rcases Nat.lt_trichotomy j k with a2|rfl|a2
   ·exact h i j k hk a1 a2
   ·exact zhw _ _
   ·rcases Nat.lt_trichotomy i k with a3|rfl|a3
    ·exact zmU (h i k j hj a3 a2)
    ·exact zhv _ _
    ·exact zf8 (h k i j hj a3 a1)
  ·exact zgO _ _
  ·rcases Nat.lt_trichotomy i k with a2|rfl|a2
   ·exact zmV (h j i k hk a1 a2)
   ·exact zhv _ _
   ·rcases Nat.lt_trichotomy j k with a3|rfl|a3
    ·exact zf8 (zf8 (h j k i hi a3 a2))
    ·exact zhw _ _
    ·exact zmV (zf8 (h k j i hi a3 a1))
 ·intro h j k i hi hjk hki
  exact h _ (List.getElem_mem _) _ (List.getElem_mem _) _ (List.getElem_mem _)
theorem ztA (a a' d d' r s t:Rat):cz (a+d*r,a'+d'*r) (a+d*s,a'+d'*s) (a+d*t,a'+d'*t)=0:=by
 simp only[cz,crs];grind
theorem zoo {l:List QQ}{a a' d d':Rat}(h:∀x∈l,∃t,x=(a+d*t,a'+d'*t)):zbQ l:=by
 intro x hx y hy z hz
 obtain⟨r,rfl⟩:=h x hx
 obtain⟨s,rfl⟩:=h y hy
 obtain⟨t,rfl⟩:=h z hz
 exact ztA ..
theorem zr3 {x y u v w:QQ}(hxy:x≠y)(hu:cz x y u=0)(hv:cz x y v=0)(huv:u≠v)(h:cz u v w=0):cz x y w=0:=by
 have hne: ¬(x.1=y.1∧x.2=y.2):=fun h=>hxy (Prod.ext h.1 h.2)
 obtain⟨r,hr,hr'⟩:=zjy hu hne
 obtain⟨s,hs,hs'⟩:=zjy hv hne
 have hrs:s - r≠0:=fun h0=>huv (Prod.ext (by rw[hr,hs,show s=r by grind]) (by rw[hr',hs',show s=r by grind]))
 unfold cz at h ⊢
 rw[hr,hr',hs,hs']at h
 have h2:(s - r)*crs x.1 x.2 y.1 y.2 w.1 w.2=0:=by unfold crs at h ⊢;grind
 rcases zex h2 with h3|h3
 ·exact absurd h3 hrs
 ·exact h3
theorem zma {l:List QQ}(hne:∀i (h:i+1<l.length),l[i]≠l[i+1])(hc:∀i (h:i+2<l.length),cz l[i] l[i+1] l[i+2]=0):zbQ l:=by
 rcases zu7 l.length 2 with h2|h2
 ·intro x hx y hy z hz
  obtain⟨i,hi,rfl⟩:=List.mem_iff_getElem.1 hx
  obtain⟨j,hj,rfl⟩:=List.mem_iff_getElem.1 hy
  obtain rfl:i=j:=by omega
  exact zgO _ _
 ·have key:∀i (h:i<l.length),cz (l[0]'(by omega)) (l[1]'(by omega)) l[i]=0:=by
   intro i
   induction i using Nat.strongRecOn with
   |_ i ih=>
    intro h
    match i,ih,h with
    |0,_,_=>exact zhv _ _
    |1,_,_=>exact zhw _ _
    |k+2,ih,h=>exact zr3 (hne 0 (by omega)) (ih k (by omega) (by omega)) (ih (k+1) (by omega) (by omega)) (hne k (by omega)) (hc k h)
  have hne0:=hne 0 (by omega)
  have hn: ¬((l[0]'(by omega)).1=(l[1]'(by omega)).1∧(l[0]'(by omega)).2=(l[1]'(by omega)).2):=fun h=>hne0 (Prod.ext h.1 h.2)
  refine zoo (a:=(l[0]'(by omega)).1) (a':=(l[0]'(by omega)).2) (d:=(l[1]'(by omega)).1 - (l[0]'(by omega)).1) (d':=(l[1]'(by omega)).2 - (l[0]'(by omega)).2) fun x hx=>?_
  obtain⟨i,hi,rfl⟩:=List.mem_iff_getElem.1 hx
  obtain⟨t,h1,h2⟩:=zjy (key i hi) hn
  exact⟨t,Prod.ext h1 h2⟩
theorem zop {l r:List QQ}(h:∀x,x∈l↔x∈r):zbQ l↔zbQ r:=
 ⟨fun hl x hx y hy z hz=>hl x ((h x).2 hx) y ((h y).2 hy) z ((h z).2 hz),fun hl x hx y hy z hz=>hl x ((h x).1 hx) y ((h y).1 hy) z ((h z).1 hz)⟩
section
variable {n m:Int}
theorem ztB (h:decide (n<m)=true): -1=zb9 n m:=by unfold zb9;rw[if_pos (of_decide_eq_true h)]
theorem ztC (h:decide (n<m)=false)(h':decide (m<n)=true):1=zb9 n m:=by unfold zb9;rw[if_neg (of_decide_eq_false h),if_pos (of_decide_eq_true h')]
theorem ztD (h:decide (n<m)=false)(h':decide (m<n)=false):0=zb9 n m:=by unfold zb9;rw[if_neg (of_decide_eq_false h),if_neg (of_decide_eq_false h')]
theorem zqD {x y:Int}(h: -1≤x∧x≤1)(h': -1≤y∧y≤1):Inr (x*y):=by
 have h1:x= -1∨x=0∨x=1:=by omega
 have h2:y= -1∨y=0∨y=1:=by omega
 unfold Inr
 rcases h1 with rfl|rfl|rfl <;> rcases h2 with rfl|rfl|rfl <;> decide
theorem zd8 (a b c d:Rat):Inr (zag a b*zag c d):=zqD (zdn _ _) (zdn _ _)
theorem ztE (a b c d e f g h:Rat):Inr (zaQ a b c d*zaQ e f g h):=zqD (zcA _ _ _ _) (zcA _ _ _ _)
variable {q1 q1' q2 q2' q3 q3':Rat}
theorem zdz {q:Rat}:decide (zag q 0=0)=decide (q=0):=decide_eq_decide.2 zcW
theorem zux (h:decide (zag (crs q1 q1' q2 q2' q3 q3') 0=0)=true):decide (0≤inRow q1 q1' q3 q3' q2 q2')=onR q1 q1' q2 q2' q3 q3':=by rw[zdz]at h;unfold onR;rw[h];rfl
theorem zqE (h:decide (zag (crs q1 q1' q2 q2' q3 q3') 0=0)=false):false=onR q1 q1' q2 q2' q3 q3':=by rw[zdz]at h;unfold onR;rw[h];rfl
theorem zoq (h:decide (zag (crs q1 q1' q2 q2' q3 q3') 0=0)=true):decide (0<inRow q1 q1' q3 q3' q2 q2')=zbO q1 q1' q2 q2' q3 q3':=by rw[zdz]at h;unfold zbO;rw[h];rfl
theorem zor (h:decide (zag (crs q1 q1' q2 q2' q3 q3') 0=0)=false):false=zbO q1 q1' q2 q2' q3 q3':=by rw[zdz]at h;unfold zbO;rw[h];rfl
theorem zkS (h:decide (zag (crs q1 q1' q2 q2' q3 q3') 0=0)=true):decide (0<inRow q1 q1' q2 q2' q3 q3')=za3 q1 q1' q2 q2' q3 q3':=by rw[zdz]at h;unfold za3;rw[h];rfl
theorem zkT (h:decide (zag (crs q1 q1' q2 q2' q3 q3') 0=0)=false):false=za3 q1 q1' q2 q2' q3 q3':=by rw[zdz]at h;unfold za3;rw[h];rfl
def zaY (a b r:Rat):Bool:=decide (zag a r≤0)&&decide (zag r b≤0)
theorem zhx {a b r:Rat}(h:decide (zag a r≤0)=true):decide (zag r b≤0)=zaY a b r:=by unfold zaY;rw[h];rfl
theorem zhy {a b r:Rat}(h:decide (zag a r≤0)=false):false=zaY a b r:=by unfold zaY;rw[h];rfl
end
section
variable {a:Act}{V:World}{o:Oper}{t1:Tmp}{g:Nat}
theorem za9 {U:TypeId}{off:Nat}{cs:List Value}{b b':Bool}{x y x' y':Num}(ho:o.op= .load 29 (.tmp t1)) (h:a.tmps.getD t1 undef= .pointer (some ⟨g,off,none⟩)) (hb:V.heap[g]?=some (.cells cs.toArray U (0,0))) (hv:(cs.drop off).take 6=[.bool b,.slice x.A x.n x.c,.slice y.A y.n y.c,.bool b',.slice x'.A x'.n x'.c,.slice y'.A y'.n y'.c]):
  (execOp a.eval o).run Tryz.prog V= .ok (.value (.agg #[.bool b,.slice x.A x.n x.c,.slice y.A y.n y.c,.bool b',.slice x'.A x'.n x'.c,.slice y'.A y'.n y'.c])) V:=
 zak ho h hb Tryz.underlying29 rfl (vs:=[.bool b,.slice x.A x.n x.c,.slice y.A y.n y.c,.bool b',.slice x'.A x'.n x'.c,.slice y'.A y'.n y'.c]) zba hv
theorem lp {n:Nat}{ls:List (Tmp×Value)}{lb:List Bx}{w V:World}{e:List Num}{a:Act}{o:Oper}{t t1:Tmp}{ops:Array Oper}{Q:Exit→Act→World→Prop}{rest:List Oper}{U:TypeId}{g off:Nat}{cs:List Value}{b b':Bool}{x y x' y':Num}(S:Frm n ls lb w e a V)(i j:Nat)
 (k:∀a,Frm n ((t,aP b x y b' x' y')::ls) lb w e a V→wpList Tryz.prog ops Q rest a V) (ho:o.op= .load 29 (.tmp t1):=by exact rfl) (hi:ls[i]?=some (t1,.pointer (some ⟨g,off,none⟩)):=by exact rfl) (hb:lb[j]?=some ⟨g,U,cs⟩:=by exact rfl) (hv:(cs.drop off).take 6=lP b x y b' x' y':=by exact rfl)
 (hg:o.guard=none:=by exact rfl) (hd:o.dst=some t:=by exact rfl) (ht:t<n:=by decide) (hl:zf3 t ls=true:=by exact rfl):wpList Tryz.prog ops Q (o::rest) a V:=tv S (za9 ho (S.at i hi) (S.bx j hb) hv) k hg hd ht hl
theorem zaX {U:TypeId}{off:Nat}{cs:List Value}{b:Bool}{x y:Num}(ho:o.op= .load 27 (.tmp t1)) (h:a.tmps.getD t1 undef= .pointer (some ⟨g,off,none⟩)) (hb:V.heap[g]?=some (.cells cs.toArray U (0,0))) (hv:(cs.drop off).take 3=[.bool b,.slice x.A x.n x.c,.slice y.A y.n y.c]):
  (execOp a.eval o).run Tryz.prog V= .ok (.value (.agg #[.bool b,.slice x.A x.n x.c,.slice y.A y.n y.c])) V:=
 zak ho h hb Tryz.underlying27 rfl (vs:=[.bool b,.slice x.A x.n x.c,.slice y.A y.n y.c]) zas hv
theorem zqF (ho:o.op= .indexAddr 62 (.tmp t1) (.const (.int .i64 0))) (h1:a.tmps.getD t1 undef= .pointer (some ⟨g,0,none⟩)):(execOp a.eval o).run Tryz.prog V= .ok (.value (.pointer (some ⟨g,0,none⟩))) V:=by
 rw[zaf]at h1
 obtain⟨dst,op,ty,pos,after,guard⟩:=o
 simp only at ho
 subst ho
 go_simp
theorem zqG (ho:o.op= .indexAddr 62 (.tmp t1) (.const (.int .i64 1))) (h1:a.tmps.getD t1 undef= .pointer (some ⟨g,0,none⟩)):(execOp a.eval o).run Tryz.prog V= .ok (.value (.pointer (some ⟨g,6,none⟩))) V:=by
 rw[zaf]at h1
 obtain⟨dst,op,ty,pos,after,guard⟩:=o
 simp only at ho
 subst ho
 go_simp
theorem zqH (ho:o.op= .indexAddr 62 (.tmp t1) (.const (.int .i64 2))) (h1:a.tmps.getD t1 undef= .pointer (some ⟨g,0,none⟩)):(execOp a.eval o).run Tryz.prog V= .ok (.value (.pointer (some ⟨g,12,none⟩))) V:=by
 rw[zaf]at h1
 obtain⟨dst,op,ty,pos,after,guard⟩:=o
 simp only at ho
 subst ho
 go_simp
end
theorem zix {n:Int}{V:World}:
  Calls Tryz.prog 61 #[.int .i64 n] V (zaj V (fun v _=>v= .bool false)):=by
 refine fb Tryz.func61 Tryz.ntmps61 zaC (fun a S=>?_)
 refine wsp fun K1 hK1=>?_
 refine ac S fun a S=>?_
 refine hK1 _ _ ?_
 refine wsp fun K2 hK2=>?_
 refine mv S 1 fun a S=>?_
 refine mv S 2 fun a S=>?_
 refine tv S (zaN (zd6 _ (by decide) rfl (S.at 1 rfl) (S.at 0 rfl)) (show(!decide (n=n))=false from(by simp))) fun a S=>?_
 refine zav S (v:= .bool false) (zac rfl (S.at 0 rfl)) rfl rfl (by decide) (ls':=[(5,.bool false),(4,.int .i64 n),(3,.int .i64 n),(0,.int .i64 n)]) rfl (fun a S=>?_)
 refine hK2 _ _ ?_
 refine wp_ret ?_
 exact zao rfl S (S.at 0 rfl) ⟨_,rfl,rfl,S.below⟩
theorem zqI {n m:Int}{V:World}:
  Calls Tryz.prog 36 #[.int .i64 n,.int .i64 m] V (zaj V (fun v _=>v= .int .i64 (zb9 n m))):=by
 refine fb Tryz.func36 Tryz.ntmps36 zaC (fun a S=>?_)
 refine wsp fun K1 hK1=>?_
 refine ac S fun a S=>?_
 refine hK1 _ _ ?_
 refine wsp fun K2 hK2=>?_
 refine mv S 1 fun a S=>?_
 refine tc S (rc1 Tryz.func61 (S.at 0 rfl)) (zix (n:=n)) fun v a V1 hF hb S=>?_
 subst hF
 refine tv S (zac rfl (S.at 0 rfl)) fun a S=>?_
 refine hK2 _ _ ?_
 refine wsp fun K3 hK3=>?_
 refine mv S 5 fun a S=>?_
 refine tc S (rc1 Tryz.func61 (S.at 0 rfl)) (zix (n:=m)) fun v a V2 hF hb S=>?_
 subst hF
 refine tv S (zac rfl (S.at 0 rfl)) fun a S=>?_
 refine hK3 _ _ ?_
 refine wp_seq_k fun K4 hK4=>?_
 refine wsp fun K5 hK5=>?_
 refine mv S 3 fun a S=>?_
 refine hK5 _ _ ?_
 refine wp_cond_false (S.at 0 rfl) ?_
 refine wp_skip ?_
 refine hK4 _ _ ?_
 refine wp_seq_k fun K6 hK6=>?_
 refine wsp fun K7 hK7=>?_
 refine mv S 1 fun a S=>?_
 refine hK7 _ _ ?_
 refine wp_cond_false (S.at 0 rfl) ?_
 refine wp_skip ?_
 refine hK6 _ _ ?_
 refine wp_seq_k fun K8 hK8=>?_
 refine wsp fun K9 hK9=>?_
 refine mv S 9 fun a S=>?_
 refine mv S 11 fun a S=>?_
 refine tv S (zb7 rfl (S.at 1 rfl) (S.at 0 rfl)) fun a S=>?_
 refine hK9 _ _ ?_
 rcases zva (decide (n<m))with hc16|hc16
 ·refine wp_cond_true ((S.at 0 rfl).trans (congrArg Value.bool hc16)) ?_
  refine wp_seq_k fun K10 hK10=>?_
  have S:=S.keep [4] (ls':=[(4,.int .i64 0)]) rfl
  refine zam ?_
  refine zav S (v:= .int .i64 (-1)) (zcx rfl) rfl rfl (by decide) (ls':=[]) rfl (fun a S=>?_)
  refine hK10 _ _ ?_
  refine wp_ret ?_
  exact zao rfl S (S.at 0 rfl) ⟨_,rfl,congrArg (Value.int .i64) (ztB hc16),S.below⟩
 ·refine wp_cond_false ((S.at 0 rfl).trans (congrArg Value.bool hc16)) ?_
  refine wp_skip ?_
  refine hK8 _ _ ?_
  refine wp_seq_k fun K11 hK11=>?_
  refine wp_seq_k fun K12 hK12=>?_
  have S:=S.keep [0,1] (ls':=[(0,.int .i64 n),(1,.int .i64 m)]) rfl
  refine zam ?_
  refine mv S 0 fun a S=>?_
  refine mv S 2 fun a S=>?_
  refine tv S (zb8 rfl (S.at 1 rfl) (S.at 0 rfl)) fun a S=>?_
  refine hK12 _ _ ?_
  rcases zva (decide (m<n))with hc19|hc19
  ·refine wp_cond_true ((S.at 0 rfl).trans (congrArg Value.bool hc19)) ?_
   refine wsp fun K13 hK13=>?_
   refine ac S fun a S=>?_
   refine hK13 _ _ ?_
   refine wp_ret ?_
   exact zao rfl S (S.at 0 rfl) ⟨_,rfl,congrArg (Value.int .i64) (ztC hc16 hc19),S.below⟩
  ·refine wp_cond_false ((S.at 0 rfl).trans (congrArg Value.bool hc19)) ?_
   refine wp_skip ?_
   refine hK11 _ _ ?_
   refine wsp fun K14 hK14=>?_
   refine ac S fun a S=>?_
   refine hK14 _ _ ?_
   refine wp_ret ?_
   exact zao rfl S (S.at 0 rfl) ⟨_,rfl,congrArg (Value.int .i64) (ztD hc16 hc19),S.below⟩
theorem zmW {K K':Nat}{q1 q1' q2 q2':Rat}{v1 v2:Value}{V:World}(T:TT V)(h1:P1 K (q1) (q1') v1 V)(h2:P1 K' (q2) (q2') v2 V)(hK0:K≤400)(hK1:K'≤400):
  Calls Tryz.prog 35 #[v1,v2] V (zaj V (fun v _=>v= .tuple #[.int .i64 (zag q2 q1),.int .i64 (zag q2' q1')])):=by
 obtain⟨b1,x1,y1,b2,x2,y2,rfl,hq1,hq2,⟨hk1,hk2⟩,⟨hk3,hk4⟩,⟨ok1,ok2⟩,ok3,ok4⟩:=h1
 obtain⟨b3,x3,y3,b4,x4,y4,rfl,hq3,hq4,⟨hk5,hk6⟩,⟨hk7,hk8⟩,⟨ok5,ok6⟩,ok7,ok8⟩:=h2
 have hp0:=fun {V':World}=>p1m (V:=V') hq1 hq2 hk1 hk2 hk3 hk4
 have hp1:=fun {V':World}=>p1m (V:=V') hq3 hq4 hk5 hk6 hk7 hk8
 refine fb Tryz.func35 Tryz.ntmps35 (zaa ok5 (zaa ok6 (zaa ok7 (zaa ok8 (zaa ok1 (zaa ok2 (zaa ok3 (zaa ok4 zaC)))))))) (fun a S=>?_)
 refine wsp fun K1 hK1=>?_
 refine tb S 0 (lP b1 x1 y1 b2 x2 y2) fun g1 a V1 hgg1 S=>?_
 refine tb S 2 (lP b3 x3 y3 b4 x4 y4) fun g2 a V2 hgg2 S=>?_
 refine ac S fun a S=>?_
 refine ac S fun a S=>?_
 refine hK1 _ _ ?_
 refine wp_seq_k fun K2 hK2=>?_
 have S:=S.keep [5,4,3,2] (ls':=[(5,.int .i64 0),(4,.int .i64 0),(3,pT g2 0),(2,pT g1 0)]) rfl
 obtain⟨W1,hW1⟩:∃W,W=V2:=⟨_,rfl⟩
 rw[←hW1]at S ⊢
 have S0:=S
 refine fr 10 [6,7,8,9,10,11,12,13,14,15] [IsV (pT g2 0),IsV ((aG b3 x3 y3)),IsV (pT g1 0),IsV ((aG b1 x1 y1)),IsV (.int .i64 (zag q2 q1)),IsV (pT g2 3),IsV ((aG b4 x4 y4)),IsV (pT g1 3),IsV ((aG b2 x2 y2)),IsV (.int .i64 (zag (q2') (q1')))] S ?_ ?_
 ·refine sc (fun _ _ S _ _=>sv rfl (zae rfl (S.at 2 rfl) (zaT _))) ?_
  refine sc (fun _ _ S _ hd=>sv rfl (zaX rfl (hd.v 0 rfl rfl) (S.bx 1 rfl) rfl)) ?_
  refine sc (fun _ _ S _ _=>sv rfl (zae rfl (S.at 3 rfl) (zaT _))) ?_
  refine sc (fun _ _ S _ hd=>sv rfl (zaX rfl (hd.v 2 rfl rfl) (S.bx 0 rfl) rfl)) ?_
  refine sc (fun _ _ S _ hd=>sl rfl (rc2 Tryz.func49 (hd.v 1 rfl rfl) (hd.v 3 rfl rfl)) (zgn (T.keep S.below) (q2m S 0 hq3 hk5 hk6) (q2m S 4 hq1 hk1 hk2) (by omega) (by omega))) ?_
  refine sc (fun _ _ S _ _=>sv rfl (zae rfl (S.at 2 rfl) (za8 _))) ?_
  refine sc (fun _ _ S _ hd=>sv rfl (zaX rfl (hd.v 5 rfl rfl) (S.bx 1 rfl) rfl)) ?_
  refine sc (fun _ _ S _ _=>sv rfl (zae rfl (S.at 3 rfl) (za8 _))) ?_
  refine sc (fun _ _ S _ hd=>sv rfl (zaX rfl (hd.v 7 rfl rfl) (S.bx 0 rfl) rfl)) ?_
  refine sc (fun _ _ S _ hd=>sl rfl (rc2 Tryz.func49 (hd.v 6 rfl rfl) (hd.v 8 rfl rfl)) (zgn (T.keep S.below) (q2m S 2 hq4 hk7 hk8) (q2m S 6 hq2 hk3 hk4) (by omega) (by omega))) ?_
  exact sn
 ·intro a1 V3 S hB hf
  have S:=S.add (hf.v 4 rfl rfl)
  have S:=S.add (hf.v 9 rfl rfl)
  clear hf S0
  show wpList _ _ _ [_,_] _ _
  refine zav S (v:= .int .i64 (zag q2 q1)) (zac rfl (S.at 1 rfl)) rfl rfl (by decide) (ls':=[(15,.int .i64 (zag (q2') (q1'))),(10,.int .i64 (zag q2 q1)),(5,.int .i64 0),(3,pT g2 0),(2,pT g1 0)]) rfl (fun a S=>?_)
  refine zav S (v:= .int .i64 (zag (q2') (q1'))) (zac rfl (S.at 1 rfl)) rfl rfl (by decide) (ls':=[(4,.int .i64 (zag q2 q1)),(15,.int .i64 (zag (q2') (q1'))),(10,.int .i64 (zag q2 q1)),(3,pT g2 0),(2,pT g1 0)]) rfl (fun a S=>?_)
  refine hK2 _ _ ?_
  refine wp_ret ?_
  exact zn1 rfl S (S.at 1 rfl) (S.at 0 rfl) ⟨_,rfl,rfl,S.below⟩
theorem zdG {Ka Kb Kc:Nat}{q1 q1' q2 q2' q3 q3':Rat}{v1 v2 v3:Value}{V:World}(T:TT V)(h1:P1 Ka (q1) (q1') v1 V)(h2:P1 Kb (q2) (q2') v2 V)(h3:P1 Kc (q3) (q3') v3 V)(hK1:Ka≤400)(hK2:Kb≤400)(hK3:Kc≤400)(hs0:Sm 250 (q2 - q1))(hs1:Sm 250 (q2' - q1'))(hs2:Sm 250 (q3 - q1))(hs3:Sm 250 (q3' - q1')):
  Calls Tryz.prog 10 #[v1,v2,v3] V (zaj V (fun v _=>v= .int .i64 (zag (crs q1 q1' q2 q2' q3 q3') 0))):=by
 obtain⟨b1,x1,y1,b2,x2,y2,rfl,hq1,hq2,⟨hk1,hk2⟩,⟨hk3,hk4⟩,⟨ok1,ok2⟩,ok3,ok4⟩:=h1
 obtain⟨b3,x3,y3,b4,x4,y4,rfl,hq3,hq4,⟨hk5,hk6⟩,⟨hk7,hk8⟩,⟨ok5,ok6⟩,ok7,ok8⟩:=h2
 obtain⟨b5,x5,y5,b6,x6,y6,rfl,hq5,hq6,⟨hk9,hk10⟩,⟨hk11,hk12⟩,⟨ok9,ok10⟩,ok11,ok12⟩:=h3
 have hp0:=fun {V':World}=>p1m (V:=V') hq1 hq2 hk1 hk2 hk3 hk4
 have hp1:=fun {V':World}=>p1m (V:=V') hq3 hq4 hk5 hk6 hk7 hk8
 have hp2:=fun {V':World}=>p1m (V:=V') hq5 hq6 hk9 hk10 hk11 hk12
 refine fb Tryz.func10 Tryz.ntmps10 (zaa ok9 (zaa ok10 (zaa ok11 (zaa ok12 (zaa ok5 (zaa ok6 (zaa ok7 (zaa ok8 (zaa ok1 (zaa ok2 (zaa ok3 (zaa ok4 zaC)))))))))))) (fun a S=>?_)
 refine wsp fun K1 hK1=>?_
 refine tb S 0 (lP b1 x1 y1 b2 x2 y2) fun g1 a V1 hgg1 S=>?_
 refine tb S 2 (lP b3 x3 y3 b4 x4 y4) fun g2 a V2 hgg2 S=>?_
 refine tb S 4 (lP b5 x5 y5 b6 x6 y6) fun g3 a V3 hgg3 S=>?_
 refine ac S fun a S=>?_
 refine hK1 _ _ ?_
 refine wsp fun K2 hK2=>?_
 refine lp S 3 0 fun a S=>?_
 refine lp S 3 1 fun a S=>?_
 refine tc S (rc2 Tryz.func35 (S.at 1 rfl) (S.at 0 rfl)) (zmW (T.keep S.below) (p4 S 8 hp0) (p4 S 4 hp1) (by omega) (by omega)) fun v a V4 hF hb S=>?_
 subst hF
 refine mv S 0 fun a S=>?_
 refine tv S (zbi rfl (S.at 0 rfl) rfl) fun a S=>?_
 refine tv S (zbi rfl (S.at 1 rfl) rfl) fun a S=>?_
 refine tv S (zac rfl (S.at 1 rfl)) fun a S=>?_
 refine tv S (zac rfl (S.at 1 rfl)) fun a S=>?_
 refine hK2 _ _ ?_
 refine wsp fun K3 hK3=>?_
 refine lp S 11 0 fun a S=>?_
 refine lp S 10 2 fun a S=>?_
 refine tc S (rc2 Tryz.func35 (S.at 1 rfl) (S.at 0 rfl)) (zmW (T.keep S.below) (p4 S 8 hp0) (p4 S 0 hp2) (by omega) (by omega)) fun v a V5 hF hb S=>?_
 subst hF
 refine mv S 0 fun a S=>?_
 refine tv S (zbi rfl (S.at 0 rfl) rfl) fun a S=>?_
 refine tv S (zbi rfl (S.at 1 rfl) rfl) fun a S=>?_
 refine tv S (zac rfl (S.at 1 rfl)) fun a S=>?_
 refine tv S (zac rfl (S.at 1 rfl)) fun a S=>?_
 refine hK3 _ _ ?_
 refine wp_seq_k fun K4 hK4=>?_
 refine wp_seq_k fun K5 hK5=>?_
 rcases zva (decide (zag q2 q1*zag q3' q1'=zag q2' q1'*zag q3 q1))with hs1_|hs1_
 ·skip
  have S:=S.keep [10,9,8,7,5,4,3] (ls':=[(10,.int .i64 (zag (q3') (q1'))),(9,.int .i64 (zag q3 q1)),(8,.int .i64 (zag (q2') (q1'))),(7,.int .i64 (zag q2 q1)),(5,pT g3 0),(4,pT g2 0),(3,pT g1 0)]) rfl
  refine zam ?_
  refine mv S 3 fun a S=>?_
  refine mv S 1 fun a S=>?_
  refine tv S (zdF rfl (S.at 1 rfl) (S.at 0 rfl) (zd8 _ _ _ _)) fun a S=>?_
  refine mv S 5 fun a S=>?_
  refine mv S 5 fun a S=>?_
  refine tv S (zdF rfl (S.at 1 rfl) (S.at 0 rfl) (zd8 _ _ _ _)) fun a S=>?_
  refine tv S (zaN (zd6 _ (by decide) rfl (S.at 3 rfl) (S.at 0 rfl)) (show(!decide ((zag q2 q1)*(zag (q3') (q1'))=(zag (q2') (q1'))*(zag q3 q1)))=false from(by rw[hs1_];rfl))) fun a S=>?_
  refine mv S 0 fun a S=>?_
  refine tvg S (S.at 0 rfl) (zab rfl (S.at 11 rfl)) fun a S=>?_
  refine tvg S (S.at 1 rfl) (zab rfl (S.at 9 rfl)) fun a S=>?_
  refine tvg S (S.at 2 rfl) (zdF rfl (S.at 1 rfl) (S.at 0 rfl) (zd8 _ _ _ _)) fun a S=>?_
  refine tvg S (S.at 3 rfl) (zbG _ (by decide) rfl (S.at 0 rfl) rfl) fun a S=>?_
  refine tv S (zap false rfl (S.at 4 rfl) (S.at 0 rfl)) fun a S=>?_
  refine hK5 _ _ ?_
  rcases zva (decide ((zag q2 q1)*(zag (q3') (q1'))=0))with hc35|hc35
  ·refine wp_cond_true ((S.at 0 rfl).trans (congrArg Value.bool hc35)) ?_
   refine wp_seq_k fun K6 hK6=>?_
   have S:=S.keep [10,9,8,7] (ls':=[(10,.int .i64 (zag (q3') (q1'))),(9,.int .i64 (zag q3 q1)),(8,.int .i64 (zag (q2') (q1'))),(7,.int .i64 (zag q2 q1))]) rfl
   refine zam ?_
   refine mv S 3 fun a S=>?_
   refine mv S 1 fun a S=>?_
   refine tv S (zdF rfl (S.at 1 rfl) (S.at 0 rfl) (zd8 _ _ _ _)) fun a S=>?_
   refine mv S 5 fun a S=>?_
   refine mv S 5 fun a S=>?_
   refine tv S (zdF rfl (S.at 1 rfl) (S.at 0 rfl) (zd8 _ _ _ _)) fun a S=>?_
   refine tc S (rc2 Tryz.func36 (S.at 3 rfl) (S.at 0 rfl)) (zqI (n:=(zag q2 q1)*(zag (q3') (q1'))) (m:=(zag (q2') (q1'))*(zag q3 q1))) fun v a V6 hF hb S=>?_
   subst hF
   refine tv S (zac rfl (S.at 0 rfl)) fun a S=>?_
   refine hK6 _ _ ?_
   refine wp_ret ?_
   exact zao rfl S (S.at 0 rfl) ⟨_,rfl,congrArg (Value.int .i64) (ziv (.inr (of_decide_eq_true hc35))),S.below⟩
  ·refine wp_cond_false ((S.at 0 rfl).trans (congrArg Value.bool hc35)) ?_
   refine wp_skip ?_
   refine hK4 _ _ ?_
   refine wp_seq_k fun K7 hK7=>?_
   have S:=S.keep [5,4,3] (ls':=[(5,pT g3 0),(4,pT g2 0),(3,pT g1 0)]) rfl
   obtain⟨W1,hW1⟩:∃W,W=V5:=⟨_,rfl⟩
   rw[←hW1]at S ⊢
   have S0:=S
   refine fr 8 [43,44,45,46,47,48,49,50] [IsV ((aP b3 x3 y3 b4 x4 y4)),IsV ((aP b1 x1 y1 b2 x2 y2)),PT 250 (q2 - q1) ((q2') - (q1')),IsV ((aP b5 x5 y5 b6 x6 y6)),IsV ((aP b1 x1 y1 b2 x2 y2)),PT 250 (q3 - q1) ((q3') - (q1')),QT 1001 ((q2 - q1)*((q3') - (q1')) - ((q2') - (q1'))*(q3 - q1)),IsV (.int .i64 (zag ((q2 - q1)*((q3') - (q1')) - ((q2') - (q1'))*(q3 - q1)) 0))] S ?_ ?_
   ·refine sc (fun _ _ S _ _=>sv rfl (za9 rfl (S.at 1 rfl) (S.bx 1 rfl) rfl)) ?_
    refine sc (fun _ _ S _ _=>sv rfl (za9 rfl (S.at 2 rfl) (S.bx 0 rfl) rfl)) ?_
    refine sc (fun _ _ S _ hd=>sl rfl (rc2 Tryz.func39 (hd.v 0 rfl rfl) (hd.v 1 rfl rfl)) (zbA (zuI (T.keep S.below) (p4 S 4 hp1) (p4 S 8 hp0) (by omega) (by omega)) (fun _ _ h=>h.sml (by assumption) (by assumption)))) ?_
    refine sc (fun _ _ S _ _=>sv rfl (za9 rfl (S.at 0 rfl) (S.bx 2 rfl) rfl)) ?_
    refine sc (fun _ _ S _ _=>sv rfl (za9 rfl (S.at 2 rfl) (S.bx 0 rfl) rfl)) ?_
    refine sc (fun _ _ S _ hd=>sl rfl (rc2 Tryz.func39 (hd.v 3 rfl rfl) (hd.v 4 rfl rfl)) (zbA (zuI (T.keep S.below) (p4 S 0 hp2) (p4 S 8 hp0) (by omega) (by omega)) (fun _ _ h=>h.sml (by assumption) (by assumption)))) ?_
    refine sc (fun _ _ S _ hd=>sl rfl (rc2 Tryz.func38 rfl rfl) (zsk (T.keep S.below) ((hd.r 2 rfl rfl)).any ((hd.r 5 rfl rfl)).any (by omega) (by omega))) ?_
    refine sc (fun _ _ S _ hd=>sl rfl (rc1 Tryz.func37 rfl) (zs3 (T.keep S.below) ((hd.r 6 rfl rfl)).any (by omega))) ?_
    exact sn
   ·intro a1 V7 S hB hf
    have S:=S.add (hf.v 7 rfl rfl)
    clear hf S0
    show wpList _ _ _ [_] _ _
    refine tv S (zac rfl (S.at 0 rfl)) fun a S=>?_
    refine hK7 _ _ ?_
    refine wp_ret ?_
    exact zao rfl S (S.at 0 rfl) ⟨_,rfl,rfl,S.below⟩
 ·skip
  have S:=S.keep [10,9,8,7,5,4,3] (ls':=[(10,.int .i64 (zag (q3') (q1'))),(9,.int .i64 (zag q3 q1)),(8,.int .i64 (zag (q2') (q1'))),(7,.int .i64 (zag q2 q1)),(5,pT g3 0),(4,pT g2 0),(3,pT g1 0)]) rfl
  refine zam ?_
  refine mv S 3 fun a S=>?_
  refine mv S 1 fun a S=>?_
  refine tv S (zdF rfl (S.at 1 rfl) (S.at 0 rfl) (zd8 _ _ _ _)) fun a S=>?_
  refine mv S 5 fun a S=>?_
  refine mv S 5 fun a S=>?_
  refine tv S (zdF rfl (S.at 1 rfl) (S.at 0 rfl) (zd8 _ _ _ _)) fun a S=>?_
  refine tv S (zaN (zd6 _ (by decide) rfl (S.at 3 rfl) (S.at 0 rfl)) (show(!decide ((zag q2 q1)*(zag (q3') (q1'))=(zag (q2') (q1'))*(zag q3 q1)))=true from(by rw[hs1_];rfl))) fun a S=>?_
  refine mv S 0 fun a S=>?_
  refine tk S (S.at 0 rfl) fun a S=>?_
  refine tk S (S.at 1 rfl) fun a S=>?_
  refine tk S (S.at 2 rfl) fun a S=>?_
  refine tk S (S.at 3 rfl) fun a S=>?_
  refine tv S (zap true rfl (S.at 4 rfl) rfl) fun a S=>?_
  refine hK5 _ _ ?_
  refine wp_cond_true (S.at 0 rfl) ?_
  refine wp_seq_k fun K8 hK8=>?_
  have S:=S.keep [10,9,8,7] (ls':=[(10,.int .i64 (zag (q3') (q1'))),(9,.int .i64 (zag q3 q1)),(8,.int .i64 (zag (q2') (q1'))),(7,.int .i64 (zag q2 q1))]) rfl
  refine zam ?_
  refine mv S 3 fun a S=>?_
  refine mv S 1 fun a S=>?_
  refine tv S (zdF rfl (S.at 1 rfl) (S.at 0 rfl) (zd8 _ _ _ _)) fun a S=>?_
  refine mv S 5 fun a S=>?_
  refine mv S 5 fun a S=>?_
  refine tv S (zdF rfl (S.at 1 rfl) (S.at 0 rfl) (zd8 _ _ _ _)) fun a S=>?_
  refine tc S (rc2 Tryz.func36 (S.at 3 rfl) (S.at 0 rfl)) (zqI (n:=(zag q2 q1)*(zag (q3') (q1'))) (m:=(zag (q2') (q1'))*(zag q3 q1))) fun v a V8 hF hb S=>?_
  subst hF
  refine tv S (zac rfl (S.at 0 rfl)) fun a S=>?_
  refine hK8 _ _ ?_
  refine wp_ret ?_
  exact zao rfl S (S.at 0 rfl) ⟨_,rfl,congrArg (Value.int .i64) (ziv (.inl (of_decide_eq_false hs1_))),S.below⟩
theorem zjz {Ka Kb Kc:Nat}{q1 q1' q2 q2' q3 q3':Rat}{v1 v2 v3:Value}{V:World}(T:TT V)(h1:P1 Ka (q1) (q1') v1 V)(h2:P1 Kb (q2) (q2') v2 V)(h3:P1 Kc (q3) (q3') v3 V)(hK1:Ka≤400)(hK2:Kb≤400)(hK3:Kc≤400):
  Calls Tryz.prog 44 #[v1,v2,v3] V (zaj V (fun v _=>v= .int .i64 (inRow q1 q1' q2 q2' q3 q3'))):=by
 obtain⟨b1,x1,y1,b2,x2,y2,rfl,hq1,hq2,⟨hk1,hk2⟩,⟨hk3,hk4⟩,⟨ok1,ok2⟩,ok3,ok4⟩:=h1
 obtain⟨b3,x3,y3,b4,x4,y4,rfl,hq3,hq4,⟨hk5,hk6⟩,⟨hk7,hk8⟩,⟨ok5,ok6⟩,ok7,ok8⟩:=h2
 obtain⟨b5,x5,y5,b6,x6,y6,rfl,hq5,hq6,⟨hk9,hk10⟩,⟨hk11,hk12⟩,⟨ok9,ok10⟩,ok11,ok12⟩:=h3
 have hp0:=fun {V':World}=>p1m (V:=V') hq1 hq2 hk1 hk2 hk3 hk4
 have hp1:=fun {V':World}=>p1m (V:=V') hq3 hq4 hk5 hk6 hk7 hk8
 have hp2:=fun {V':World}=>p1m (V:=V') hq5 hq6 hk9 hk10 hk11 hk12
 refine fb Tryz.func44 Tryz.ntmps44 (zaa ok9 (zaa ok10 (zaa ok11 (zaa ok12 (zaa ok5 (zaa ok6 (zaa ok7 (zaa ok8 (zaa ok1 (zaa ok2 (zaa ok3 (zaa ok4 zaC)))))))))))) (fun a S=>?_)
 refine wsp fun K1 hK1=>?_
 refine tb S 0 (lP b1 x1 y1 b2 x2 y2) fun g1 a V1 hgg1 S=>?_
 refine tb S 2 (lP b3 x3 y3 b4 x4 y4) fun g2 a V2 hgg2 S=>?_
 refine tb S 4 (lP b5 x5 y5 b6 x6 y6) fun g3 a V3 hgg3 S=>?_
 refine ac S fun a S=>?_
 refine hK1 _ _ ?_
 refine wp_seq_k fun K2 hK2=>?_
 have S:=S.keep [6,5,4,3] (ls':=[(6,.int .i64 0),(5,pT g3 0),(4,pT g2 0),(3,pT g1 0)]) rfl
 obtain⟨W1,hW1⟩:∃W,W=V3:=⟨_,rfl⟩
 rw[←hW1]at S ⊢
 have S0:=S
 refine fr 7 [7,8,9,10,11,12,13] [IsV ((aP b1 x1 y1 b2 x2 y2)),IsV ((aP b3 x3 y3 b4 x4 y4)),IsV (.int .i64 (zaQ q1 (q1') q2 (q2'))),IsV ((aP b3 x3 y3 b4 x4 y4)),IsV ((aP b5 x5 y5 b6 x6 y6)),IsV (.int .i64 (zaQ q2 (q2') q3 (q3'))),IsV (.int .i64 ((zaQ q1 (q1') q2 (q2'))*(zaQ q2 (q2') q3 (q3'))))] S ?_ ?_
 ·refine sc (fun _ _ S _ _=>sv rfl (za9 rfl (S.at 3 rfl) (S.bx 0 rfl) rfl)) ?_
  refine sc (fun _ _ S _ _=>sv rfl (za9 rfl (S.at 2 rfl) (S.bx 1 rfl) rfl)) ?_
  refine sc (fun _ _ S _ hd=>sl rfl (rc2 Tryz.func71 (hd.v 0 rfl rfl) (hd.v 1 rfl rfl)) (zuJ (T.keep S.below) (p4 S 8 hp0) (p4 S 4 hp1) (by omega) (by omega))) ?_
  refine sc (fun _ _ S _ _=>sv rfl (za9 rfl (S.at 2 rfl) (S.bx 1 rfl) rfl)) ?_
  refine sc (fun _ _ S _ _=>sv rfl (za9 rfl (S.at 1 rfl) (S.bx 2 rfl) rfl)) ?_
  refine sc (fun _ _ S _ hd=>sl rfl (rc2 Tryz.func71 (hd.v 3 rfl rfl) (hd.v 4 rfl rfl)) (zuJ (T.keep S.below) (p4 S 4 hp1) (p4 S 0 hp2) (by omega) (by omega))) ?_
  refine sc (fun _ _ _ _ hd=>sv rfl (zdF rfl (hd.v 2 rfl rfl) (hd.v 5 rfl rfl) (ztE _ _ _ _ _ _ _ _))) ?_
  exact sn
 ·intro a1 V4 S hB hf
  have S:=S.add (hf.v 6 rfl rfl)
  clear hf S0
  show wpList _ _ _ [_] _ _
  refine zav S (v:= .int .i64 ((zaQ q1 (q1') q2 (q2'))*(zaQ q2 (q2') q3 (q3')))) (zac rfl (S.at 0 rfl)) rfl rfl (by decide) (ls':=[(13,.int .i64 ((zaQ q1 (q1') q2 (q2'))*(zaQ q2 (q2') q3 (q3')))),(5,pT g3 0),(4,pT g2 0),(3,pT g1 0)]) rfl (fun a S=>?_)
  refine hK2 _ _ ?_
  refine wp_ret ?_
  exact zao rfl S (S.at 0 rfl) ⟨_,rfl,rfl,S.below⟩
theorem zuy {Ka Kb Kc:Nat}{q1 q1' q2 q2' q3 q3':Rat}{v1 v2 v3:Value}{V:World}(T:TT V)(h1:P1 Ka (q1) (q1') v1 V)(h2:P1 Kb (q2) (q2') v2 V)(h3:P1 Kc (q3) (q3') v3 V)(hK1:Ka≤400)(hK2:Kb≤400)(hK3:Kc≤400)(hs0:Sm 250 (q2 - q1))(hs1:Sm 250 (q2' - q1'))(hs2:Sm 250 (q3 - q1))(hs3:Sm 250 (q3' - q1')):
  Calls Tryz.prog 15 #[v1,v2,v3] V (zaj V (fun v _=>v= .bool (onR q1 q1' q2 q2' q3 q3'))):=by
 obtain⟨b1,x1,y1,b2,x2,y2,rfl,hq1,hq2,⟨hk1,hk2⟩,⟨hk3,hk4⟩,⟨ok1,ok2⟩,ok3,ok4⟩:=h1
 obtain⟨b3,x3,y3,b4,x4,y4,rfl,hq3,hq4,⟨hk5,hk6⟩,⟨hk7,hk8⟩,⟨ok5,ok6⟩,ok7,ok8⟩:=h2
 obtain⟨b5,x5,y5,b6,x6,y6,rfl,hq5,hq6,⟨hk9,hk10⟩,⟨hk11,hk12⟩,⟨ok9,ok10⟩,ok11,ok12⟩:=h3
 have hp0:=fun {V':World}=>p1m (V:=V') hq1 hq2 hk1 hk2 hk3 hk4
 have hp1:=fun {V':World}=>p1m (V:=V') hq3 hq4 hk5 hk6 hk7 hk8
 have hp2:=fun {V':World}=>p1m (V:=V') hq5 hq6 hk9 hk10 hk11 hk12
 refine fb Tryz.func15 Tryz.ntmps15 (zaa ok9 (zaa ok10 (zaa ok11 (zaa ok12 (zaa ok5 (zaa ok6 (zaa ok7 (zaa ok8 (zaa ok1 (zaa ok2 (zaa ok3 (zaa ok4 zaC)))))))))))) (fun a S=>?_)
 refine wsp fun K1 hK1=>?_
 refine tb S 0 (lP b1 x1 y1 b2 x2 y2) fun g1 a V1 hgg1 S=>?_
 refine tb S 2 (lP b3 x3 y3 b4 x4 y4) fun g2 a V2 hgg2 S=>?_
 refine tb S 4 (lP b5 x5 y5 b6 x6 y6) fun g3 a V3 hgg3 S=>?_
 refine ac S fun a S=>?_
 refine hK1 _ _ ?_
 refine wp_seq_k fun K2 hK2=>?_
 rcases zva (decide (zag (crs q1 q1' q2 q2' q3 q3') 0=0))with hs1_|hs1_
 ·skip
  refine zam ?_
  refine lp S 3 0 fun a S=>?_
  refine lp S 3 1 fun a S=>?_
  refine lp S 3 2 fun a S=>?_
  refine tc S (rc3 Tryz.func10 (S.at 2 rfl) (S.at 1 rfl) (S.at 0 rfl)) (zdG (T.keep S.below) (p4 S 8 hp0) (p4 S 4 hp1) (p4 S 0 hp2) (by omega) (by omega) (by omega) (by assumption) (by assumption) (by assumption) (by assumption)) fun v a V4 hF hb S=>?_
  subst hF
  refine tv S (zaN (c:=true) (zbG _ (by decide) rfl (S.at 0 rfl) rfl) hs1_) fun a S=>?_
  refine mv S 0 fun a S=>?_
  refine tvg S (S.at 0 rfl) (za9 rfl (S.at 9 rfl) (S.bx 0 rfl) rfl) fun a S=>?_
  refine tvg S (S.at 1 rfl) (za9 rfl (S.at 8 rfl) (S.bx 2 rfl) rfl) fun a S=>?_
  refine tvg S (S.at 2 rfl) (za9 rfl (S.at 10 rfl) (S.bx 1 rfl) rfl) fun a S=>?_
  refine tcg S (S.at 3 rfl) (rc3 Tryz.func44 (S.at 2 rfl) (S.at 1 rfl) (S.at 0 rfl)) (zjz (T.keep S.below) (p4 S 8 hp0) (p4 S 0 hp2) (p4 S 4 hp1) (by omega) (by omega) (by omega)) fun v a V5 hF hb S=>?_
  subst hF
  refine tvg S (S.at 4 rfl) (zte rfl (S.at 0 rfl) rfl) fun a S=>?_
  refine tv S (zap true rfl (S.at 5 rfl) (S.at 0 rfl)) fun a S=>?_
  refine zav S (v:= .bool (decide (0≤inRow q1 (q1') q3 (q3') q2 (q2')))) (zac rfl (S.at 0 rfl)) rfl rfl (by decide) (ls':=[(18,.bool (decide (0≤inRow q1 (q1') q3 (q3') q2 (q2')))),(17,.bool (decide (0≤inRow q1 (q1') q3 (q3') q2 (q2')))),(16,.int .i64 (inRow q1 (q1') q3 (q3') q2 (q2'))),(15,(aP b3 x3 y3 b4 x4 y4)),(14,(aP b5 x5 y5 b6 x6 y6)),(13,(aP b1 x1 y1 b2 x2 y2)),(12,.bool true),(11,.bool true),(10,.int .i64 (zag (crs q1 (q1') q2 (q2') q3 (q3')) 0)),(9,(aP b5 x5 y5 b6 x6 y6)),(8,(aP b3 x3 y3 b4 x4 y4)),(7,(aP b1 x1 y1 b2 x2 y2)),(5,pT g3 0),(4,pT g2 0),(3,pT g1 0),(0,(aP b1 x1 y1 b2 x2 y2)),(1,(aP b3 x3 y3 b4 x4 y4)),(2,(aP b5 x5 y5 b6 x6 y6))]) rfl (fun a S=>?_)
  refine hK2 _ _ ?_
  refine wp_ret ?_
  exact zao rfl S (S.at 0 rfl) ⟨_,rfl,congrArg Value.bool (zux hs1_),S.below⟩
 ·skip
  refine zam ?_
  refine lp S 3 0 fun a S=>?_
  refine lp S 3 1 fun a S=>?_
  refine lp S 3 2 fun a S=>?_
  refine tc S (rc3 Tryz.func10 (S.at 2 rfl) (S.at 1 rfl) (S.at 0 rfl)) (zdG (T.keep S.below) (p4 S 8 hp0) (p4 S 4 hp1) (p4 S 0 hp2) (by omega) (by omega) (by omega) (by assumption) (by assumption) (by assumption) (by assumption)) fun v a V6 hF hb S=>?_
  subst hF
  refine tv S (zaN (c:=false) (zbG _ (by decide) rfl (S.at 0 rfl) rfl) hs1_) fun a S=>?_
  refine mv S 0 fun a S=>?_
  refine tk S (S.at 0 rfl) fun a S=>?_
  refine tk S (S.at 1 rfl) fun a S=>?_
  refine tk S (S.at 2 rfl) fun a S=>?_
  refine tk S (S.at 3 rfl) fun a S=>?_
  refine tk S (S.at 4 rfl) fun a S=>?_
  refine tv S (zap false rfl (S.at 5 rfl) rfl) fun a S=>?_
  refine zav S (v:= .bool false) (zac rfl (S.at 0 rfl)) rfl rfl (by decide) (ls':=[(18,.bool false),(17,undef),(16,undef),(15,undef),(14,undef),(13,undef),(12,.bool false),(11,.bool false),(10,.int .i64 (zag (crs q1 (q1') q2 (q2') q3 (q3')) 0)),(9,(aP b5 x5 y5 b6 x6 y6)),(8,(aP b3 x3 y3 b4 x4 y4)),(7,(aP b1 x1 y1 b2 x2 y2)),(5,pT g3 0),(4,pT g2 0),(3,pT g1 0),(0,(aP b1 x1 y1 b2 x2 y2)),(1,(aP b3 x3 y3 b4 x4 y4)),(2,(aP b5 x5 y5 b6 x6 y6))]) rfl (fun a S=>?_)
  refine hK2 _ _ ?_
  refine wp_ret ?_
  exact zao rfl S (S.at 0 rfl) ⟨_,rfl,congrArg Value.bool (zqE hs1_),S.below⟩
theorem zhz {Ka Kb Kc:Nat}{q1 q1' q2 q2' q3 q3':Rat}{v1 v2 v3:Value}{V:World}(T:TT V)(h1:P1 Ka (q1) (q1') v1 V)(h2:P1 Kb (q2) (q2') v2 V)(h3:P1 Kc (q3) (q3') v3 V)(hK1:Ka≤400)(hK2:Kb≤400)(hK3:Kc≤400)(hs0:Sm 250 (q2 - q1))(hs1:Sm 250 (q2' - q1'))(hs2:Sm 250 (q3 - q1))(hs3:Sm 250 (q3' - q1')):
  Calls Tryz.prog 17 #[v1,v2,v3] V (zaj V (fun v _=>v= .bool (zbO q1 q1' q2 q2' q3 q3'))):=by
 obtain⟨b1,x1,y1,b2,x2,y2,rfl,hq1,hq2,⟨hk1,hk2⟩,⟨hk3,hk4⟩,⟨ok1,ok2⟩,ok3,ok4⟩:=h1
 obtain⟨b3,x3,y3,b4,x4,y4,rfl,hq3,hq4,⟨hk5,hk6⟩,⟨hk7,hk8⟩,⟨ok5,ok6⟩,ok7,ok8⟩:=h2
 obtain⟨b5,x5,y5,b6,x6,y6,rfl,hq5,hq6,⟨hk9,hk10⟩,⟨hk11,hk12⟩,⟨ok9,ok10⟩,ok11,ok12⟩:=h3
 have hp0:=fun {V':World}=>p1m (V:=V') hq1 hq2 hk1 hk2 hk3 hk4
 have hp1:=fun {V':World}=>p1m (V:=V') hq3 hq4 hk5 hk6 hk7 hk8
 have hp2:=fun {V':World}=>p1m (V:=V') hq5 hq6 hk9 hk10 hk11 hk12
 refine fb Tryz.func17 Tryz.ntmps17 (zaa ok9 (zaa ok10 (zaa ok11 (zaa ok12 (zaa ok5 (zaa ok6 (zaa ok7 (zaa ok8 (zaa ok1 (zaa ok2 (zaa ok3 (zaa ok4 zaC)))))))))))) (fun a S=>?_)
 refine wsp fun K1 hK1=>?_
 refine tb S 0 (lP b1 x1 y1 b2 x2 y2) fun g1 a V1 hgg1 S=>?_
 refine tb S 2 (lP b3 x3 y3 b4 x4 y4) fun g2 a V2 hgg2 S=>?_
 refine tb S 4 (lP b5 x5 y5 b6 x6 y6) fun g3 a V3 hgg3 S=>?_
 refine ac S fun a S=>?_
 refine hK1 _ _ ?_
 refine wp_seq_k fun K2 hK2=>?_
 rcases zva (decide (zag (crs q1 q1' q2 q2' q3 q3') 0=0))with hs1_|hs1_
 ·skip
  refine zam ?_
  refine lp S 3 0 fun a S=>?_
  refine lp S 3 1 fun a S=>?_
  refine lp S 3 2 fun a S=>?_
  refine tc S (rc3 Tryz.func10 (S.at 2 rfl) (S.at 1 rfl) (S.at 0 rfl)) (zdG (T.keep S.below) (p4 S 8 hp0) (p4 S 4 hp1) (p4 S 0 hp2) (by omega) (by omega) (by omega) (by assumption) (by assumption) (by assumption) (by assumption)) fun v a V4 hF hb S=>?_
  subst hF
  refine tv S (zaN (c:=true) (zbG _ (by decide) rfl (S.at 0 rfl) rfl) hs1_) fun a S=>?_
  refine mv S 0 fun a S=>?_
  refine tvg S (S.at 0 rfl) (za9 rfl (S.at 9 rfl) (S.bx 0 rfl) rfl) fun a S=>?_
  refine tvg S (S.at 1 rfl) (za9 rfl (S.at 8 rfl) (S.bx 2 rfl) rfl) fun a S=>?_
  refine tvg S (S.at 2 rfl) (za9 rfl (S.at 10 rfl) (S.bx 1 rfl) rfl) fun a S=>?_
  refine tcg S (S.at 3 rfl) (rc3 Tryz.func44 (S.at 2 rfl) (S.at 1 rfl) (S.at 0 rfl)) (zjz (T.keep S.below) (p4 S 8 hp0) (p4 S 0 hp2) (p4 S 4 hp1) (by omega) (by omega) (by omega)) fun v a V5 hF hb S=>?_
  subst hF
  refine tvg S (S.at 4 rfl) (zb8 rfl (S.at 0 rfl) rfl) fun a S=>?_
  refine tv S (zap true rfl (S.at 5 rfl) (S.at 0 rfl)) fun a S=>?_
  refine zav S (v:= .bool (decide (0<inRow q1 (q1') q3 (q3') q2 (q2')))) (zac rfl (S.at 0 rfl)) rfl rfl (by decide) (ls':=[(18,.bool (decide (0<inRow q1 (q1') q3 (q3') q2 (q2')))),(17,.bool (decide (0<inRow q1 (q1') q3 (q3') q2 (q2')))),(16,.int .i64 (inRow q1 (q1') q3 (q3') q2 (q2'))),(15,(aP b3 x3 y3 b4 x4 y4)),(14,(aP b5 x5 y5 b6 x6 y6)),(13,(aP b1 x1 y1 b2 x2 y2)),(12,.bool true),(11,.bool true),(10,.int .i64 (zag (crs q1 (q1') q2 (q2') q3 (q3')) 0)),(9,(aP b5 x5 y5 b6 x6 y6)),(8,(aP b3 x3 y3 b4 x4 y4)),(7,(aP b1 x1 y1 b2 x2 y2)),(5,pT g3 0),(4,pT g2 0),(3,pT g1 0),(0,(aP b1 x1 y1 b2 x2 y2)),(1,(aP b3 x3 y3 b4 x4 y4)),(2,(aP b5 x5 y5 b6 x6 y6))]) rfl (fun a S=>?_)
  refine hK2 _ _ ?_
  refine wp_ret ?_
  exact zao rfl S (S.at 0 rfl) ⟨_,rfl,congrArg Value.bool (zoq hs1_),S.below⟩
 ·skip
  refine zam ?_
  refine lp S 3 0 fun a S=>?_
  refine lp S 3 1 fun a S=>?_
  refine lp S 3 2 fun a S=>?_
  refine tc S (rc3 Tryz.func10 (S.at 2 rfl) (S.at 1 rfl) (S.at 0 rfl)) (zdG (T.keep S.below) (p4 S 8 hp0) (p4 S 4 hp1) (p4 S 0 hp2) (by omega) (by omega) (by omega) (by assumption) (by assumption) (by assumption) (by assumption)) fun v a V6 hF hb S=>?_
  subst hF
  refine tv S (zaN (c:=false) (zbG _ (by decide) rfl (S.at 0 rfl) rfl) hs1_) fun a S=>?_
  refine mv S 0 fun a S=>?_
  refine tk S (S.at 0 rfl) fun a S=>?_
  refine tk S (S.at 1 rfl) fun a S=>?_
  refine tk S (S.at 2 rfl) fun a S=>?_
  refine tk S (S.at 3 rfl) fun a S=>?_
  refine tk S (S.at 4 rfl) fun a S=>?_
  refine tv S (zap false rfl (S.at 5 rfl) rfl) fun a S=>?_
  refine zav S (v:= .bool false) (zac rfl (S.at 0 rfl)) rfl rfl (by decide) (ls':=[(18,.bool false),(17,undef),(16,undef),(15,undef),(14,undef),(13,undef),(12,.bool false),(11,.bool false),(10,.int .i64 (zag (crs q1 (q1') q2 (q2') q3 (q3')) 0)),(9,(aP b5 x5 y5 b6 x6 y6)),(8,(aP b3 x3 y3 b4 x4 y4)),(7,(aP b1 x1 y1 b2 x2 y2)),(5,pT g3 0),(4,pT g2 0),(3,pT g1 0),(0,(aP b1 x1 y1 b2 x2 y2)),(1,(aP b3 x3 y3 b4 x4 y4)),(2,(aP b5 x5 y5 b6 x6 y6))]) rfl (fun a S=>?_)
  refine hK2 _ _ ?_
  refine wp_ret ?_
  exact zao rfl S (S.at 0 rfl) ⟨_,rfl,congrArg Value.bool (zor hs1_),S.below⟩
theorem zfl {Ka Kb Kc:Nat}{q1 q1' q2 q2' q3 q3':Rat}{v1 v2 v3:Value}{V:World}(T:TT V)(h1:P1 Ka (q1) (q1') v1 V)(h2:P1 Kb (q2) (q2') v2 V)(h3:P1 Kc (q3) (q3') v3 V)(hK1:Ka≤400)(hK2:Kb≤400)(hK3:Kc≤400)(hs0:Sm 250 (q2 - q1))(hs1:Sm 250 (q2' - q1'))(hs2:Sm 250 (q3 - q1))(hs3:Sm 250 (q3' - q1')):
  Calls Tryz.prog 19 #[v1,v2,v3] V (zaj V (fun v _=>v= .bool (za3 q1 q1' q2 q2' q3 q3'))):=by
 obtain⟨b1,x1,y1,b2,x2,y2,rfl,hq1,hq2,⟨hk1,hk2⟩,⟨hk3,hk4⟩,⟨ok1,ok2⟩,ok3,ok4⟩:=h1
 obtain⟨b3,x3,y3,b4,x4,y4,rfl,hq3,hq4,⟨hk5,hk6⟩,⟨hk7,hk8⟩,⟨ok5,ok6⟩,ok7,ok8⟩:=h2
 obtain⟨b5,x5,y5,b6,x6,y6,rfl,hq5,hq6,⟨hk9,hk10⟩,⟨hk11,hk12⟩,⟨ok9,ok10⟩,ok11,ok12⟩:=h3
 have hp0:=fun {V':World}=>p1m (V:=V') hq1 hq2 hk1 hk2 hk3 hk4
 have hp1:=fun {V':World}=>p1m (V:=V') hq3 hq4 hk5 hk6 hk7 hk8
 have hp2:=fun {V':World}=>p1m (V:=V') hq5 hq6 hk9 hk10 hk11 hk12
 refine fb Tryz.func19 Tryz.ntmps19 (zaa ok9 (zaa ok10 (zaa ok11 (zaa ok12 (zaa ok5 (zaa ok6 (zaa ok7 (zaa ok8 (zaa ok1 (zaa ok2 (zaa ok3 (zaa ok4 zaC)))))))))))) (fun a S=>?_)
 refine wsp fun K1 hK1=>?_
 refine tb S 0 (lP b1 x1 y1 b2 x2 y2) fun g1 a V1 hgg1 S=>?_
 refine tb S 2 (lP b3 x3 y3 b4 x4 y4) fun g2 a V2 hgg2 S=>?_
 refine tb S 4 (lP b5 x5 y5 b6 x6 y6) fun g3 a V3 hgg3 S=>?_
 refine ac S fun a S=>?_
 refine hK1 _ _ ?_
 refine wp_seq_k fun K2 hK2=>?_
 rcases zva (decide (zag (crs q1 q1' q2 q2' q3 q3') 0=0))with hs1_|hs1_
 ·skip
  refine zam ?_
  refine lp S 3 0 fun a S=>?_
  refine lp S 3 1 fun a S=>?_
  refine lp S 3 2 fun a S=>?_
  refine tc S (rc3 Tryz.func10 (S.at 2 rfl) (S.at 1 rfl) (S.at 0 rfl)) (zdG (T.keep S.below) (p4 S 8 hp0) (p4 S 4 hp1) (p4 S 0 hp2) (by omega) (by omega) (by omega) (by assumption) (by assumption) (by assumption) (by assumption)) fun v a V4 hF hb S=>?_
  subst hF
  refine tv S (zaN (c:=true) (zbG _ (by decide) rfl (S.at 0 rfl) rfl) hs1_) fun a S=>?_
  refine mv S 0 fun a S=>?_
  refine tvg S (S.at 0 rfl) (za9 rfl (S.at 9 rfl) (S.bx 0 rfl) rfl) fun a S=>?_
  refine tvg S (S.at 1 rfl) (za9 rfl (S.at 9 rfl) (S.bx 1 rfl) rfl) fun a S=>?_
  refine tvg S (S.at 2 rfl) (za9 rfl (S.at 9 rfl) (S.bx 2 rfl) rfl) fun a S=>?_
  refine tcg S (S.at 3 rfl) (rc3 Tryz.func44 (S.at 2 rfl) (S.at 1 rfl) (S.at 0 rfl)) (zjz (T.keep S.below) (p4 S 8 hp0) (p4 S 4 hp1) (p4 S 0 hp2) (by omega) (by omega) (by omega)) fun v a V5 hF hb S=>?_
  subst hF
  refine tvg S (S.at 4 rfl) (zb8 rfl (S.at 0 rfl) rfl) fun a S=>?_
  refine tv S (zap true rfl (S.at 5 rfl) (S.at 0 rfl)) fun a S=>?_
  refine zav S (v:= .bool (decide (0<inRow q1 (q1') q2 (q2') q3 (q3')))) (zac rfl (S.at 0 rfl)) rfl rfl (by decide) (ls':=[(18,.bool (decide (0<inRow q1 (q1') q2 (q2') q3 (q3')))),(17,.bool (decide (0<inRow q1 (q1') q2 (q2') q3 (q3')))),(16,.int .i64 (inRow q1 (q1') q2 (q2') q3 (q3'))),(15,(aP b5 x5 y5 b6 x6 y6)),(14,(aP b3 x3 y3 b4 x4 y4)),(13,(aP b1 x1 y1 b2 x2 y2)),(12,.bool true),(11,.bool true),(10,.int .i64 (zag (crs q1 (q1') q2 (q2') q3 (q3')) 0)),(9,(aP b5 x5 y5 b6 x6 y6)),(8,(aP b3 x3 y3 b4 x4 y4)),(7,(aP b1 x1 y1 b2 x2 y2)),(5,pT g3 0),(4,pT g2 0),(3,pT g1 0),(0,(aP b1 x1 y1 b2 x2 y2)),(1,(aP b3 x3 y3 b4 x4 y4)),(2,(aP b5 x5 y5 b6 x6 y6))]) rfl (fun a S=>?_)
  refine hK2 _ _ ?_
  refine wp_ret ?_
  exact zao rfl S (S.at 0 rfl) ⟨_,rfl,congrArg Value.bool (zkS hs1_),S.below⟩
 ·skip
  refine zam ?_
  refine lp S 3 0 fun a S=>?_
  refine lp S 3 1 fun a S=>?_
  refine lp S 3 2 fun a S=>?_
  refine tc S (rc3 Tryz.func10 (S.at 2 rfl) (S.at 1 rfl) (S.at 0 rfl)) (zdG (T.keep S.below) (p4 S 8 hp0) (p4 S 4 hp1) (p4 S 0 hp2) (by omega) (by omega) (by omega) (by assumption) (by assumption) (by assumption) (by assumption)) fun v a V6 hF hb S=>?_
  subst hF
  refine tv S (zaN (c:=false) (zbG _ (by decide) rfl (S.at 0 rfl) rfl) hs1_) fun a S=>?_
  refine mv S 0 fun a S=>?_
  refine tk S (S.at 0 rfl) fun a S=>?_
  refine tk S (S.at 1 rfl) fun a S=>?_
  refine tk S (S.at 2 rfl) fun a S=>?_
  refine tk S (S.at 3 rfl) fun a S=>?_
  refine tk S (S.at 4 rfl) fun a S=>?_
  refine tv S (zap false rfl (S.at 5 rfl) rfl) fun a S=>?_
  refine zav S (v:= .bool false) (zac rfl (S.at 0 rfl)) rfl rfl (by decide) (ls':=[(18,.bool false),(17,undef),(16,undef),(15,undef),(14,undef),(13,undef),(12,.bool false),(11,.bool false),(10,.int .i64 (zag (crs q1 (q1') q2 (q2') q3 (q3')) 0)),(9,(aP b5 x5 y5 b6 x6 y6)),(8,(aP b3 x3 y3 b4 x4 y4)),(7,(aP b1 x1 y1 b2 x2 y2)),(5,pT g3 0),(4,pT g2 0),(3,pT g1 0),(0,(aP b1 x1 y1 b2 x2 y2)),(1,(aP b3 x3 y3 b4 x4 y4)),(2,(aP b5 x5 y5 b6 x6 y6))]) rfl (fun a S=>?_)
  refine hK2 _ _ ?_
  refine wp_ret ?_
  exact zao rfl S (S.at 0 rfl) ⟨_,rfl,congrArg Value.bool (zkT hs1_),S.below⟩
theorem ziy {Ka Kb Kc:Nat}{q1 q2 q3:Rat}{v1 v2 v3:Value}{V:World}(T:TT V)(h1:Q1 Ka (q1) v1 V)(h2:Q1 Kb (q2) v2 V)(h3:Q1 Kc (q3) v3 V)(hK1:Ka≤400)(hK2:Kb≤400)(hK3:Kc≤400):
  Calls Tryz.prog 23 #[v1,v2,v3] V (zaj V (fun v _=>v= .bool (zaY q1 q2 q3))):=by
 obtain⟨b1,x1,y1,rfl,hq1,hk1,hk2,ok1,ok2⟩:=h1
 obtain⟨b2,x2,y2,rfl,hq2,hk3,hk4,ok3,ok4⟩:=h2
 obtain⟨b3,x3,y3,rfl,hq3,hk5,hk6,ok5,ok6⟩:=h3
 refine fb Tryz.func23 Tryz.ntmps23 (zaa ok5 (zaa ok6 (zaa ok3 (zaa ok4 (zaa ok1 (zaa ok2 zaC)))))) (fun a S=>?_)
 refine wsp fun K1 hK1=>?_
 refine tb S 0 (aL b1 x1 y1) fun g1 a V1 hgg1 S=>?_
 refine tb S 2 (aL b2 x2 y2) fun g2 a V2 hgg2 S=>?_
 refine tb S 4 (aL b3 x3 y3) fun g3 a V3 hgg3 S=>?_
 refine ac S fun a S=>?_
 refine hK1 _ _ ?_
 refine wp_seq_k fun K2 hK2=>?_
 rcases zva (decide (zag q1 q3≤0))with hs1_|hs1_
 ·skip
  refine zam ?_
  refine tv S (zaX rfl (S.at 3 rfl) (S.bx 0 rfl) rfl) fun a S=>?_
  refine tv S (zaX rfl (S.at 2 rfl) (S.bx 2 rfl) rfl) fun a S=>?_
  refine tc S (rc2 Tryz.func49 (S.at 1 rfl) (S.at 0 rfl)) (zgn (T.keep S.below) (q2m S 4 hq1 hk1 hk2) (q2m S 0 hq3 hk5 hk6) (by omega) (by omega)) fun v a V4 hF hb S=>?_
  subst hF
  refine tv S (zaN (c:=true) (zfj rfl (S.at 0 rfl) rfl) hs1_) fun a S=>?_
  refine mv S 0 fun a S=>?_
  refine tvg S (S.at 0 rfl) (zaX rfl (S.at 6 rfl) (S.bx 2 rfl) rfl) fun a S=>?_
  refine tvg S (S.at 1 rfl) (zaX rfl (S.at 8 rfl) (S.bx 1 rfl) rfl) fun a S=>?_
  refine tcg S (S.at 2 rfl) (rc2 Tryz.func49 (S.at 1 rfl) (S.at 0 rfl)) (zgn (T.keep S.below) (q2m S 0 hq3 hk5 hk6) (q2m S 2 hq2 hk3 hk4) (by omega) (by omega)) fun v a V5 hF hb S=>?_
  subst hF
  refine tvg S (S.at 3 rfl) (zfj rfl (S.at 0 rfl) rfl) fun a S=>?_
  refine tv S (zap true rfl (S.at 4 rfl) (S.at 0 rfl)) fun a S=>?_
  refine zav S (v:= .bool (decide (zag q3 q2≤0))) (zac rfl (S.at 0 rfl)) rfl rfl (by decide) (ls':=[(16,.bool (decide (zag q3 q2≤0))),(15,.bool (decide (zag q3 q2≤0))),(14,.int .i64 (zag q3 q2)),(13,(aG b2 x2 y2)),(12,(aG b3 x3 y3)),(11,.bool true),(10,.bool true),(9,.int .i64 (zag q1 q3)),(8,(aG b3 x3 y3)),(7,(aG b1 x1 y1)),(5,pT g3 0),(4,pT g2 0),(3,pT g1 0),(0,(aG b1 x1 y1)),(1,(aG b2 x2 y2)),(2,(aG b3 x3 y3))]) rfl (fun a S=>?_)
  refine hK2 _ _ ?_
  refine wp_ret ?_
  exact zao rfl S (S.at 0 rfl) ⟨_,rfl,congrArg Value.bool (zhx hs1_),S.below⟩
 ·skip
  refine zam ?_
  refine tv S (zaX rfl (S.at 3 rfl) (S.bx 0 rfl) rfl) fun a S=>?_
  refine tv S (zaX rfl (S.at 2 rfl) (S.bx 2 rfl) rfl) fun a S=>?_
  refine tc S (rc2 Tryz.func49 (S.at 1 rfl) (S.at 0 rfl)) (zgn (T.keep S.below) (q2m S 4 hq1 hk1 hk2) (q2m S 0 hq3 hk5 hk6) (by omega) (by omega)) fun v a V6 hF hb S=>?_
  subst hF
  refine tv S (zaN (c:=false) (zfj rfl (S.at 0 rfl) rfl) hs1_) fun a S=>?_
  refine mv S 0 fun a S=>?_
  refine tk S (S.at 0 rfl) fun a S=>?_
  refine tk S (S.at 1 rfl) fun a S=>?_
  refine tk S (S.at 2 rfl) fun a S=>?_
  refine tk S (S.at 3 rfl) fun a S=>?_
  refine tv S (zap false rfl (S.at 4 rfl) rfl) fun a S=>?_
  refine zav S (v:= .bool false) (zac rfl (S.at 0 rfl)) rfl rfl (by decide) (ls':=[(16,.bool false),(15,undef),(14,undef),(13,undef),(12,undef),(11,.bool false),(10,.bool false),(9,.int .i64 (zag q1 q3)),(8,(aG b3 x3 y3)),(7,(aG b1 x1 y1)),(5,pT g3 0),(4,pT g2 0),(3,pT g1 0),(0,(aG b1 x1 y1)),(1,(aG b2 x2 y2)),(2,(aG b3 x3 y3))]) rfl (fun a S=>?_)
  refine hK2 _ _ ?_
  refine wp_ret ?_
  exact zao rfl S (S.at 0 rfl) ⟨_,rfl,congrArg Value.bool (zhy hs1_),S.below⟩
theorem ztF {Ka Kb Kc:Nat}{q1 q1' q2 q2' q3 q3':Rat}{b1_ b1b_:Bool}{x1_ y1_ x1b_ y1b_:Num}{b2_ b2b_:Bool}{x2_ y2_ x2b_ y2b_:Num}{b3_ b3b_:Bool}{x3_ y3_ x3b_ y3b_:Num}{V:World}(T:TT V)(hq1:qOf b1_ x1_.N y1_.N=q1)(hq1':qOf b1b_ x1b_.N y1b_.N=q1')(hx1:x1_.n≤Ka)(hy1:y1_.n≤Ka)(hx1':x1b_.n≤Ka)(hy1':y1b_.n≤Ka)(ox1:x1_.ok V V.heap.size)(oy1:y1_.ok V V.heap.size)(ox1':x1b_.ok V V.heap.size)(oy1':y1b_.ok V V.heap.size)(hq2:qOf b2_ x2_.N y2_.N=q2)(hq2':qOf b2b_ x2b_.N y2b_.N=q2')(hx2:x2_.n≤Kb)(hy2:y2_.n≤Kb)(hx2':x2b_.n≤Kb)(hy2':y2b_.n≤Kb)(ox2:x2_.ok V V.heap.size)(oy2:y2_.ok V V.heap.size)(ox2':x2b_.ok V V.heap.size)(oy2':y2b_.ok V V.heap.size)(hq3:qOf b3_ x3_.N y3_.N=q3)(hq3':qOf b3b_ x3b_.N y3b_.N=q3')(hx3:x3_.n≤Kc)(hy3:y3_.n≤Kc)(hx3':x3b_.n≤Kc)(hy3':y3b_.n≤Kc)(ox3:x3_.ok V V.heap.size)(oy3:y3_.ok V V.heap.size)(ox3':x3b_.ok V V.heap.size)(oy3':y3b_.ok V V.heap.size)(hK1:Ka≤400)(hK2:Kb≤400)(hK3:Kc≤400)(hs0:Sm 250 (q2 - q1))(hs1:Sm 250 (q2' - q1'))(hs2:Sm 250 (q3 - q1))(hs3:Sm 250 (q3' - q1')):
  Calls Tryz.prog 43 #[.agg #[.bool b1_,aS x1_,aS y1_,.bool b1b_,aS x1b_,aS y1b_,.bool b2_,aS x2_,aS y2_,.bool b2b_,aS x2b_,aS y2b_,.bool b3_,aS x3_,aS y3_,.bool b3b_,aS x3b_,aS y3b_]] V (zaj V (fun v _=>v= .int .i64 (zag (crs q1 q1' q2 q2' q3 q3') 0))):=by
 refine fb Tryz.func43 Tryz.ntmps43 (zaa ox3 (zaa oy3 (zaa ox3' (zaa oy3' (zaa ox2 (zaa oy2 (zaa ox2' (zaa oy2' (zaa ox1 (zaa oy1 (zaa ox1' (zaa oy1' zaC)))))))))))) (fun a S=>?_)
 refine wsp fun K1 hK1=>?_
 refine tb S 0 [.bool b1_,aS x1_,aS y1_,.bool b1b_,aS x1b_,aS y1b_,.bool b2_,aS x2_,aS y2_,.bool b2b_,aS x2b_,aS y2b_,.bool b3_,aS x3_,aS y3_,.bool b3b_,aS x3b_,aS y3b_] fun g1 a V1 hgg1 S=>?_
 refine ac S fun a S=>?_
 refine hK1 _ _ ?_
 refine wsp fun K2 hK2=>?_
 refine tv S (zqF rfl (S.at 1 rfl)) fun a S=>?_
 refine lp S 0 0 fun a S=>?_
 refine tv S (zqG rfl (S.at 3 rfl)) fun a S=>?_
 refine lp S 0 0 fun a S=>?_
 refine tv S (zqH rfl (S.at 5 rfl)) fun a S=>?_
 refine lp S 0 0 fun a S=>?_
 refine tc S (rc3 Tryz.func10 (S.at 4 rfl) (S.at 2 rfl) (S.at 0 rfl)) (zdG (T.keep S.below) (show P1 Ka (q1) (q1') ((aP b1_ x1_ y1_ b1b_ x1b_ y1b_)) _ from⟨b1_,x1_,y1_,b1b_,x1b_,y1b_,rfl,hq1,hq1',⟨hx1,hy1⟩,⟨hx1',hy1'⟩,⟨(S.num 8 rfl),(S.num 9 rfl)⟩,(S.num 10 rfl),(S.num 11 rfl)⟩) (show P1 Kb (q2) (q2') ((aP b2_ x2_ y2_ b2b_ x2b_ y2b_)) _ from⟨b2_,x2_,y2_,b2b_,x2b_,y2b_,rfl,hq2,hq2',⟨hx2,hy2⟩,⟨hx2',hy2'⟩,⟨(S.num 4 rfl),(S.num 5 rfl)⟩,(S.num 6 rfl),(S.num 7 rfl)⟩) (show P1 Kc (q3) (q3') ((aP b3_ x3_ y3_ b3b_ x3b_ y3b_)) _ from⟨b3_,x3_,y3_,b3b_,x3b_,y3b_,rfl,hq3,hq3',⟨hx3,hy3⟩,⟨hx3',hy3'⟩,⟨(S.num 0 rfl),(S.num 1 rfl)⟩,(S.num 2 rfl),(S.num 3 rfl)⟩) (by omega) (by omega) (by omega) (by assumption) (by assumption) (by assumption) (by assumption)) fun v a V2 hF hb S=>?_
 subst hF
 refine zav S (v:= .int .i64 (zag (crs q1 (q1') q2 (q2') q3 (q3')) 0)) (zac rfl (S.at 0 rfl)) rfl rfl (by decide) (ls':=[(9,.int .i64 (zag (crs q1 (q1') q2 (q2') q3 (q3')) 0)),(8,(aP b3_ x3_ y3_ b3b_ x3b_ y3b_)),(7,pT g1 12),(6,(aP b2_ x2_ y2_ b2b_ x2b_ y2b_)),(5,pT g1 6),(4,(aP b1_ x1_ y1_ b1b_ x1b_ y1b_)),(3,pT g1 0),(1,pT g1 0),(0,.agg #[.bool b1_,aS x1_,aS y1_,.bool b1b_,aS x1b_,aS y1b_,.bool b2_,aS x2_,aS y2_,.bool b2b_,aS x2b_,aS y2b_,.bool b3_,aS x3_,aS y3_,.bool b3b_,aS x3b_,aS y3b_])]) rfl (fun a S=>?_)
 refine hK2 _ _ ?_
 refine wp_ret ?_
 exact zao rfl S (S.at 0 rfl) ⟨_,rfl,rfl,S.below⟩
end Go.Proofs.YtdeelcoipmdoiaaGreatDoor
