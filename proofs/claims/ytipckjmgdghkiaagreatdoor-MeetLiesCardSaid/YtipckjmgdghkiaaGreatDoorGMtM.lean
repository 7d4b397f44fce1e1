/- A part. -/
import Derived.Test.YtipckjmgdghkiaaGreatDoorGSidA
namespace Go.Proofs.YtipckjmgdghkiaaGreatDoor
open Go Go.RowKit
section
variable {x y z u v w p q:QQ}
def lt2 (x y:QQ):Prop:=x.1<y.1\/(x.1=y.1/\x.2<y.2)
def le2 (x y:QQ):Prop:=x.1<y.1\/(x.1=y.1/\x.2<=y.2)
theorem zbd (x:QQ):le2 x x:= .inr ⟨rfl,by grind⟩
theorem zba (h:le2 x y)(h':le2 y z):le2 x z:=by unfold le2 at *; grind
theorem zcc (h:le2 x y)(h':le2 y x):x=y:=by unfold le2 at *; exact Prod.ext (by grind) (by grind)
theorem zeS (x y:QQ):le2 x y\/le2 y x:=by unfold le2;grind
theorem zcs:lt2 x y↔le2 x y/\x≠y:=by
 unfold lt2 le2
 constructor
 ·intro h;refine⟨by grind,fun e=>?_⟩;subst e;grind
 ·rintro⟨h,hne⟩
  by_cases e:x.1=y.1/\x.2=y.2
  ·exact absurd (Prod.ext e.1 e.2) hne
  ·grind
theorem zd8: ¬lt2 x y↔le2 y x:=by unfold lt2 le2;grind
theorem zdf:za0 x.1 x.2 y.1 y.2<0↔lt2 x y:=zsY
theorem zcC:za0 x.1 x.2 y.1 y.2=0↔x=y:=zeP.trans ⟨fun h=>Prod.ext h.1 h.2,fun h=>by rw[h];exact⟨rfl,rfl⟩⟩
theorem zg0:za0 x.1 x.2 y.1 y.2<=0↔le2 x y:=by
 rw[<-zd8,<-zdf,zeQ x.1 x.2 y.1 y.2];omega
def onS (x y p:QQ):Prop:=cz x y p=0/\((le2 x p/\le2 p y)\/(le2 y p/\le2 p x))
theorem znQ {m k:Int}(h1: -1<=m/\m<=1)(h2: -1<=k/\k<=1):0<=m*k↔(m<=0/\k<=0)\/(0<=m/\0<=k):=by
 rcases(by omega:m= -1\/m=0\/m=1)with rfl|rfl|rfl <;> rcases(by omega:k= -1\/k=0\/k=1)with rfl|rfl|rfl <;> decide
theorem zmJ:onR x.1 x.2 y.1 y.2 p.1 p.2=true↔onS x y p:=by
 unfold onR onS
 rw[Bool.and_eq_true,decide_eq_true_eq,decide_eq_true_eq]
 refine and_congr Iff.rfl ?_
 unfold zgQ
 rw[znQ (zdA _ _ _ _) (zdA _ _ _ _),zg0,zg0]
 refine or_congr Iff.rfl ?_
 rw[<-zg0 (x:=y),<-zg0 (x:=p) (y:=x),zeQ p.1 p.2 y.1 y.2,zeQ x.1 x.2 p.1 p.2]
 omega
theorem zkl:onS y x p↔onS x y p:=by
 unfold onS
 exact and_congr ⟨zni,zni⟩ ⟨Or.symm,Or.symm⟩
theorem zfj (x y:QQ):onS x y x:=⟨zdy x y,(zeS x y).elim (fun h=> .inl ⟨zbd x,h⟩) (fun h=> .inr ⟨h,zbd x⟩)⟩
theorem zhm (x y:QQ):onS x y y:=zkl.1 (zfj y x)
theorem zcY:onS x x p↔p=x:=⟨fun h=>h.2.elim (fun h=>zcc h.2 h.1) (fun h=>zcc h.2 h.1),fun h=>by rw[h];exact zfj x x⟩
theorem zfo (h:lt2 x y):onS x y p↔cz x y p=0/\le2 x p/\le2 p y:=by
 unfold onS
 refine and_congr Iff.rfl ⟨fun h'=>h'.elim id (fun h2=>?_),.inl⟩
 exact absurd (zcc (zcs.1 h).1 (zba h2.1 h2.2)) (zcs.1 h).2
end
section
variable {a b c d p q x y u v w:QQ}
def den (a b c d:QQ):Rat:=(b.1 - a.1)*(d.2 - c.2) - (b.2 - a.2)*(d.1 - c.1)
def zbE (a b c d p:QQ):Prop:=onS a b p/\onS c d p
theorem zdg (hab:a≠b)(h:cz a b p=0):∃t,p=(a.1+(b.1 - a.1)*t,a.2+(b.2 - a.2)*t):=by
 obtain⟨t,h1,h2⟩:=zhQ h (fun e=>hab (Prod.ext e.1 e.2))
 exact⟨t,Prod.ext h1 h2⟩
theorem zmK (hab:a≠b)(hu:cz a b u=0)(hv:cz a b v=0)(hw:cz a b w=0):cz u v w=0:=by
 obtain⟨r,rfl⟩:=zdg hab hu
 obtain⟨s,rfl⟩:=zdg hab hv
 obtain⟨t,rfl⟩:=zdg hab hw
 exact zuq _ _ _ _ r s t
theorem zjb (h:den a b c d≠0):a≠b/\c≠d:=by
 refine⟨fun e=>h ?_,fun e=>h ?_⟩ <;> subst e <;> unfold den <;> grind
theorem zgc (h:den a b c d≠0)(hp:cz a b p=0)(hp':cz c d p=0)(hq:cz a b q=0)(hq':cz c d q=0):p=q:=by
 obtain⟨s,rfl⟩:=zdg (zjb h).1 hp
 obtain⟨t,rfl⟩:=zdg (zjb h).1 hq
 have e:den a b c d*(s - t)=0:=by
  unfold cz crs at hp' hq';unfold den;simp only at *; grind
 have e2:s=t:=by
  rcases zdJ e with e|e
  ·exact absurd e h
  ·grind
 rw[e2]
def zdc (a b c d:QQ):QQ:=(a.1+(b.1 - a.1)*(((c.1 - a.1)*(d.2 - c.2) - (c.2 - a.2)*(d.1 - c.1))/den a b c d),a.2+(b.2 - a.2)*(((c.1 - a.1)*(d.2 - c.2) - (c.2 - a.2)*(d.1 - c.1))/den a b c d))
theorem zfI (h:den a b c d≠0):cz a b (zdc a b c d)=0/\cz c d (zdc a b c d)=0:=by
 have e:=zf4 (u:=(c.1 - a.1)*(d.2 - c.2) - (c.2 - a.2)*(d.1 - c.1)) h
 generalize ht:((c.1 - a.1)*(d.2 - c.2) - (c.2 - a.2)*(d.1 - c.1))/den a b c d=t at e
 unfold zdc;rw[ht]
 unfold den at e;unfold cz crs
 refine⟨by grind,?_⟩
 simp only
 grind
theorem zgd (h:den a b c d≠0)(hp:cz a b p=0)(hp':cz c d p=0):p=zdc a b c d:=zgc h hp hp' (zfI h).1 (zfI h).2
theorem zis (h:den a b c d=0)(hcd:c≠d)(hp:cz a b p=0)(hp':cz c d p=0):cz a b c=0/\cz a b d=0:=by
 obtain⟨s,rfl⟩:=zdg hcd hp'
 unfold den at h;unfold cz crs at *; simp only at*
 constructor <;> grind
theorem zpu:den c d a b=0↔den a b c d=0:=by unfold den;constructor <;> intro h <;> grind
theorem zhn (a b:QQ):∃l h,((l=a/\h=b)\/(l=b/\h=a))/\le2 l h/\∀p,onS a b p↔cz a b p=0/\le2 l p/\le2 p h:=by
 rcases zeS a b with h|h
 ·refine⟨a,b,.inl ⟨rfl,rfl⟩,h,fun p=>and_congr Iff.rfl ⟨fun h'=>h'.elim id fun h2=>?_,.inl⟩⟩
  have e:=zcc h (zba h2.1 h2.2)
  subst e
  exact⟨h2.1,h2.2⟩
 ·refine⟨b,a,.inr ⟨rfl,rfl⟩,h,fun p=>and_congr Iff.rfl ⟨fun h'=>h'.elim (fun h2=>?_) id,.inr⟩⟩
  have e:=zcc h (zba h2.1 h2.2)
  subst e
  exact⟨h2.1,h2.2⟩
def zc0 (a b c d e:QQ):Prop:=e=a\/e=b\/e=c\/e=d
theorem zfp (h:den a b c d=0)(hp:zbE a b c d p):∃l r,zc0 a b c d l/\zc0 a b c d r/\zbE a b c d l/\zbE a b c d r/\∀q,zbE a b c d q->le2 l q/\le2 q r:=by
 by_cases hab:a=b
 ·subst hab
  have e:=zcY.1 hp.1
  subst e
  refine⟨p,p,.inl rfl,.inl rfl,hp,hp,fun q hq=>?_⟩
  rw[zcY.1 hq.1];exact⟨zbd _,zbd _⟩
 by_cases hcd:c=d
 ·subst hcd
  have e:=zcY.1 hp.2
  subst e
  refine⟨p,p,.inr (.inr (.inl rfl)),.inr (.inr (.inl rfl)),hp,hp,fun q hq=>?_⟩
  rw[zcY.1 hq.2];exact⟨zbd _,zbd _⟩
 obtain⟨hc,hd⟩:=zis h hcd hp.1.1 hp.2.1
 obtain⟨ha,hb⟩:=zis (zpu.2 h) hab hp.2.1 hp.1.1
 obtain⟨l1,r1,e1,-,f1⟩:=zhn a b
 obtain⟨l2,r2,e2,-,f2⟩:=zhn c d
 have hla:cz a b l1=0/\cz c d l1=0/\cz a b r1=0/\cz c d r1=0/\zc0 a b c d l1/\zc0 a b c d r1:=by
  rcases e1 with⟨rfl,rfl⟩|⟨rfl,rfl⟩
  ·exact⟨zdy _ _,ha,zd4 _ _,hb,.inl rfl,.inr (.inl rfl)⟩
  ·exact⟨zd4 _ _,hb,zdy _ _,ha,.inr (.inl rfl),.inl rfl⟩
 have hlc:cz a b l2=0/\cz c d l2=0/\cz a b r2=0/\cz c d r2=0/\zc0 a b c d l2/\zc0 a b c d r2:=by
  rcases e2 with⟨rfl,rfl⟩|⟨rfl,rfl⟩
  ·exact⟨hc,zdy _ _,hd,zd4 _ _,.inr (.inr (.inl rfl)),.inr (.inr (.inr rfl))⟩
  ·exact⟨hd,zd4 _ _,hc,zdy _ _,.inr (.inr (.inr rfl)),.inr (.inr (.inl rfl))⟩
 obtain⟨-,p1,p2⟩:=(f1 p).1 hp.1
 obtain⟨-,p3,p4⟩:=(f2 p).1 hp.2
 have hL:∃l,zc0 a b c d l/\cz a b l=0/\cz c d l=0/\le2 l1 l/\le2 l2 l/\∀q,le2 l1 q->le2 l2 q->le2 l q:=by
  rcases zeS l1 l2 with k|k
  ·exact⟨l2,hlc.2.2.2.2.1,hlc.1,hlc.2.1,k,zbd _,fun q _ h=>h⟩
  ·exact⟨l1,hla.2.2.2.2.1,hla.1,hla.2.1,zbd _,k,fun q h _=>h⟩
 have hR:∃r,zc0 a b c d r/\cz a b r=0/\cz c d r=0/\le2 r r1/\le2 r r2/\∀q,le2 q r1->le2 q r2->le2 q r:=by
  rcases zeS r1 r2 with k|k
  ·exact⟨r1,hla.2.2.2.2.2,hla.2.2.1,hla.2.2.2.1,zbd _,k,fun q h _=>h⟩
  ·exact⟨r2,hlc.2.2.2.2.2,hlc.2.2.1,hlc.2.2.2.1,k,zbd _,fun q _ h=>h⟩
 obtain⟨l,l1e,l2e,l3,l4,l5,l6⟩:=hL
 obtain⟨r,r1e,r2e,r3,r4,r5,r6⟩:=hR
 have kl:=l6 p p1 p3
 have kr:=r6 p p2 p4
 refine⟨l,r,l1e,r1e,⟨(f1 l).2 ⟨l2e,l4,zba kl p2⟩,(f2 l).2 ⟨l3,l5,zba kl p4⟩⟩,⟨(f1 r).2 ⟨r2e,zba p1 kr,r4⟩,(f2 r).2 ⟨r3,zba p3 kr,r5⟩⟩,fun q hq=>?_⟩
 obtain⟨-,q1,q2⟩:=(f1 q).1 hq.1
 obtain⟨-,q3,q4⟩:=(f2 q).1 hq.2
 exact⟨l6 q q1 q3,r6 q q2 q4⟩
theorem zd9 {l r:QQ}(hne:l≠r)(hl:onS a b l)(hr:onS a b r)(hq:cz l r q=0)(h1:le2 l q)(h2:le2 q r):onS a b q:=by
 obtain⟨m,k,e1,-,f⟩:=zhn a b
 obtain⟨l0,l1,l2⟩:=(f l).1 hl
 obtain⟨r0,r1,r2⟩:=(f r).1 hr
 by_cases hab:a=b
 ·subst hab
  exact absurd ((zcY.1 hl).trans (zcY.1 hr).symm) hne
 ·exact(f q).2 ⟨zsI hab l0 r0 hne hq,zba l1 h1,zba h2 r2⟩
inductive Mt where
 |none
 |point (A:QQ)
 |over (A B:QQ)
def Spec (a b c d:QQ):Mt->Prop
 | .none=>∀p,¬zbE a b c d p
 | .point A=>∀p,zbE a b c d p↔p=A
 | .over A B=>lt2 A B/\∀p,zbE a b c d p↔onS A B p
theorem Spec.one {m m':Mt}(h:Spec a b c d m)(h':Spec a b c d m'):m=m':=by
 cases m with
 |none=>
  cases m' with
  |none=>rfl
  |point A=>exact absurd ((h' A).2 rfl) (h A)
  |over A B=>exact absurd ((h'.2 A).2 (zfj A B)) (h A)
 |point A=>
  cases m' with
  |none=>exact absurd ((h A).2 rfl) (h' A)
  |point B=>rw[(h' A).1 ((h A).2 rfl)]
  |over B C=>exact absurd (((h B).1 ((h'.2 B).2 (zfj B C))).trans ((h C).1 ((h'.2 C).2 (zhm B C))).symm) (zcs.1 h'.1).2
 |over A B=>
  cases m' with
  |none=>exact absurd ((h.2 A).2 (zfj A B)) (h' A)
  |point C=>exact absurd (((h' A).1 ((h.2 A).2 (zfj A B))).trans ((h' B).1 ((h.2 B).2 (zhm A B))).symm) (zcs.1 h.1).2
  |over C D=>
   have k:∀p,onS A B p↔onS C D p:=fun p=>(h.2 p).symm.trans (h'.2 p)
   have a1:=((zfo h'.1).1 ((k A).1 (zfj A B))).2
   have a2:=((zfo h'.1).1 ((k B).1 (zhm A B))).2
   have a3:=((zfo h.1).1 ((k C).2 (zfj C D))).2
   have a4:=((zfo h.1).1 ((k D).2 (zhm C D))).2
   rw[zcc a1.1 a3.1,zcc a2.2 a4.2]
theorem Spec.of {a' b' c' d':QQ}{m:Mt}(h:Spec a b c d m)(k:∀p,zbE a' b' c' d' p↔zbE a b c d p):Spec a' b' c' d' m:=by
 cases m with
 |none=>exact fun p hp=>h p ((k p).1 hp)
 |point A=>exact fun p=>(k p).trans (h p)
 |over A B=>exact⟨h.1,fun p=>(k p).trans (h.2 p)⟩
theorem znR {A B:QQ}(hAB:lt2 A B)(hA:zbE a b c d A)(hB:zbE a b c d B)(hlo:∀e,zc0 a b c d e->zbE a b c d e->le2 A e/\le2 e B):Spec a b c d (.over A B):=by
 have hne:=(zcs.1 hAB).2
 refine⟨hAB,fun p=>⟨fun hp=>?_,fun hp=>?_⟩⟩
 ·have hd:den a b c d=0:=Classical.byContradiction fun h=>hne (zgc h hA.1.1 hA.2.1 hB.1.1 hB.2.1)
  obtain⟨l,r,le,re,li,ri,hb⟩:=zfp hd hp
  obtain⟨k1,k2⟩:=hb p hp
  have hab:a≠b:=fun e=>by subst e;exact hne ((zcY.1 hA.1).trans (zcY.1 hB.1).symm)
  exact⟨zmK hab hA.1.1 hB.1.1 hp.1.1,.inl ⟨zba (hlo l le li).1 k1,zba k2 (hlo r re ri).2⟩⟩
 ·obtain⟨h0,h1,h2⟩:=(zfo hAB).1 hp
  exact⟨zd9 hne hA.1 hB.1 h0 h1 h2,zd9 hne hA.2 hB.2 h0 h1 h2⟩
theorem zlH {A:QQ}(hA:zbE a b c d A)(hone:∀e,zc0 a b c d e->zbE a b c d e->e=A):Spec a b c d (.point A):=fun p=>by
 refine⟨fun hp=>?_,fun e=>by rw[e];exact hA⟩
 by_cases hd:den a b c d=0
 ·obtain⟨l,r,le,re,li,ri,hb⟩:=zfp hd hp
  obtain⟨k1,k2⟩:=hb p hp
  rw[hone l le li]at k1
  rw[hone r re ri]at k2
  exact zcc k2 k1
 ·exact zgc hd hp.1.1 hp.2.1 hA.1.1 hA.2.1
theorem zit (hd:den a b c d≠0)(h:zbE a b c d (zdc a b c d)):Spec a b c d (.point (zdc a b c d)):=fun p=>⟨fun hp=>zgd hd hp.1.1 hp.2.1,fun e=>by rw[e];exact h⟩
theorem znS (hno:∀e,zc0 a b c d e-> ¬zbE a b c d e)(h:den a b c d≠0-> ¬zbE a b c d (zdc a b c d)):Spec a b c d .none:=fun p hp=>by
 by_cases hd:den a b c d=0
 ·obtain⟨l,r,le,re,li,ri,hb⟩:=zfp hd hp
  exact hno l le li
 ·exact h hd (zgd hd hp.1.1 hp.2.1▸hp)
end
section
variable {a b c d p q x y v:QQ}{l r:List QQ}
def zlI:List QQ->QQ->List QQ
 |[],p=>[p]
 |x::l,p=>if za0 x.1 x.2 p.1 p.2<0 then x::zlI l p else if za0 x.1 x.2 p.1 p.2=0 then x::l else p::x::l
def Inc (l:List QQ):Prop:=l.Pairwise lt2
theorem zkm:q∈zlI l p↔q=p\/q∈l:=by
 induction l with
 |nil=>simp[zlI]
 |cons x l ih=>
  unfold zlI
  split
  ·rw[List.mem_cons,ih,List.mem_cons];constructor <;> (intro h;rcases h with h|h|h <;> simp[h])
  ·split
   ·rename_i h
    have e:=zcC.1 h
    subst e
    simp
   ·simp
theorem zpv (h:Inc l):Inc (zlI l p):=by
 induction l with
 |nil=>exact List.pairwise_singleton _ _
 |cons x l ih=>
  obtain⟨h1,h2⟩:=List.pairwise_cons.1 h
  unfold zlI
  split
  ·rename_i h3
   exact List.pairwise_cons.2 ⟨fun y hy=>(zkm.1 hy).elim (fun e=>by rw[e];exact zdf.1 h3) (h1 y),ih h2⟩
  ·split
   ·exact h
   ·rename_i h3 h4
    have h5:lt2 p x:=zcs.2 ⟨zd8.1 (fun h=>h3 (zdf.2 h)),fun e=>h4 (zcC.2 e.symm)⟩
    refine List.pairwise_cons.2 ⟨fun y hy=>?_,h⟩
    rcases List.mem_cons.1 hy with rfl|hy
    ·exact h5
    ·have:=h1 y hy;unfold lt2 at *; grind
theorem znT (h:Inc (x::l)):∀y∈x::l,le2 x y:=fun y hy=>by
 rcases List.mem_cons.1 hy with rfl|hy
 ·exact zbd _
 ·exact(zcs.1 ((List.pairwise_cons.1 h).1 y hy)).1
theorem zpw (h:Inc l)(hne:l≠[]):∀y∈l,le2 y (l.getLast hne):=by
 induction l with
 |nil=>exact absurd rfl hne
 |cons x l ih=>
  intro y hy
  cases l with
  |nil=>rw[List.mem_singleton.1 hy];exact zbd _
  |cons z l=>
   rw[List.getLast_cons (by simp)]
   rcases List.mem_cons.1 hy with rfl|hy
   ·exact(zcs.1 ((List.pairwise_cons.1 h).1 _ (List.getLast_mem _))).1
   ·exact ih (List.pairwise_cons.1 h).2 (by simp) y hy
def onD (a b p:QQ):Bool:=decide (crs a.1 a.2 b.1 b.2 p.1 p.2=0)&&decide ((p.1 - a.1)*(p.1 - b.1)+(p.2 - a.2)*(p.2 - b.2)<=0)
theorem zct (t:Rat):0<=t*t:=by
 rcases(by grind:t=0\/0<t\/0< -t)with h|h|h
 ·rw[h,Rat.zero_mul];exact Rat.le_refl
 ·exact Rat.le_of_lt (Rat.mul_pos h h)
 ·have:=Rat.mul_pos h h;grind
theorem zeD {t:Rat}(h:t≠0):0<t*t:=by
 rcases(by grind:0<t\/0< -t)with h|h
 ·exact Rat.mul_pos h h
 ·have:=Rat.mul_pos h h;grind
theorem zrM (t:Rat):0<=zan 0 t*zan t 1↔t*(t - 1)<=0:=by
 have e:t*(t - 1)<=0↔zan t 0*zan (t - 1) 0<=0:=by rw[<-zdI,zfy]
 rw[e,<-zc6 t 1,zdu t 0]
 rcases tri t 0 with h|h|h <;> rcases tri t 1 with h2|h2|h2 <;> rw[h,h2] <;> decide
theorem zg1:onD a b p=true↔onS a b p:=by
 rw[<-zmJ]
 unfold onD
 rw[Bool.and_eq_true,decide_eq_true_eq,decide_eq_true_eq]
 unfold onR
 rw[Bool.and_eq_true,decide_eq_true_eq,decide_eq_true_eq]
 refine and_congr_right fun h=>?_
 by_cases hab:a=b
 ·subst hab
  rw[ziQ]
  constructor
  ·intro h1
   have e:p=a:=by
    have h2:=zct (p.1 - a.1)
    have h3:=zct (p.2 - a.2)
    refine Prod.ext ?_ ?_
    ·exact Classical.byContradiction fun hne=>by have:=zeD (t:=p.1 - a.1) (by grind);grind
    ·exact Classical.byContradiction fun hne=>by have:=zeD (t:=p.2 - a.2) (by grind);grind
   rw[e,zoT];decide
  ·intro h1
   have e:p=a:=by
    refine(zcC.1 ?_).symm
    have:=zdA a.1 a.2 p.1 p.2
    rcases(by omega:za0 a.1 a.2 p.1 p.2= -1\/za0 a.1 a.2 p.1 p.2=0\/za0 a.1 a.2 p.1 p.2=1)with k|k|k
    ·rw[k]at h1;exact absurd h1 (by decide)
    ·exact k
    ·rw[k]at h1;exact absurd h1 (by decide)
   rw[e];grind
 ·have hab': ¬(a.1=b.1/\a.2=b.2):=fun e=>hab (Prod.ext e.1 e.2)
  obtain⟨t,h1,h2⟩:=zhQ h hab'
  rw[h1,h2,znh hab',zrM]
  have e:(a.1+(b.1 - a.1)*t - a.1)*(a.1+(b.1 - a.1)*t - b.1)+(a.2+(b.2 - a.2)*t - a.2)*(a.2+(b.2 - a.2)*t - b.2)=(t*(t - 1))*((b.1 - a.1)*(b.1 - a.1)+(b.2 - a.2)*(b.2 - a.2)):=by grind
  have hn:0<(b.1 - a.1)*(b.1 - a.1)+(b.2 - a.2)*(b.2 - a.2):=by
   have h2:=zct (b.1 - a.1)
   have h3:=zct (b.2 - a.2)
   by_cases k:b.1=a.1
   ·have:=zeD (t:=b.2 - a.2) (by intro e;exact hab' ⟨k.symm,by grind⟩);grind
   ·have:=zeD (t:=b.1 - a.1) (by grind);grind
  rw[e]
  generalize (b.1 - a.1)*(b.1 - a.1)+(b.2 - a.2)*(b.2 - a.2)=n at hn
  rw[<-zdI,<-zdI,zfy,show zan n 0=1 by rw[zdu 0 n,zcO hn];rfl]
  omega
def zmL (a b c d p:QQ):Bool:=onD a b p&&onD c d p
theorem zeT:zmL a b c d p=true↔zbE a b c d p:=by unfold zmL zbE;rw[Bool.and_eq_true,zg1,zg1]
def zkn (a b c d:QQ)(l:List QQ)(e:QQ):List QQ:=if zmL a b c d e then zlI l e else l
theorem zfJ:q∈zkn a b c d l x↔(q=x/\zbE a b c d x)\/q∈l:=by
 unfold zkn
 split
 ·rename_i h;rw[zkm];simp[zeT.1 h]
 ·rename_i h;rw[zeT]at h;simp[h]
theorem zfK (h:Inc l):Inc (zkn a b c d l x):=by unfold zkn;split;exact zpv h;exact h
def zmM (a b c d:QQ):List QQ:=zkn a b c d (zkn a b c d (zkn a b c d (zkn a b c d [] a) b) c) d
theorem ziu:q∈zmM a b c d↔zc0 a b c d q/\zbE a b c d q:=by
 unfold zmM zc0
 rw[zfJ,zfJ,zfJ,zfJ]
 constructor
 ·rintro(⟨rfl,h⟩|⟨rfl,h⟩|⟨rfl,h⟩|⟨rfl,h⟩|h)
  ·exact⟨.inr (.inr (.inr rfl)),h⟩
  ·exact⟨.inr (.inr (.inl rfl)),h⟩
  ·exact⟨.inr (.inl rfl),h⟩
  ·exact⟨.inl rfl,h⟩
  ·cases h
 ·rintro⟨rfl|rfl|rfl|rfl,h⟩
  ·exact .inr (.inr (.inr (.inl ⟨rfl,h⟩)))
  ·exact .inr (.inr (.inl ⟨rfl,h⟩))
  ·exact .inr (.inl ⟨rfl,h⟩)
  ·exact .inl ⟨rfl,h⟩
theorem znU:Inc (zmM a b c d):=zfK (zfK (zfK (zfK List.Pairwise.nil)))
def zbG (a b c d:QQ):Mt:=match zmM a b c d with
 |[]=>if den a b c d≠0/\zmL a b c d (zdc a b c d)=true then .point (zdc a b c d)else .none
 |[A]=> .point A
 |A::B::l=> .over A ((B::l).getLast (by simp))
theorem zho:Spec a b c d (zbG a b c d):=by
 have hm:=fun q=>ziu (a:=a) (b:=b) (c:=c) (d:=d) (q:=q)
 have hi:=znU (a:=a) (b:=b) (c:=c) (d:=d)
 unfold zbG
 split
 ·rename_i e
  rw[e]at hm
  have hno:∀e,zc0 a b c d e-> ¬zbE a b c d e:=fun e he hI=>by have:=(hm e).2 ⟨he,hI⟩;cases this
  split
  ·rename_i h;exact zit h.1 (zeT.1 h.2)
  ·rename_i h;exact znS hno fun hd hI=>h ⟨hd,zeT.2 hI⟩
 ·rename_i A e
  rw[e]at hm
  exact zlH ((hm A).1 List.mem_cons_self).2 fun e he hI=>List.mem_singleton.1 ((hm e).2 ⟨he,hI⟩)
 ·rename_i A B l e
  rw[e]at hm hi
  have hB:(B::l).getLast (by simp)∈A::B::l:=List.mem_cons_of_mem _ (List.getLast_mem _)
  refine znR ((List.pairwise_cons.1 hi).1 _ (List.getLast_mem _)) ((hm A).1 List.mem_cons_self).2 ((hm _).1 hB).2 fun e he hI=>?_
  have:=(hm e).2 ⟨he,hI⟩
  refine⟨znT hi e this,?_⟩
  have h2:=zpw hi (by simp) e this
  rwa [List.getLast_cons (by simp)]at h2
theorem znV {m:Mt}(h:Spec a b c d m):zbG a b c d=m:=zho.one h
def mvQ (a v:QQ):QQ:=(a.1+v.1,a.2+v.2)
def Mt.mvM:Mt->QQ->Mt
 | .none,_=> .none
 | .point A,v=> .point (mvQ A v)
 | .over A B,v=> .over (mvQ A v) (mvQ B v)
theorem zjc (p v:QQ):∃q,p=mvQ q v:=⟨(p.1 - v.1,p.2 - v.2),by unfold mvQ;exact Prod.ext (by grind) (by grind)⟩
theorem ztA:mvQ p v=mvQ q v↔p=q:=⟨fun h=>Prod.ext (by have:=congrArg Prod.fst h;simp only[mvQ]at this;grind) (by have:=congrArg Prod.snd h;simp only[mvQ]at this;grind),fun h=>by rw[h]⟩
theorem zjd:le2 (mvQ x v) (mvQ y v)↔le2 x y:=by unfold le2 mvQ;grind
theorem ztB:lt2 (mvQ x v) (mvQ y v)↔lt2 x y:=by unfold lt2 mvQ;grind
theorem zlJ:onS (mvQ a v) (mvQ b v) (mvQ p v)↔onS a b p:=by
 unfold onS
 rw[zjd,zjd,zjd,zjd,show cz (mvQ a v) (mvQ b v) (mvQ p v)=cz a b p by unfold cz crs mvQ;grind]
theorem zhp:zbE (mvQ a v) (mvQ b v) (mvQ c v) (mvQ d v) (mvQ p v)↔zbE a b c d p:=and_congr zlJ zlJ
theorem Spec.mv {m:Mt}(h:Spec a b c d m):Spec (mvQ a v) (mvQ b v) (mvQ c v) (mvQ d v) (m.mvM v):=by
 cases m with
 |none=>intro p hp;obtain⟨q,rfl⟩:=zjc p v;exact h q (zhp.1 hp)
 |point A=>intro p;obtain⟨q,rfl⟩:=zjc p v;rw[zhp,ztA];exact h q
 |over A B=>exact⟨ztB.2 h.1,fun p=>by obtain⟨q,rfl⟩:=zjc p v;rw[zhp,zlJ];exact h.2 q⟩
theorem zje {t:Rat}(h0:0<=t)(h1:t<=1):onS a b (a.1+(b.1 - a.1)*t,a.2+(b.2 - a.2)*t):=by
 rw[<-zg1]
 unfold onD
 rw[Bool.and_eq_true,decide_eq_true_eq,decide_eq_true_eq]
 refine⟨by unfold crs;grind,?_⟩
 have e:(a.1+(b.1 - a.1)*t - a.1)*(a.1+(b.1 - a.1)*t - b.1)+(a.2+(b.2 - a.2)*t - a.2)*(a.2+(b.2 - a.2)*t - b.2)=(t*(t - 1))*((b.1 - a.1)*(b.1 - a.1)+(b.2 - a.2)*(b.2 - a.2)):=by grind
 simp only
 rw[e]
 have h2:=zct (b.1 - a.1)
 have h3:=zct (b.2 - a.2)
 have h4:0<=(b.1 - a.1)*(b.1 - a.1)+(b.2 - a.2)*(b.2 - a.2):=by grind
 have h5:=Rat.mul_nonneg (Rat.mul_nonneg h0 (by grind:0<=1 - t)) h4
 grind
theorem zpx {m:Mt}(h:Spec a b c d m)(hp:zbE a b c d p):m= .point p\/ ∃A B,m= .over A B/\lt2 A B/\zbE a b c d A/\zbE a b c d B/\onS A B p:=by
 cases m with
 |none=>exact absurd hp (h p)
 |point A=>exact .inl (by rw[(h p).1 hp])
 |over A B=>exact .inr ⟨A,B,rfl,h.1,(h.2 A).2 (zfj A B),(h.2 B).2 (zhm A B),(h.2 p).1 hp⟩
end
section
variable {a b c d x:QQ}{l p q:List QQ}{m:Mt}
def Mt.pts:Mt->List QQ
 | .none=>[]
 | .point A=>[A]
 | .over A B=>[A,B]
def o2:QQ:=(0,0)
def nx (p:List QQ)(i:Nat):QQ:=p.getD ((i+1)%p.length) o2
end
section
variable {a b c d p q x y z:QQ}
theorem zpy {t:Rat}(hu:cz a b c*cz a b d<=0)(hne:cz a b d - cz a b c≠0)(hp:cz a b (c.1+(d.1 - c.1)*t,c.2+(d.2 - c.2)*t)=0):0<=t/\t<=1:=by
 have e:cz a b c+t*(cz a b d - cz a b c)=0:=by rw[<-hp];unfold cz crs;grind
 generalize cz a b c=u at*
 generalize cz a b d=v at*
 have e2:t*(1 - t)*((v - u)*(v - u))= -(u*v):=by
  have:t*(v - u)= -u:=by grind
  calc t*(1 - t)*((v - u)*(v - u))=(t*(v - u))*((v - u) - t*(v - u)):=by grind
   _= -(u*v):=by rw[this];grind
 have hs:=zeD hne
 have h3:0<=t*(1 - t)*((v - u)*(v - u)):=by rw[e2];grind
 have h4:0<=t*(1 - t):=by
  rcases(by grind:0<=t*(1 - t)\/0< -(t*(1 - t)))with h|h
  ·exact h
  ·have:=Rat.mul_pos h hs;grind
 constructor
 ·rcases(by grind:0<=t\/0< -t)with h|h
  ·exact h
  ·have:=Rat.mul_pos h (by grind:0<1 - t);grind
 ·rcases(by grind:t<=1\/0<t - 1)with h|h
  ·exact h
  ·have:=Rat.mul_pos h (by grind:0<t);grind
theorem zpz:cz a b d - cz a b c=den a b c d:=by unfold cz crs den;grind
theorem zmN:cz c d b - cz c d a= -den a b c d:=by unfold cz crs den;grind
theorem zrN (h:den a b c d≠0)(hu:cz a b c*cz a b d<=0):onS c d (zdc a b c d):=by
 obtain⟨h1,h2⟩:=zfI h
 obtain⟨t,e⟩:=zdg (zjb h).2 h2
 rw[e]at h1 ⊢
 obtain⟨t0,t1⟩:=zpy hu (by rw[zpz];exact h) h1
 exact zje t0 t1
theorem zpA (h:den a b c d≠0)(hu:cz c d a*cz c d b<=0):onS a b (zdc a b c d):=by
 obtain⟨h1,h2⟩:=zfI h
 obtain⟨t,e⟩:=zdg (zjb h).1 h1
 rw[e]at h2 ⊢
 obtain⟨t0,t1⟩:=zpy hu (by rw[zmN];grind) h2
 exact zje t0 t1
theorem zhq (h:onS c d p)(hp:cz a b p=0):cz a b c*cz a b d<=0:=by
 by_cases hcd:c=d
 ·subst hcd;rw[<-zcY.1 h,hp];grind
 ·obtain⟨t,rfl⟩:=zdg hcd h.1
  have hD:=zg1.2 h
  unfold onD at hD
  rw[Bool.and_eq_true,decide_eq_true_eq,decide_eq_true_eq]at hD
  have e:cz a b c+t*(cz a b d - cz a b c)=0:=by rw[<-hp];unfold cz crs;grind
  have hw:=hD.2
  have e3:(c.1+(d.1 - c.1)*t - c.1)*(c.1+(d.1 - c.1)*t - d.1)+(c.2+(d.2 - c.2)*t - c.2)*(c.2+(d.2 - c.2)*t - d.2)=(t*(t - 1))*((d.1 - c.1)*(d.1 - c.1)+(d.2 - c.2)*(d.2 - c.2)):=by grind
  simp only at hw
  rw[e3]at hw
  have hq:0<(d.1 - c.1)*(d.1 - c.1)+(d.2 - c.2)*(d.2 - c.2):=by
   by_cases e1:d.1 - c.1=0
   ·have e2:d.2 - c.2≠0:=fun e2=>hcd (Prod.ext (by grind) (by grind))
    have:=zeD e2;have:=zct (d.1 - c.1);grind
   ·have:=zeD e1;have:=zct (d.2 - c.2);grind
  have ht:t*(t - 1)<=0:=by
   rcases(by grind:t*(t - 1)<=0\/0<t*(t - 1))with h|h
   ·exact h
   ·have:=Rat.mul_pos h hq;grind
  generalize cz a b c=u at*
  generalize cz a b d=v at*
  have e4:u*v=(t*(t - 1))*((v - u)*(v - u)):=by
   have:u= -(t*(v - u)):=by grind
   have h2:v=(1 - t)*(v - u):=by grind
   calc u*v=(-(t*(v - u)))*((1 - t)*(v - u)):=by rw[<-this,<-h2]
    _=(t*(t - 1))*((v - u)*(v - u)):=by grind
  rw[e4]
  have:=Rat.mul_nonneg (by grind:0<= -(t*(t - 1))) (zct (v - u))
  grind
theorem zeE (h:le2 a b):onS a b p↔cz a b p=0/\le2 a p/\le2 p b:=by
 by_cases e:a=b
 ·subst e
  exact zcY.trans ⟨fun e=>by rw[e];exact⟨zf5 a a,zbd a,zbd a⟩,fun h=>zcc h.2.2 h.2.1⟩
 ·exact zfo (zcs.2 ⟨h,e⟩)
def spL (a b:QQ):QQ:=if 0<za0 a.1 a.2 b.1 b.2 then b else a
def spH (a b:QQ):QQ:=if 0<za0 a.1 a.2 b.1 b.2 then a else b
def zb4 (a b:QQ):QQ:=if za0 a.1 a.2 b.1 b.2<0 then b else a
def zbe (a b:QQ):QQ:=if 0<za0 a.1 a.2 b.1 b.2 then b else a
theorem zg2:0<za0 x.1 x.2 y.1 y.2↔lt2 y x:=by rw[<-zdf,zeQ];omega
theorem zs5:le2 (spL a b) (spH a b):=by
 unfold spL spH
 by_cases h:0<za0 a.1 a.2 b.1 b.2
 ·rw[if_pos h,if_pos h];exact(zcs.1 (zg2.1 h)).1
 ·rw[if_neg h,if_neg h];exact zd8.1 (fun k=>h (zg2.2 k))
theorem zpB:onS (spL a b) (spH a b) p↔onS a b p:=by
 unfold spL spH
 by_cases h:0<za0 a.1 a.2 b.1 b.2
 ·rw[if_pos h,if_pos h];exact zkl
 ·rw[if_neg h,if_neg h]
theorem zpC:le2 a (zb4 a b)/\le2 b (zb4 a b)/\(zb4 a b=a\/zb4 a b=b):=by
 unfold zb4
 by_cases h:za0 a.1 a.2 b.1 b.2<0
 ·rw[if_pos h];exact⟨(zcs.1 (zdf.1 h)).1,zbd b,.inr rfl⟩
 ·rw[if_neg h];exact⟨zbd a,zd8.1 (fun k=>h (zdf.2 k)),.inl rfl⟩
theorem zlK:le2 (zbe a b) a/\le2 (zbe a b) b/\(zbe a b=a\/zbe a b=b):=by
 unfold zbe
 by_cases h:0<za0 a.1 a.2 b.1 b.2
 ·rw[if_pos h];exact⟨(zcs.1 (zg2.1 h)).1,zbd b,.inr rfl⟩
 ·rw[if_neg h];exact⟨zbd a,zd8.1 (fun k=>h (zg2.2 k)),.inl rfl⟩
def zea (a b c d:QQ):Bool:=decide (0<zan (cz a b c) 0*zan (cz a b d) 0)
def zge (b c:QQ):Bool:=decide (za0 b.1 b.2 c.1 c.2<0)
def zbC (a b c d:QQ):Bool:= !zge b c&& !zge d a&& !zea a b c d&& !zea c d a b
def zbM (a b:QQ):Mt:=if za0 a.1 a.2 b.1 b.2=0 then .point a else .over a b
def zcJ (a b c d:QQ):Mt:=if zbC a b c d=true then(if den a b c d≠0 then zbM (zdc a b c d) (zdc a b c d)else zbM (zb4 a c) (zbe b d))else .none
theorem zgH:zea a b c d=true↔0<cz a b c*cz a b d:=by
 unfold zea
 rw[decide_eq_true_eq,<-zfy,<-Int.not_le,<-Rat.not_le]
 exact not_congr zdI
theorem zhr:zbC a b c d=true↔le2 c b/\le2 a d/\cz a b c*cz a b d<=0/\cz c d a*cz c d b<=0:=by
 unfold zbC zge
 rw[Bool.and_eq_true,Bool.and_eq_true,Bool.and_eq_true,Bool.not_eq_true',Bool.not_eq_true',Bool.not_eq_true',Bool.not_eq_true',decide_eq_false_iff_not,decide_eq_false_iff_not,zdf,zdf,zd8,zd8,<-Bool.not_eq_true,<-Bool.not_eq_true,zgH,zgH,Rat.not_lt,Rat.not_lt]
 exact⟨fun⟨⟨⟨h1,h2⟩,h3⟩,h4⟩=>⟨h1,h2,h3,h4⟩,fun⟨h1,h2,h3,h4⟩=>⟨⟨⟨h1,h2⟩,h3⟩,h4⟩⟩
theorem znW {l r:QQ}(hlr:le2 l r)(h:∀p,zbE a b c d p↔cz l r p=0/\le2 l p/\le2 p r):Spec a b c d (zbM l r):=by
 unfold zbM
 by_cases e:l=r
 ·rw[if_pos (zcC.2 e)]
  subst e
  exact fun p=>(h p).trans ⟨fun h=>zcc h.2.2 h.2.1,fun e=>by rw[e];exact⟨zf5 l l,zbd l,zbd l⟩⟩
 ·rw[if_neg (fun k=>e (zcC.1 k))]
  have hlt:=zcs.2 ⟨hlr,e⟩
  exact⟨hlt,fun p=>(h p).trans (zfo hlt).symm⟩
theorem zlL (hab:le2 a b)(hcd:le2 c d):Spec a b c d (zcJ a b c d):=by
 unfold zcJ
 by_cases hm:zbC a b c d=true
 ·rw[if_pos hm]
  obtain⟨hcb,had,hu,hv⟩:=zhr.1 hm
  by_cases hd:den a b c d≠0
  ·rw[if_pos hd]
   have hs:=zit hd ⟨zpA hd hv,zrN hd hu⟩
   unfold zbM
   rw[if_pos (zcC.2 rfl)]
   exact hs
  ·rw[if_neg hd]
   have hd:=Classical.not_not.1 hd
   have sq0:∀ {s t:Rat},t - s=0->s*t<=0->s=0/\t=0:=fun {s t} h1 h2=>by
    have e:t=s:=by grind
    subst e
    have:t=0:=Classical.byContradiction fun hn=>by have:=zeD hn;grind
    exact⟨this,this⟩
   obtain⟨uc,ud⟩:=sq0 (zpz.trans hd) hu
   obtain⟨va,vb⟩:=sq0 (zmN.trans (by rw[hd];grind)) hv
   obtain⟨l1,l2,l3⟩:=zpC (a:=a) (b:=c)
   obtain⟨r1,r2,r3⟩:=zlK (a:=b) (b:=d)
   generalize zb4 a c=l at*
   generalize zbe b d=r at*
   have hlr:le2 l r:=by
    rcases l3 with rfl|rfl <;> rcases r3 with rfl|rfl
    ·exact hab
    ·exact had
    ·exact hcb
    ·exact hcd
   have la:cz a b l=0:=by rcases l3 with rfl|rfl;exact zdy _ _;exact uc
   have lc:cz c d l=0:=by rcases l3 with rfl|rfl;exact va;exact zdy _ _
   have ra:cz a b r=0:=by rcases r3 with rfl|rfl;exact zd4 _ _;exact ud
   have rc:cz c d r=0:=by rcases r3 with rfl|rfl;exact vb;exact zd4 _ _
   have onl:zbE a b c d l:=⟨(zeE hab).2 ⟨la,l1,zba hlr r1⟩,(zeE hcd).2 ⟨lc,l2,zba hlr r2⟩⟩
   have onr:zbE a b c d r:=⟨(zeE hab).2 ⟨ra,zba l1 hlr,r1⟩,(zeE hcd).2 ⟨rc,zba l2 hlr,r2⟩⟩
   refine znW hlr fun p=>⟨fun hp=>?_,fun⟨h0,h1,h2⟩=>?_⟩
   ·obtain⟨p0,p1,p2⟩:=(zeE hab).1 hp.1
    obtain⟨q0,q1,q2⟩:=(zeE hcd).1 hp.2
    have lp:le2 l p:=by rcases l3 with rfl|rfl;exact p1;exact q1
    have pr:le2 p r:=by rcases r3 with rfl|rfl;exact p2;exact q2
    refine⟨?_,lp,pr⟩
    by_cases e:l=r
    ·subst e;exact zf5 _ _
    ·have hne:a≠b:=fun e2=>by
      subst e2
      exact e (zcc hlr (zba r1 l1))
     exact zmK hne la ra p0
   ·by_cases e:l=r
    ·subst e;rw[zcc h2 h1];exact onl
    ·exact⟨zd9 e onl.1 onr.1 h0 h1 h2,zd9 e onl.2 onr.2 h0 h1 h2⟩
 ·rw[if_neg hm]
  intro p hp
  refine hm (zhr.2 ?_)
  obtain⟨p0,p1,p2⟩:=(zeE hab).1 hp.1
  obtain⟨q0,q1,q2⟩:=(zeE hcd).1 hp.2
  exact⟨zba q1 p2,zba p1 q2,zhq hp.2 p0,zhq hp.1 q0⟩
def zuH (a b c d:QQ):Mt:=zcJ (spL a b) (spH a b) (spL c d) (spH c d)
theorem zko (a b c d:QQ):zuH a b c d=zbG a b c d:=(znV ((zlL zs5 zs5).of fun _=>and_congr zpB.symm zpB.symm)).symm
def Mt.has:Mt->Bool
 | .none=>false
 |_=>true
theorem zpD:(zbM a b).has=true:=by unfold zbM;split <;> rfl
theorem zlM (a b c d:QQ):zbC a b c d=(zcJ a b c d).has:=by
 unfold zcJ
 by_cases hm:zbC a b c d=true
 ·rw[if_pos hm,hm]
  split <;> exact zpD.symm
 ·rw[if_neg hm];exact Bool.eq_false_iff.2 hm
def zcx (a b c d:QQ):QQ:=if den a b c d=0 then(((0:Int):Rat),((0:Int):Rat))else zdc a b c d
theorem zrO (h:(!decide (erq (den a b c d)=0))=true):(((0:Int):Rat),((0:Int):Rat))=zcx a b c d/\false=decide (den a b c d≠0):=by
 have e:den a b c d=0:=Classical.byContradiction fun e=>by rw[zsw e]at h;exact absurd h (by decide)
 unfold zcx
 rw[if_pos e,e]
 exact⟨rfl,by decide⟩
theorem zrP (h:(!decide (erq (den a b c d)=0))=false):zdc a b c d=zcx a b c d/\true=decide (den a b c d≠0):=by
 have e:den a b c d≠0:=fun e=>by rw[zud e]at h;exact absurd h (by decide)
 unfold zcx
 rw[if_neg e]
 exact⟨rfl,(decide_eq_true e).symm⟩
theorem zjf {q1 q1' q2 q2' q3 q3' q4 q4':Rat}(h:(!decide (erq ((q2 - q1)*(q4' - q3') - (q2' - q1')*(q4 - q3))=0))=true):(((0:Int):Rat),((0:Int):Rat))=zcx (q1,q1') (q2,q2') (q3,q3') (q4,q4')/\false=decide (den (q1,q1') (q2,q2') (q3,q3') (q4,q4')≠0):=zrO h
theorem zjg {q1 q1' q2 q2' q3 q3' q4 q4':Rat}(h:(!decide (erq ((q2 - q1)*(q4' - q3') - (q2' - q1')*(q4 - q3))=0))=false):zdc (q1,q1') (q2,q2') (q3,q3') (q4,q4')=zcx (q1,q1') (q2,q2') (q3,q3') (q4,q4')/\true=decide (den (q1,q1') (q2,q2') (q3,q3') (q4,q4')≠0):=zrP h
section
variable {q1 q1' q2 q2':Rat}
theorem zs6 (h:decide (0<za0 q1 q1' q2 q2')=true):q2=(spL (q1,q1') (q2,q2')).1/\q2'=(spL (q1,q1') (q2,q2')).2:=by unfold spL;rw[if_pos (of_decide_eq_true h)];exact⟨rfl,rfl⟩
theorem zs7 (h:decide (0<za0 q1 q1' q2 q2')=false):q1=(spL (q1,q1') (q2,q2')).1/\q1'=(spL (q1,q1') (q2,q2')).2:=by unfold spL;rw[if_neg (of_decide_eq_false h)];exact⟨rfl,rfl⟩
theorem zs8 (h:decide (0<za0 q1 q1' q2 q2')=true):q1=(spH (q1,q1') (q2,q2')).1/\q1'=(spH (q1,q1') (q2,q2')).2:=by unfold spH;rw[if_pos (of_decide_eq_true h)];exact⟨rfl,rfl⟩
theorem zs9 (h:decide (0<za0 q1 q1' q2 q2')=false):q2=(spH (q1,q1') (q2,q2')).1/\q2'=(spH (q1,q1') (q2,q2')).2:=by unfold spH;rw[if_neg (of_decide_eq_false h)];exact⟨rfl,rfl⟩
theorem zkp (h:decide (za0 q1 q1' q2 q2'<0)=true):q2=(zb4 (q1,q1') (q2,q2')).1/\q2'=(zb4 (q1,q1') (q2,q2')).2:=by unfold zb4;rw[if_pos (of_decide_eq_true h)];exact⟨rfl,rfl⟩
theorem zkq (h:decide (za0 q1 q1' q2 q2'<0)=false):q1=(zb4 (q1,q1') (q2,q2')).1/\q1'=(zb4 (q1,q1') (q2,q2')).2:=by unfold zb4;rw[if_neg (of_decide_eq_false h)];exact⟨rfl,rfl⟩
theorem zhs (h:decide (0<za0 q1 q1' q2 q2')=true):q2=(zbe (q1,q1') (q2,q2')).1/\q2'=(zbe (q1,q1') (q2,q2')).2:=by unfold zbe;rw[if_pos (of_decide_eq_true h)];exact⟨rfl,rfl⟩
theorem zht (h:decide (0<za0 q1 q1' q2 q2')=false):q1=(zbe (q1,q1') (q2,q2')).1/\q1'=(zbe (q1,q1') (q2,q2')).2:=by unfold zbe;rw[if_neg (of_decide_eq_false h)];exact⟨rfl,rfl⟩
end
end
end Go.Proofs.YtipckjmgdghkiaaGreatDoor
