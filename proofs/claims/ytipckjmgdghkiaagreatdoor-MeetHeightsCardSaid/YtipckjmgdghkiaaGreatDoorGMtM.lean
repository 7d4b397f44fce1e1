/- A part. -/
import Derived.Test.YtipckjmgdghkiaaGreatDoorGSidA
namespace Go.Proofs.YtipckjmgdghkiaaGreatDoor
open Go Go.RowKit
section
variable {x y z u v w p q:QQ}
def lt2 (x y:QQ):Prop:=x.1<y.1\/(x.1=y.1/\x.2<y.2)
def le2 (x y:QQ):Prop:=x.1<y.1\/(x.1=y.1/\x.2<=y.2)
theorem zbk (x:QQ):le2 x x:= .inr ⟨rfl,by grind⟩
theorem zbh (h:le2 x y)(h':le2 y z):le2 x z:=by unfold le2 at *; grind
theorem zci (h:le2 x y)(h':le2 y x):x=y:=by unfold le2 at *; exact Prod.ext (by grind) (by grind)
theorem zfa (x y:QQ):le2 x y\/le2 y x:=by unfold le2;grind
theorem zcx:lt2 x y↔le2 x y/\x≠y:=by
 unfold lt2 le2
 constructor
 ·intro h;refine⟨by grind,fun e=>?_⟩;subst e;grind
 ·rintro⟨h,hne⟩
  by_cases e:x.1=y.1/\x.2=y.2
  ·exact absurd (Prod.ext e.1 e.2) hne
  ·grind
theorem zem: ¬lt2 x y↔le2 y x:=by unfold lt2 le2;grind
theorem zdp:za7 x.1 x.2 y.1 y.2<0↔lt2 x y:=ztH
theorem zcK:za7 x.1 x.2 y.1 y.2=0↔x=y:=ze7.trans ⟨fun h=>Prod.ext h.1 h.2,fun h=>by rw[h];exact⟨rfl,rfl⟩⟩
theorem zhr:za7 x.1 x.2 y.1 y.2<=0↔le2 x y:=by
 rw[<-zem,<-zdp,ze8 x.1 x.2 y.1 y.2];omega
def onS (x y p:QQ):Prop:=cz x y p=0/\((le2 x p/\le2 p y)\/(le2 y p/\le2 p x))
theorem zox {m k:Int}(h1: -1<=m/\m<=1)(h2: -1<=k/\k<=1):0<=m*k↔(m<=0/\k<=0)\/(0<=m/\0<=k):=by
 rcases(by omega:m= -1\/m=0\/m=1)with rfl|rfl|rfl <;> rcases(by omega:k= -1\/k=0\/k=1)with rfl|rfl|rfl <;> decide
theorem znp:onR x.1 x.2 y.1 y.2 p.1 p.2=true↔onS x y p:=by
 unfold onR onS
 rw[Bool.and_eq_true,decide_eq_true_eq,decide_eq_true_eq]
 refine and_congr Iff.rfl ?_
 unfold zhi
 rw[zox (zdL _ _ _ _) (zdL _ _ _ _),zhr,zhr]
 refine or_congr Iff.rfl ?_
 rw[<-zhr (x:=y),<-zhr (x:=p) (y:=x),ze8 p.1 p.2 y.1 y.2,ze8 x.1 x.2 p.1 p.2]
 omega
theorem zf6:onS y x p↔onS x y p:=by
 unfold onS
 exact and_congr ⟨znX,znX⟩ ⟨Or.symm,Or.symm⟩
theorem zfD (x y:QQ):onS x y x:=⟨zdJ x y,(zfa x y).elim (fun h=> .inl ⟨zbk x,h⟩) (fun h=> .inr ⟨h,zbk x⟩)⟩
theorem zhN (x y:QQ):onS x y y:=zf6.1 (zfD y x)
theorem zdb:onS x x p↔p=x:=⟨fun h=>h.2.elim (fun h=>zci h.2 h.1) (fun h=>zci h.2 h.1),fun h=>by rw[h];exact zfD x x⟩
theorem zfJ (h:lt2 x y):onS x y p↔cz x y p=0/\le2 x p/\le2 p y:=by
 unfold onS
 refine and_congr Iff.rfl ⟨fun h'=>h'.elim id (fun h2=>?_),.inl⟩
 exact absurd (zci (zcx.1 h).1 (zbh h2.1 h2.2)) (zcx.1 h).2
end
section
variable {a b c d p q x y u v w:QQ}
def den (a b c d:QQ):Rat:=(b.1 - a.1)*(d.2 - c.2) - (b.2 - a.2)*(d.1 - c.1)
def zbp (a b c d p:QQ):Prop:=onS a b p/\onS c d p
theorem zdq (hab:a≠b)(h:cz a b p=0):∃t,p=(a.1+(b.1 - a.1)*t,a.2+(b.2 - a.2)*t):=by
 obtain⟨t,h1,h2⟩:=zif h (fun e=>hab (Prod.ext e.1 e.2))
 exact⟨t,Prod.ext h1 h2⟩
theorem znq (hab:a≠b)(hu:cz a b u=0)(hv:cz a b v=0)(hw:cz a b w=0):cz u v w=0:=by
 obtain⟨r,rfl⟩:=zdq hab hu
 obtain⟨s,rfl⟩:=zdq hab hv
 obtain⟨t,rfl⟩:=zdq hab hw
 exact zu9 _ _ _ _ r s t
theorem zjF (h:den a b c d≠0):a≠b/\c≠d:=by
 refine⟨fun e=>h ?_,fun e=>h ?_⟩ <;> subst e <;> unfold den <;> grind
theorem zgD (h:den a b c d≠0)(hp:cz a b p=0)(hp':cz c d p=0)(hq:cz a b q=0)(hq':cz c d q=0):p=q:=by
 obtain⟨s,rfl⟩:=zdq (zjF h).1 hp
 obtain⟨t,rfl⟩:=zdq (zjF h).1 hq
 have e:den a b c d*(s - t)=0:=by
  unfold cz crs at hp' hq';unfold den;simp only at *; grind
 have e2:s=t:=by
  rcases zdX e with e|e
  ·exact absurd e h
  ·grind
 rw[e2]
def zc2 (a b c d:QQ):QQ:=(a.1+(b.1 - a.1)*(((c.1 - a.1)*(d.2 - c.2) - (c.2 - a.2)*(d.1 - c.1))/den a b c d),a.2+(b.2 - a.2)*(((c.1 - a.1)*(d.2 - c.2) - (c.2 - a.2)*(d.1 - c.1))/den a b c d))
theorem zf7 (h:den a b c d≠0):cz a b (zc2 a b c d)=0/\cz c d (zc2 a b c d)=0:=by
 have e:=ze3 (u:=(c.1 - a.1)*(d.2 - c.2) - (c.2 - a.2)*(d.1 - c.1)) h
 generalize ht:((c.1 - a.1)*(d.2 - c.2) - (c.2 - a.2)*(d.1 - c.1))/den a b c d=t at e
 unfold zc2;rw[ht]
 unfold den at e;unfold cz crs
 refine⟨by grind,?_⟩
 simp only
 grind
theorem zgE (h:den a b c d≠0)(hp:cz a b p=0)(hp':cz c d p=0):p=zc2 a b c d:=zgD h hp hp' (zf7 h).1 (zf7 h).2
theorem ziV (h:den a b c d=0)(hcd:c≠d)(hp:cz a b p=0)(hp':cz c d p=0):cz a b c=0/\cz a b d=0:=by
 obtain⟨s,rfl⟩:=zdq hcd hp'
 unfold den at h;unfold cz crs at *; simp only at*
 constructor <;> grind
theorem zqe:den c d a b=0↔den a b c d=0:=by unfold den;constructor <;> intro h <;> grind
theorem zhO (a b:QQ):∃l h,((l=a/\h=b)\/(l=b/\h=a))/\le2 l h/\∀p,onS a b p↔cz a b p=0/\le2 l p/\le2 p h:=by
 rcases zfa a b with h|h
 ·refine⟨a,b,.inl ⟨rfl,rfl⟩,h,fun p=>and_congr Iff.rfl ⟨fun h'=>h'.elim id fun h2=>?_,.inl⟩⟩
  have e:=zci h (zbh h2.1 h2.2)
  subst e
  exact⟨h2.1,h2.2⟩
 ·refine⟨b,a,.inr ⟨rfl,rfl⟩,h,fun p=>and_congr Iff.rfl ⟨fun h'=>h'.elim (fun h2=>?_) id,.inr⟩⟩
  have e:=zci h (zbh h2.1 h2.2)
  subst e
  exact⟨h2.1,h2.2⟩
def zc3 (a b c d e:QQ):Prop:=e=a\/e=b\/e=c\/e=d
theorem zfK (h:den a b c d=0)(hp:zbp a b c d p):∃l r,zc3 a b c d l/\zc3 a b c d r/\zbp a b c d l/\zbp a b c d r/\∀q,zbp a b c d q->le2 l q/\le2 q r:=by
 by_cases hab:a=b
 ·subst hab
  have e:=zdb.1 hp.1
  subst e
  refine⟨p,p,.inl rfl,.inl rfl,hp,hp,fun q hq=>?_⟩
  rw[zdb.1 hq.1];exact⟨zbk _,zbk _⟩
 by_cases hcd:c=d
 ·subst hcd
  have e:=zdb.1 hp.2
  subst e
  refine⟨p,p,.inr (.inr (.inl rfl)),.inr (.inr (.inl rfl)),hp,hp,fun q hq=>?_⟩
  rw[zdb.1 hq.2];exact⟨zbk _,zbk _⟩
 obtain⟨hc,hd⟩:=ziV h hcd hp.1.1 hp.2.1
 obtain⟨ha,hb⟩:=ziV (zqe.2 h) hab hp.2.1 hp.1.1
 obtain⟨l1,r1,e1,-,f1⟩:=zhO a b
 obtain⟨l2,r2,e2,-,f2⟩:=zhO c d
 have hla:cz a b l1=0/\cz c d l1=0/\cz a b r1=0/\cz c d r1=0/\zc3 a b c d l1/\zc3 a b c d r1:=by
  rcases e1 with⟨rfl,rfl⟩|⟨rfl,rfl⟩
  ·exact⟨zdJ _ _,ha,zei _ _,hb,.inl rfl,.inr (.inl rfl)⟩
  ·exact⟨zei _ _,hb,zdJ _ _,ha,.inr (.inl rfl),.inl rfl⟩
 have hlc:cz a b l2=0/\cz c d l2=0/\cz a b r2=0/\cz c d r2=0/\zc3 a b c d l2/\zc3 a b c d r2:=by
  rcases e2 with⟨rfl,rfl⟩|⟨rfl,rfl⟩
  ·exact⟨hc,zdJ _ _,hd,zei _ _,.inr (.inr (.inl rfl)),.inr (.inr (.inr rfl))⟩
  ·exact⟨hd,zei _ _,hc,zdJ _ _,.inr (.inr (.inr rfl)),.inr (.inr (.inl rfl))⟩
 obtain⟨-,p1,p2⟩:=(f1 p).1 hp.1
 obtain⟨-,p3,p4⟩:=(f2 p).1 hp.2
 have hL:∃l,zc3 a b c d l/\cz a b l=0/\cz c d l=0/\le2 l1 l/\le2 l2 l/\∀q,le2 l1 q->le2 l2 q->le2 l q:=by
  rcases zfa l1 l2 with k|k
  ·exact⟨l2,hlc.2.2.2.2.1,hlc.1,hlc.2.1,k,zbk _,fun q _ h=>h⟩
  ·exact⟨l1,hla.2.2.2.2.1,hla.1,hla.2.1,zbk _,k,fun q h _=>h⟩
 have hR:∃r,zc3 a b c d r/\cz a b r=0/\cz c d r=0/\le2 r r1/\le2 r r2/\∀q,le2 q r1->le2 q r2->le2 q r:=by
  rcases zfa r1 r2 with k|k
  ·exact⟨r1,hla.2.2.2.2.2,hla.2.2.1,hla.2.2.2.1,zbk _,k,fun q h _=>h⟩
  ·exact⟨r2,hlc.2.2.2.2.2,hlc.2.2.1,hlc.2.2.2.1,k,zbk _,fun q _ h=>h⟩
 obtain⟨l,l1e,l2e,l3,l4,l5,l6⟩:=hL
 obtain⟨r,r1e,r2e,r3,r4,r5,r6⟩:=hR
 have kl:=l6 p p1 p3
 have kr:=r6 p p2 p4
 refine⟨l,r,l1e,r1e,⟨(f1 l).2 ⟨l2e,l4,zbh kl p2⟩,(f2 l).2 ⟨l3,l5,zbh kl p4⟩⟩,⟨(f1 r).2 ⟨r2e,zbh p1 kr,r4⟩,(f2 r).2 ⟨r3,zbh p3 kr,r5⟩⟩,fun q hq=>?_⟩
 obtain⟨-,q1,q2⟩:=(f1 q).1 hq.1
 obtain⟨-,q3,q4⟩:=(f2 q).1 hq.2
 exact⟨l6 q q1 q3,r6 q q2 q4⟩
theorem zen {l r:QQ}(hne:l≠r)(hl:onS a b l)(hr:onS a b r)(hq:cz l r q=0)(h1:le2 l q)(h2:le2 q r):onS a b q:=by
 obtain⟨m,k,e1,-,f⟩:=zhO a b
 obtain⟨l0,l1,l2⟩:=(f l).1 hl
 obtain⟨r0,r1,r2⟩:=(f r).1 hr
 by_cases hab:a=b
 ·subst hab
  exact absurd ((zdb.1 hl).trans (zdb.1 hr).symm) hne
 ·exact(f q).2 ⟨ztr hab l0 r0 hne hq,zbh l1 h1,zbh h2 r2⟩
inductive Mt where
 |none
 |point (A:QQ)
 |over (A B:QQ)
def Spec (a b c d:QQ):Mt->Prop
 | .none=>∀p,¬zbp a b c d p
 | .point A=>∀p,zbp a b c d p↔p=A
 | .over A B=>lt2 A B/\∀p,zbp a b c d p↔onS A B p
theorem Spec.one {m m':Mt}(h:Spec a b c d m)(h':Spec a b c d m'):m=m':=by
 cases m with
 |none=>
  cases m' with
  |none=>rfl
  |point A=>exact absurd ((h' A).2 rfl) (h A)
  |over A B=>exact absurd ((h'.2 A).2 (zfD A B)) (h A)
 |point A=>
  cases m' with
  |none=>exact absurd ((h A).2 rfl) (h' A)
  |point B=>rw[(h' A).1 ((h A).2 rfl)]
  |over B C=>exact absurd (((h B).1 ((h'.2 B).2 (zfD B C))).trans ((h C).1 ((h'.2 C).2 (zhN B C))).symm) (zcx.1 h'.1).2
 |over A B=>
  cases m' with
  |none=>exact absurd ((h.2 A).2 (zfD A B)) (h' A)
  |point C=>exact absurd (((h' A).1 ((h.2 A).2 (zfD A B))).trans ((h' B).1 ((h.2 B).2 (zhN A B))).symm) (zcx.1 h.1).2
  |over C D=>
   have k:∀p,onS A B p↔onS C D p:=fun p=>(h.2 p).symm.trans (h'.2 p)
   have a1:=((zfJ h'.1).1 ((k A).1 (zfD A B))).2
   have a2:=((zfJ h'.1).1 ((k B).1 (zhN A B))).2
   have a3:=((zfJ h.1).1 ((k C).2 (zfD C D))).2
   have a4:=((zfJ h.1).1 ((k D).2 (zhN C D))).2
   rw[zci a1.1 a3.1,zci a2.2 a4.2]
theorem zmi:zbp b a c d p↔zbp a b c d p:=and_congr zf6 Iff.rfl
theorem zkS:zbp a b d c p↔zbp a b c d p:=and_congr Iff.rfl zf6
theorem zmj:zbp c d a b p↔zbp a b c d p:=And.comm
theorem Spec.of {a' b' c' d':QQ}{m:Mt}(h:Spec a b c d m)(k:∀p,zbp a' b' c' d' p↔zbp a b c d p):Spec a' b' c' d' m:=by
 cases m with
 |none=>exact fun p hp=>h p ((k p).1 hp)
 |point A=>exact fun p=>(k p).trans (h p)
 |over A B=>exact⟨h.1,fun p=>(k p).trans (h.2 p)⟩
theorem zoy {A B:QQ}(hAB:lt2 A B)(hA:zbp a b c d A)(hB:zbp a b c d B)(hlo:∀e,zc3 a b c d e->zbp a b c d e->le2 A e/\le2 e B):Spec a b c d (.over A B):=by
 have hne:=(zcx.1 hAB).2
 refine⟨hAB,fun p=>⟨fun hp=>?_,fun hp=>?_⟩⟩
 ·have hd:den a b c d=0:=Classical.byContradiction fun h=>hne (zgD h hA.1.1 hA.2.1 hB.1.1 hB.2.1)
  obtain⟨l,r,le,re,li,ri,hb⟩:=zfK hd hp
  obtain⟨k1,k2⟩:=hb p hp
  have hab:a≠b:=fun e=>by subst e;exact hne ((zdb.1 hA.1).trans (zdb.1 hB.1).symm)
  exact⟨znq hab hA.1.1 hB.1.1 hp.1.1,.inl ⟨zbh (hlo l le li).1 k1,zbh k2 (hlo r re ri).2⟩⟩
 ·obtain⟨h0,h1,h2⟩:=(zfJ hAB).1 hp
  exact⟨zen hne hA.1 hB.1 h0 h1 h2,zen hne hA.2 hB.2 h0 h1 h2⟩
theorem zmk {A:QQ}(hA:zbp a b c d A)(hone:∀e,zc3 a b c d e->zbp a b c d e->e=A):Spec a b c d (.point A):=fun p=>by
 refine⟨fun hp=>?_,fun e=>by rw[e];exact hA⟩
 by_cases hd:den a b c d=0
 ·obtain⟨l,r,le,re,li,ri,hb⟩:=zfK hd hp
  obtain⟨k1,k2⟩:=hb p hp
  rw[hone l le li]at k1
  rw[hone r re ri]at k2
  exact zci k2 k1
 ·exact zgD hd hp.1.1 hp.2.1 hA.1.1 hA.2.1
theorem ziW (hd:den a b c d≠0)(h:zbp a b c d (zc2 a b c d)):Spec a b c d (.point (zc2 a b c d)):=fun p=>⟨fun hp=>zgE hd hp.1.1 hp.2.1,fun e=>by rw[e];exact h⟩
theorem zoz (hno:∀e,zc3 a b c d e-> ¬zbp a b c d e)(h:den a b c d≠0-> ¬zbp a b c d (zc2 a b c d)):Spec a b c d .none:=fun p hp=>by
 by_cases hd:den a b c d=0
 ·obtain⟨l,r,le,re,li,ri,hb⟩:=zfK hd hp
  exact hno l le li
 ·exact h hd (zgE hd hp.1.1 hp.2.1▸hp)
end
section
variable {a b c d p q x y v:QQ}{l r:List QQ}
def zml:List QQ->QQ->List QQ
 |[],p=>[p]
 |x::l,p=>if za7 x.1 x.2 p.1 p.2<0 then x::zml l p else if za7 x.1 x.2 p.1 p.2=0 then x::l else p::x::l
def Inc (l:List QQ):Prop:=l.Pairwise lt2
theorem zkT:q∈zml l p↔q=p\/q∈l:=by
 induction l with
 |nil=>simp[zml]
 |cons x l ih=>
  unfold zml
  split
  ·rw[List.mem_cons,ih,List.mem_cons];constructor <;> (intro h;rcases h with h|h|h <;> simp[h])
  ·split
   ·rename_i h
    have e:=zcK.1 h
    subst e
    simp
   ·simp
theorem zqf (h:Inc l):Inc (zml l p):=by
 induction l with
 |nil=>exact List.pairwise_singleton _ _
 |cons x l ih=>
  obtain⟨h1,h2⟩:=List.pairwise_cons.1 h
  unfold zml
  split
  ·rename_i h3
   exact List.pairwise_cons.2 ⟨fun y hy=>(zkT.1 hy).elim (fun e=>by rw[e];exact zdp.1 h3) (h1 y),ih h2⟩
  ·split
   ·exact h
   ·rename_i h3 h4
    have h5:lt2 p x:=zcx.2 ⟨zem.1 (fun h=>h3 (zdp.2 h)),fun e=>h4 (zcK.2 e.symm)⟩
    refine List.pairwise_cons.2 ⟨fun y hy=>?_,h⟩
    rcases List.mem_cons.1 hy with rfl|hy
    ·exact h5
    ·have:=h1 y hy;unfold lt2 at *; grind
theorem zoA (h:Inc (x::l)):∀y∈x::l,le2 x y:=fun y hy=>by
 rcases List.mem_cons.1 hy with rfl|hy
 ·exact zbk _
 ·exact(zcx.1 ((List.pairwise_cons.1 h).1 y hy)).1
theorem zqg (h:Inc l)(hne:l≠[]):∀y∈l,le2 y (l.getLast hne):=by
 induction l with
 |nil=>exact absurd rfl hne
 |cons x l ih=>
  intro y hy
  cases l with
  |nil=>rw[List.mem_singleton.1 hy];exact zbk _
  |cons z l=>
   rw[List.getLast_cons (by simp)]
   rcases List.mem_cons.1 hy with rfl|hy
   ·exact(zcx.1 ((List.pairwise_cons.1 h).1 _ (List.getLast_mem _))).1
   ·exact ih (List.pairwise_cons.1 h).2 (by simp) y hy
def onD (a b p:QQ):Bool:=decide (crs a.1 a.2 b.1 b.2 p.1 p.2=0)&&decide ((p.1 - a.1)*(p.1 - b.1)+(p.2 - a.2)*(p.2 - b.2)<=0)
theorem zcy (t:Rat):0<=t*t:=by
 rcases(by grind:t=0\/0<t\/0< -t)with h|h|h
 ·rw[h,Rat.zero_mul];exact Rat.le_refl
 ·exact Rat.le_of_lt (Rat.mul_pos h h)
 ·have:=Rat.mul_pos h h;grind
theorem zeR {t:Rat}(h:t≠0):0<t*t:=by
 rcases(by grind:0<t\/0< -t)with h|h
 ·exact Rat.mul_pos h h
 ·have:=Rat.mul_pos h h;grind
theorem zsx (t:Rat):0<=zaq 0 t*zaq t 1↔t*(t - 1)<=0:=by
 have e:t*(t - 1)<=0↔zaq t 0*zaq (t - 1) 0<=0:=by rw[<-zdW,zfT]
 rw[e,<-zdj t 1,zdG t 0]
 rcases tri t 0 with h|h|h <;> rcases tri t 1 with h2|h2|h2 <;> rw[h,h2] <;> decide
theorem zhs:onD a b p=true↔onS a b p:=by
 rw[<-znp]
 unfold onD
 rw[Bool.and_eq_true,decide_eq_true_eq,decide_eq_true_eq]
 unfold onR
 rw[Bool.and_eq_true,decide_eq_true_eq,decide_eq_true_eq]
 refine and_congr_right fun h=>?_
 by_cases hab:a=b
 ·subst hab
  rw[zjk]
  constructor
  ·intro h1
   have e:p=a:=by
    have h2:=zcy (p.1 - a.1)
    have h3:=zcy (p.2 - a.2)
    refine Prod.ext ?_ ?_
    ·exact Classical.byContradiction fun hne=>by have:=zeR (t:=p.1 - a.1) (by grind);grind
    ·exact Classical.byContradiction fun hne=>by have:=zeR (t:=p.2 - a.2) (by grind);grind
   rw[e,zpA];decide
  ·intro h1
   have e:p=a:=by
    refine(zcK.1 ?_).symm
    have:=zdL a.1 a.2 p.1 p.2
    rcases(by omega:za7 a.1 a.2 p.1 p.2= -1\/za7 a.1 a.2 p.1 p.2=0\/za7 a.1 a.2 p.1 p.2=1)with k|k|k
    ·rw[k]at h1;exact absurd h1 (by decide)
    ·exact k
    ·rw[k]at h1;exact absurd h1 (by decide)
   rw[e];grind
 ·have hab': ¬(a.1=b.1/\a.2=b.2):=fun e=>hab (Prod.ext e.1 e.2)
  obtain⟨t,h1,h2⟩:=zif h hab'
  rw[h1,h2,znW hab',zsx]
  have e:(a.1+(b.1 - a.1)*t - a.1)*(a.1+(b.1 - a.1)*t - b.1)+(a.2+(b.2 - a.2)*t - a.2)*(a.2+(b.2 - a.2)*t - b.2)=(t*(t - 1))*((b.1 - a.1)*(b.1 - a.1)+(b.2 - a.2)*(b.2 - a.2)):=by grind
  have hn:0<(b.1 - a.1)*(b.1 - a.1)+(b.2 - a.2)*(b.2 - a.2):=by
   have h2:=zcy (b.1 - a.1)
   have h3:=zcy (b.2 - a.2)
   by_cases k:b.1=a.1
   ·have:=zeR (t:=b.2 - a.2) (by intro e;exact hab' ⟨k.symm,by grind⟩);grind
   ·have:=zeR (t:=b.1 - a.1) (by grind);grind
  rw[e]
  generalize (b.1 - a.1)*(b.1 - a.1)+(b.2 - a.2)*(b.2 - a.2)=n at hn
  rw[<-zdW,<-zdW,zfT,show zaq n 0=1 by rw[zdG 0 n,zcX hn];rfl]
  omega
def znr (a b c d p:QQ):Bool:=onD a b p&&onD c d p
theorem zfb:znr a b c d p=true↔zbp a b c d p:=by unfold znr zbp;rw[Bool.and_eq_true,zhs,zhs]
def zkU (a b c d:QQ)(l:List QQ)(e:QQ):List QQ:=if znr a b c d e then zml l e else l
theorem zf8:q∈zkU a b c d l x↔(q=x/\zbp a b c d x)\/q∈l:=by
 unfold zkU
 split
 ·rename_i h;rw[zkT];simp[zfb.1 h]
 ·rename_i h;rw[zfb]at h;simp[h]
theorem zf9 (h:Inc l):Inc (zkU a b c d l x):=by unfold zkU;split;exact zqf h;exact h
def zns (a b c d:QQ):List QQ:=zkU a b c d (zkU a b c d (zkU a b c d (zkU a b c d [] a) b) c) d
theorem zgF:q∈zns a b c d↔zc3 a b c d q/\zbp a b c d q:=by
 unfold zns zc3
 rw[zf8,zf8,zf8,zf8]
 constructor
 ·rintro(⟨rfl,h⟩|⟨rfl,h⟩|⟨rfl,h⟩|⟨rfl,h⟩|h)
  ·exact⟨.inr (.inr (.inr rfl)),h⟩
  ·exact⟨.inr (.inr (.inl rfl)),h⟩
  ·exact⟨.inr (.inl rfl),h⟩
  ·exact⟨.inl rfl,h⟩
  ·cases h
 ·rintro⟨rfl|rfl|rfl|rfl,h⟩
  ·exact .inr (.inr (.inr (.inl ⟨rfl,h⟩)))
  ·exact .inr (.inr (.inl ⟨rfl,h⟩))
  ·exact .inr (.inl ⟨rfl,h⟩)
  ·exact .inl ⟨rfl,h⟩
theorem zoB:Inc (zns a b c d):=zf9 (zf9 (zf9 (zf9 List.Pairwise.nil)))
def zaB (a b c d:QQ):Mt:=match zns a b c d with
 |[]=>if den a b c d≠0/\znr a b c d (zc2 a b c d)=true then .point (zc2 a b c d)else .none
 |[A]=> .point A
 |A::B::l=> .over A ((B::l).getLast (by simp))
theorem zc4:Spec a b c d (zaB a b c d):=by
 have hm:=fun q=>zgF (a:=a) (b:=b) (c:=c) (d:=d) (q:=q)
 have hi:=zoB (a:=a) (b:=b) (c:=c) (d:=d)
 unfold zaB
 split
 ·rename_i e
  rw[e]at hm
  have hno:∀e,zc3 a b c d e-> ¬zbp a b c d e:=fun e he hI=>by have:=(hm e).2 ⟨he,hI⟩;cases this
  split
  ·rename_i h;exact ziW h.1 (zfb.1 h.2)
  ·rename_i h;exact zoz hno fun hd hI=>h ⟨hd,zfb.2 hI⟩
 ·rename_i A e
  rw[e]at hm
  exact zmk ((hm A).1 List.mem_cons_self).2 fun e he hI=>List.mem_singleton.1 ((hm e).2 ⟨he,hI⟩)
 ·rename_i A B l e
  rw[e]at hm hi
  have hB:(B::l).getLast (by simp)∈A::B::l:=List.mem_cons_of_mem _ (List.getLast_mem _)
  refine zoy ((List.pairwise_cons.1 hi).1 _ (List.getLast_mem _)) ((hm A).1 List.mem_cons_self).2 ((hm _).1 hB).2 fun e he hI=>?_
  have:=(hm e).2 ⟨he,hI⟩
  refine⟨zoA hi e this,?_⟩
  have h2:=zqg hi (by simp) e this
  rwa [List.getLast_cons (by simp)]at h2
theorem zed {m:Mt}(h:Spec a b c d m):zaB a b c d=m:=zc4.one h
theorem zeo:zaB b a c d=zaB a b c d:=zed (zc4.of fun _=>zmi)
theorem zdP:zaB a b d c=zaB a b c d:=zed (zc4.of fun _=>zkS)
theorem zep:zaB c d a b=zaB a b c d:=zed (zc4.of fun _=>zmj)
def mvQ (a v:QQ):QQ:=(a.1+v.1,a.2+v.2)
def Mt.mvM:Mt->QQ->Mt
 | .none,_=> .none
 | .point A,v=> .point (mvQ A v)
 | .over A B,v=> .over (mvQ A v) (mvQ B v)
theorem zjG (p v:QQ):∃q,p=mvQ q v:=⟨(p.1 - v.1,p.2 - v.2),by unfold mvQ;exact Prod.ext (by grind) (by grind)⟩
theorem zul:mvQ p v=mvQ q v↔p=q:=⟨fun h=>Prod.ext (by have:=congrArg Prod.fst h;simp only[mvQ]at this;grind) (by have:=congrArg Prod.snd h;simp only[mvQ]at this;grind),fun h=>by rw[h]⟩
theorem zjH:le2 (mvQ x v) (mvQ y v)↔le2 x y:=by unfold le2 mvQ;grind
theorem zum:lt2 (mvQ x v) (mvQ y v)↔lt2 x y:=by unfold lt2 mvQ;grind
theorem zmm:onS (mvQ a v) (mvQ b v) (mvQ p v)↔onS a b p:=by
 unfold onS
 rw[zjH,zjH,zjH,zjH,show cz (mvQ a v) (mvQ b v) (mvQ p v)=cz a b p by unfold cz crs mvQ;grind]
theorem zhP:zbp (mvQ a v) (mvQ b v) (mvQ c v) (mvQ d v) (mvQ p v)↔zbp a b c d p:=and_congr zmm zmm
theorem Spec.mv {m:Mt}(h:Spec a b c d m):Spec (mvQ a v) (mvQ b v) (mvQ c v) (mvQ d v) (m.mvM v):=by
 cases m with
 |none=>intro p hp;obtain⟨q,rfl⟩:=zjG p v;exact h q (zhP.1 hp)
 |point A=>intro p;obtain⟨q,rfl⟩:=zjG p v;rw[zhP,zul];exact h q
 |over A B=>exact⟨zum.2 h.1,fun p=>by obtain⟨q,rfl⟩:=zjG p v;rw[zhP,zmm];exact h.2 q⟩
theorem zqh:zaB (mvQ a v) (mvQ b v) (mvQ c v) (mvQ d v)=(zaB a b c d).mvM v:=zed zc4.mv
theorem zjI {t:Rat}(h0:0<=t)(h1:t<=1):onS a b (a.1+(b.1 - a.1)*t,a.2+(b.2 - a.2)*t):=by
 rw[<-zhs]
 unfold onD
 rw[Bool.and_eq_true,decide_eq_true_eq,decide_eq_true_eq]
 refine⟨by unfold crs;grind,?_⟩
 have e:(a.1+(b.1 - a.1)*t - a.1)*(a.1+(b.1 - a.1)*t - b.1)+(a.2+(b.2 - a.2)*t - a.2)*(a.2+(b.2 - a.2)*t - b.2)=(t*(t - 1))*((b.1 - a.1)*(b.1 - a.1)+(b.2 - a.2)*(b.2 - a.2)):=by grind
 simp only
 rw[e]
 have h2:=zcy (b.1 - a.1)
 have h3:=zcy (b.2 - a.2)
 have h4:0<=(b.1 - a.1)*(b.1 - a.1)+(b.2 - a.2)*(b.2 - a.2):=by grind
 have h5:=Rat.mul_nonneg (Rat.mul_nonneg h0 (by grind:0<=1 - t)) h4
 grind
theorem zqi {m:Mt}(h:Spec a b c d m)(hp:zbp a b c d p):m= .point p\/ ∃A B,m= .over A B/\lt2 A B/\zbp a b c d A/\zbp a b c d B/\onS A B p:=by
 cases m with
 |none=>exact absurd hp (h p)
 |point A=>exact .inl (by rw[(h p).1 hp])
 |over A B=>exact .inr ⟨A,B,rfl,h.1,(h.2 A).2 (zfD A B),(h.2 B).2 (zhN A B),(h.2 p).1 hp⟩
end
section
variable {a b c d x:QQ}{l p q:List QQ}{m:Mt}
def Mt.pts:Mt->List QQ
 | .none=>[]
 | .point A=>[A]
 | .over A B=>[A,B]
def o2:QQ:=(0,0)
def nx (p:List QQ)(i:Nat):QQ:=p.getD ((i+1)%p.length) o2
end
section
variable {a b c d p q x y z:QQ}
theorem zqj {t:Rat}(hu:cz a b c*cz a b d<=0)(hne:cz a b d - cz a b c≠0)(hp:cz a b (c.1+(d.1 - c.1)*t,c.2+(d.2 - c.2)*t)=0):0<=t/\t<=1:=by
 have e:cz a b c+t*(cz a b d - cz a b c)=0:=by rw[<-hp];unfold cz crs;grind
 generalize cz a b c=u at*
 generalize cz a b d=v at*
 have e2:t*(1 - t)*((v - u)*(v - u))= -(u*v):=by
  have:t*(v - u)= -u:=by grind
  calc t*(1 - t)*((v - u)*(v - u))=(t*(v - u))*((v - u) - t*(v - u)):=by grind
   _= -(u*v):=by rw[this];grind
 have hs:=zeR hne
 have h3:0<=t*(1 - t)*((v - u)*(v - u)):=by rw[e2];grind
 have h4:0<=t*(1 - t):=by
  rcases(by grind:0<=t*(1 - t)\/0< -(t*(1 - t)))with h|h
  ·exact h
  ·have:=Rat.mul_pos h hs;grind
 constructor
 ·rcases(by grind:0<=t\/0< -t)with h|h
  ·exact h
  ·have:=Rat.mul_pos h (by grind:0<1 - t);grind
 ·rcases(by grind:t<=1\/0<t - 1)with h|h
  ·exact h
  ·have:=Rat.mul_pos h (by grind:0<t);grind
theorem zqk:cz a b d - cz a b c=den a b c d:=by unfold cz crs den;grind
theorem znt:cz c d b - cz c d a= -den a b c d:=by unfold cz crs den;grind
theorem zsy (h:den a b c d≠0)(hu:cz a b c*cz a b d<=0):onS c d (zc2 a b c d):=by
 obtain⟨h1,h2⟩:=zf7 h
 obtain⟨t,e⟩:=zdq (zjF h).2 h2
 rw[e]at h1 ⊢
 obtain⟨t0,t1⟩:=zqj hu (by rw[zqk];exact h) h1
 exact zjI t0 t1
theorem zql (h:den a b c d≠0)(hu:cz c d a*cz c d b<=0):onS a b (zc2 a b c d):=by
 obtain⟨h1,h2⟩:=zf7 h
 obtain⟨t,e⟩:=zdq (zjF h).1 h1
 rw[e]at h2 ⊢
 obtain⟨t0,t1⟩:=zqj hu (by rw[znt];grind) h2
 exact zjI t0 t1
theorem zhQ (h:onS c d p)(hp:cz a b p=0):cz a b c*cz a b d<=0:=by
 by_cases hcd:c=d
 ·subst hcd;rw[<-zdb.1 h,hp];grind
 ·obtain⟨t,rfl⟩:=zdq hcd h.1
  have hD:=zhs.2 h
  unfold onD at hD
  rw[Bool.and_eq_true,decide_eq_true_eq,decide_eq_true_eq]at hD
  have e:cz a b c+t*(cz a b d - cz a b c)=0:=by rw[<-hp];unfold cz crs;grind
  have hw:=hD.2
  have e3:(c.1+(d.1 - c.1)*t - c.1)*(c.1+(d.1 - c.1)*t - d.1)+(c.2+(d.2 - c.2)*t - c.2)*(c.2+(d.2 - c.2)*t - d.2)=(t*(t - 1))*((d.1 - c.1)*(d.1 - c.1)+(d.2 - c.2)*(d.2 - c.2)):=by grind
  simp only at hw
  rw[e3]at hw
  have hq:0<(d.1 - c.1)*(d.1 - c.1)+(d.2 - c.2)*(d.2 - c.2):=by
   by_cases e1:d.1 - c.1=0
   ·have e2:d.2 - c.2≠0:=fun e2=>hcd (Prod.ext (by grind) (by grind))
    have:=zeR e2;have:=zcy (d.1 - c.1);grind
   ·have:=zeR e1;have:=zcy (d.2 - c.2);grind
  have ht:t*(t - 1)<=0:=by
   rcases(by grind:t*(t - 1)<=0\/0<t*(t - 1))with h|h
   ·exact h
   ·have:=Rat.mul_pos h hq;grind
  generalize cz a b c=u at*
  generalize cz a b d=v at*
  have e4:u*v=(t*(t - 1))*((v - u)*(v - u)):=by
   have:u= -(t*(v - u)):=by grind
   have h2:v=(1 - t)*(v - u):=by grind
   calc u*v=(-(t*(v - u)))*((1 - t)*(v - u)):=by rw[<-this,<-h2]
    _=(t*(t - 1))*((v - u)*(v - u)):=by grind
  rw[e4]
  have:=Rat.mul_nonneg (by grind:0<= -(t*(t - 1))) (zcy (v - u))
  grind
theorem zeS (h:le2 a b):onS a b p↔cz a b p=0/\le2 a p/\le2 p b:=by
 by_cases e:a=b
 ·subst e
  exact zdb.trans ⟨fun e=>by rw[e];exact⟨zgv a a,zbk a,zbk a⟩,fun h=>zci h.2.2 h.2.1⟩
 ·exact zfJ (zcx.2 ⟨h,e⟩)
def spL (a b:QQ):QQ:=if 0<za7 a.1 a.2 b.1 b.2 then b else a
def spH (a b:QQ):QQ:=if 0<za7 a.1 a.2 b.1 b.2 then a else b
def zb9 (a b:QQ):QQ:=if za7 a.1 a.2 b.1 b.2<0 then b else a
def zbl (a b:QQ):QQ:=if 0<za7 a.1 a.2 b.1 b.2 then b else a
theorem zht:0<za7 x.1 x.2 y.1 y.2↔lt2 y x:=by rw[<-zdp,ze8];omega
theorem ztN:le2 (spL a b) (spH a b):=by
 unfold spL spH
 by_cases h:0<za7 a.1 a.2 b.1 b.2
 ·rw[if_pos h,if_pos h];exact(zcx.1 (zht.1 h)).1
 ·rw[if_neg h,if_neg h];exact zem.1 (fun k=>h (zht.2 k))
theorem zqm:onS (spL a b) (spH a b) p↔onS a b p:=by
 unfold spL spH
 by_cases h:0<za7 a.1 a.2 b.1 b.2
 ·rw[if_pos h,if_pos h];exact zf6
 ·rw[if_neg h,if_neg h]
theorem zqn:le2 a (zb9 a b)/\le2 b (zb9 a b)/\(zb9 a b=a\/zb9 a b=b):=by
 unfold zb9
 by_cases h:za7 a.1 a.2 b.1 b.2<0
 ·rw[if_pos h];exact⟨(zcx.1 (zdp.1 h)).1,zbk b,.inr rfl⟩
 ·rw[if_neg h];exact⟨zbk a,zem.1 (fun k=>h (zdp.2 k)),.inl rfl⟩
theorem zmn:le2 (zbl a b) a/\le2 (zbl a b) b/\(zbl a b=a\/zbl a b=b):=by
 unfold zbl
 by_cases h:0<za7 a.1 a.2 b.1 b.2
 ·rw[if_pos h];exact⟨(zcx.1 (zht.1 h)).1,zbk b,.inr rfl⟩
 ·rw[if_neg h];exact⟨zbk a,zem.1 (fun k=>h (zht.2 k)),.inl rfl⟩
def zeq (a b c d:QQ):Bool:=decide (0<zaq (cz a b c) 0*zaq (cz a b d) 0)
def zgG (b c:QQ):Bool:=decide (za7 b.1 b.2 c.1 c.2<0)
def zbI (a b c d:QQ):Bool:= !zgG b c&& !zgG d a&& !zeq a b c d&& !zeq c d a b
def zbU (a b:QQ):Mt:=if za7 a.1 a.2 b.1 b.2=0 then .point a else .over a b
def zcS (a b c d:QQ):Mt:=if zbI a b c d=true then(if den a b c d≠0 then zbU (zc2 a b c d) (zc2 a b c d)else zbU (zb9 a c) (zbl b d))else .none
theorem zg8:zeq a b c d=true↔0<cz a b c*cz a b d:=by
 unfold zeq
 rw[decide_eq_true_eq,<-zfT,<-Int.not_le,<-Rat.not_le]
 exact not_congr zdW
theorem zhR:zbI a b c d=true↔le2 c b/\le2 a d/\cz a b c*cz a b d<=0/\cz c d a*cz c d b<=0:=by
 unfold zbI zgG
 rw[Bool.and_eq_true,Bool.and_eq_true,Bool.and_eq_true,Bool.not_eq_true',Bool.not_eq_true',Bool.not_eq_true',Bool.not_eq_true',decide_eq_false_iff_not,decide_eq_false_iff_not,zdp,zdp,zem,zem,<-Bool.not_eq_true,<-Bool.not_eq_true,zg8,zg8,Rat.not_lt,Rat.not_lt]
 exact⟨fun⟨⟨⟨h1,h2⟩,h3⟩,h4⟩=>⟨h1,h2,h3,h4⟩,fun⟨h1,h2,h3,h4⟩=>⟨⟨⟨h1,h2⟩,h3⟩,h4⟩⟩
theorem zoC {l r:QQ}(hlr:le2 l r)(h:∀p,zbp a b c d p↔cz l r p=0/\le2 l p/\le2 p r):Spec a b c d (zbU l r):=by
 unfold zbU
 by_cases e:l=r
 ·rw[if_pos (zcK.2 e)]
  subst e
  exact fun p=>(h p).trans ⟨fun h=>zci h.2.2 h.2.1,fun e=>by rw[e];exact⟨zgv l l,zbk l,zbk l⟩⟩
 ·rw[if_neg (fun k=>e (zcK.1 k))]
  have hlt:=zcx.2 ⟨hlr,e⟩
  exact⟨hlt,fun p=>(h p).trans (zfJ hlt).symm⟩
theorem zmo (hab:le2 a b)(hcd:le2 c d):Spec a b c d (zcS a b c d):=by
 unfold zcS
 by_cases hm:zbI a b c d=true
 ·rw[if_pos hm]
  obtain⟨hcb,had,hu,hv⟩:=zhR.1 hm
  by_cases hd:den a b c d≠0
  ·rw[if_pos hd]
   have hs:=ziW hd ⟨zql hd hv,zsy hd hu⟩
   unfold zbU
   rw[if_pos (zcK.2 rfl)]
   exact hs
  ·rw[if_neg hd]
   have hd:=Classical.not_not.1 hd
   have sq0:∀ {s t:Rat},t - s=0->s*t<=0->s=0/\t=0:=fun {s t} h1 h2=>by
    have e:t=s:=by grind
    subst e
    have:t=0:=Classical.byContradiction fun hn=>by have:=zeR hn;grind
    exact⟨this,this⟩
   obtain⟨uc,ud⟩:=sq0 (zqk.trans hd) hu
   obtain⟨va,vb⟩:=sq0 (znt.trans (by rw[hd];grind)) hv
   obtain⟨l1,l2,l3⟩:=zqn (a:=a) (b:=c)
   obtain⟨r1,r2,r3⟩:=zmn (a:=b) (b:=d)
   generalize zb9 a c=l at*
   generalize zbl b d=r at*
   have hlr:le2 l r:=by
    rcases l3 with rfl|rfl <;> rcases r3 with rfl|rfl
    ·exact hab
    ·exact had
    ·exact hcb
    ·exact hcd
   have la:cz a b l=0:=by rcases l3 with rfl|rfl;exact zdJ _ _;exact uc
   have lc:cz c d l=0:=by rcases l3 with rfl|rfl;exact va;exact zdJ _ _
   have ra:cz a b r=0:=by rcases r3 with rfl|rfl;exact zei _ _;exact ud
   have rc:cz c d r=0:=by rcases r3 with rfl|rfl;exact vb;exact zei _ _
   have onl:zbp a b c d l:=⟨(zeS hab).2 ⟨la,l1,zbh hlr r1⟩,(zeS hcd).2 ⟨lc,l2,zbh hlr r2⟩⟩
   have onr:zbp a b c d r:=⟨(zeS hab).2 ⟨ra,zbh l1 hlr,r1⟩,(zeS hcd).2 ⟨rc,zbh l2 hlr,r2⟩⟩
   refine zoC hlr fun p=>⟨fun hp=>?_,fun⟨h0,h1,h2⟩=>?_⟩
   ·obtain⟨p0,p1,p2⟩:=(zeS hab).1 hp.1
    obtain⟨q0,q1,q2⟩:=(zeS hcd).1 hp.2
    have lp:le2 l p:=by rcases l3 with rfl|rfl;exact p1;exact q1
    have pr:le2 p r:=by rcases r3 with rfl|rfl;exact p2;exact q2
    refine⟨?_,lp,pr⟩
    by_cases e:l=r
    ·subst e;exact zgv _ _
    ·have hne:a≠b:=fun e2=>by
      subst e2
      exact e (zci hlr (zbh r1 l1))
     exact znq hne la ra p0
   ·by_cases e:l=r
    ·subst e;rw[zci h2 h1];exact onl
    ·exact⟨zen e onl.1 onr.1 h0 h1 h2,zen e onl.2 onr.2 h0 h1 h2⟩
 ·rw[if_neg hm]
  intro p hp
  refine hm (zhR.2 ?_)
  obtain⟨p0,p1,p2⟩:=(zeS hab).1 hp.1
  obtain⟨q0,q1,q2⟩:=(zeS hcd).1 hp.2
  exact⟨zbh q1 p2,zbh p1 q2,zhQ hp.2 p0,zhQ hp.1 q0⟩
def zvq (a b c d:QQ):Mt:=zcS (spL a b) (spH a b) (spL c d) (spH c d)
theorem zkV (a b c d:QQ):zvq a b c d=zaB a b c d:=(zed ((zmo ztN ztN).of fun _=>and_congr zqm.symm zqm.symm)).symm
def Mt.has:Mt->Bool
 | .none=>false
 |_=>true
theorem zqo:(zbU a b).has=true:=by unfold zbU;split <;> rfl
theorem zmp (a b c d:QQ):zbI a b c d=(zcS a b c d).has:=by
 unfold zcS
 by_cases hm:zbI a b c d=true
 ·rw[if_pos hm,hm]
  split <;> exact zqo.symm
 ·rw[if_neg hm];exact Bool.eq_false_iff.2 hm
def zcE (a b c d:QQ):QQ:=if den a b c d=0 then(((0:Int):Rat),((0:Int):Rat))else zc2 a b c d
theorem zsz (h:(!decide (erq (den a b c d)=0))=true):(((0:Int):Rat),((0:Int):Rat))=zcE a b c d/\false=decide (den a b c d≠0):=by
 have e:den a b c d=0:=Classical.byContradiction fun e=>by rw[znR e]at h;exact absurd h (by decide)
 unfold zcE
 rw[if_pos e,e]
 exact⟨rfl,by decide⟩
theorem zsA (h:(!decide (erq (den a b c d)=0))=false):zc2 a b c d=zcE a b c d/\true=decide (den a b c d≠0):=by
 have e:den a b c d≠0:=fun e=>by rw[zrI e]at h;exact absurd h (by decide)
 unfold zcE
 rw[if_neg e]
 exact⟨rfl,(decide_eq_true e).symm⟩
theorem zjJ {q1 q1' q2 q2' q3 q3' q4 q4':Rat}(h:(!decide (erq ((q2 - q1)*(q4' - q3') - (q2' - q1')*(q4 - q3))=0))=true):(((0:Int):Rat),((0:Int):Rat))=zcE (q1,q1') (q2,q2') (q3,q3') (q4,q4')/\false=decide (den (q1,q1') (q2,q2') (q3,q3') (q4,q4')≠0):=zsz h
theorem zjK {q1 q1' q2 q2' q3 q3' q4 q4':Rat}(h:(!decide (erq ((q2 - q1)*(q4' - q3') - (q2' - q1')*(q4 - q3))=0))=false):zc2 (q1,q1') (q2,q2') (q3,q3') (q4,q4')=zcE (q1,q1') (q2,q2') (q3,q3') (q4,q4')/\true=decide (den (q1,q1') (q2,q2') (q3,q3') (q4,q4')≠0):=zsA h
def za4 (a b:QQ)(x:Rat):Rat:=if b.1 - a.1=0 then 0 else a.2+(b.2 - a.2)*((x - a.1)/(b.1 - a.1))
theorem zoD {q1 q1' q2 q2' x:Rat}(h:(!decide (erq (q2 - q1)=0))=true):((0:Int):Rat)=za4 (q1,q1') (q2,q2') x/\false=decide (q2 - q1≠0):=by
 have e:q2 - q1=0:=Classical.byContradiction fun e=>by rw[znR e]at h;exact absurd h (by decide)
 unfold za4
 rw[if_pos e,e]
 exact⟨rfl,by decide⟩
theorem ziX {q1 q1' q2 q2' x:Rat}(h:(!decide (erq (q2 - q1)=0))=true):(0:Rat)=za4 (q1,q1') (q2,q2') x/\false=decide (q2 - q1≠0):=by
 obtain⟨e,e2⟩:=zoD (q1':=q1') (q2':=q2') (x:=x) h
 exact⟨by rw[<-e];rfl,e2⟩
theorem ziY {q1 q1' q2 q2' x:Rat}(h:(!decide (erq (q2 - q1)=0))=false):q1'+(q2' - q1')*((x - q1)/(q2 - q1))=za4 (q1,q1') (q2,q2') x/\true=decide (q2 - q1≠0):=by
 have e:q2 - q1≠0:=fun e=>by rw[zrI e]at h;exact absurd h (by decide)
 unfold za4
 rw[if_neg e]
 exact⟨rfl,(decide_eq_true e).symm⟩
section
variable {q1 q1' q2 q2':Rat}
theorem ztO (h:decide (0<za7 q1 q1' q2 q2')=true):q2=(spL (q1,q1') (q2,q2')).1/\q2'=(spL (q1,q1') (q2,q2')).2:=by unfold spL;rw[if_pos (of_decide_eq_true h)];exact⟨rfl,rfl⟩
theorem ztP (h:decide (0<za7 q1 q1' q2 q2')=false):q1=(spL (q1,q1') (q2,q2')).1/\q1'=(spL (q1,q1') (q2,q2')).2:=by unfold spL;rw[if_neg (of_decide_eq_false h)];exact⟨rfl,rfl⟩
theorem ztQ (h:decide (0<za7 q1 q1' q2 q2')=true):q1=(spH (q1,q1') (q2,q2')).1/\q1'=(spH (q1,q1') (q2,q2')).2:=by unfold spH;rw[if_pos (of_decide_eq_true h)];exact⟨rfl,rfl⟩
theorem ztR (h:decide (0<za7 q1 q1' q2 q2')=false):q2=(spH (q1,q1') (q2,q2')).1/\q2'=(spH (q1,q1') (q2,q2')).2:=by unfold spH;rw[if_neg (of_decide_eq_false h)];exact⟨rfl,rfl⟩
theorem zkW (h:decide (za7 q1 q1' q2 q2'<0)=true):q2=(zb9 (q1,q1') (q2,q2')).1/\q2'=(zb9 (q1,q1') (q2,q2')).2:=by unfold zb9;rw[if_pos (of_decide_eq_true h)];exact⟨rfl,rfl⟩
theorem zkX (h:decide (za7 q1 q1' q2 q2'<0)=false):q1=(zb9 (q1,q1') (q2,q2')).1/\q1'=(zb9 (q1,q1') (q2,q2')).2:=by unfold zb9;rw[if_neg (of_decide_eq_false h)];exact⟨rfl,rfl⟩
theorem zhS (h:decide (0<za7 q1 q1' q2 q2')=true):q2=(zbl (q1,q1') (q2,q2')).1/\q2'=(zbl (q1,q1') (q2,q2')).2:=by unfold zbl;rw[if_pos (of_decide_eq_true h)];exact⟨rfl,rfl⟩
theorem zhT (h:decide (0<za7 q1 q1' q2 q2')=false):q1=(zbl (q1,q1') (q2,q2')).1/\q1'=(zbl (q1,q1') (q2,q2')).2:=by unfold zbl;rw[if_neg (of_decide_eq_false h)];exact⟨rfl,rfl⟩
end
end
end Go.Proofs.YtipckjmgdghkiaaGreatDoor
