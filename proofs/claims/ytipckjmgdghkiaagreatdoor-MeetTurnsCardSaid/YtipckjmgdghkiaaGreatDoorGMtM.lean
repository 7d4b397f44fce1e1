/- A part. -/
import Derived.Test.YtipckjmgdghkiaaGreatDoorGSidA
namespace Go.Proofs.YtipckjmgdghkiaaGreatDoor
open Go Go.RowKit
section
variable {x y z u v w p q:QQ}
def lt2 (x y:QQ):Prop:=x.1<y.1\/(x.1=y.1/\x.2<y.2)
def le2 (x y:QQ):Prop:=x.1<y.1\/(x.1=y.1/\x.2<=y.2)
theorem zbe (x:QQ):le2 x x:= .inr ⟨rfl,by grind⟩
theorem zbc (h:le2 x y)(h':le2 y z):le2 x z:=by unfold le2 at *; grind
theorem zb8 (h:le2 x y)(h':le2 y x):x=y:=by unfold le2 at *; exact Prod.ext (by grind) (by grind)
theorem ze2 (x y:QQ):le2 x y\/le2 y x:=by unfold le2;grind
theorem zct:lt2 x y↔le2 x y/\x≠y:=by
 unfold lt2 le2
 constructor
 ·intro h;refine⟨by grind,fun e=>?_⟩;subst e;grind
 ·rintro⟨h,hne⟩
  by_cases e:x.1=y.1/\x.2=y.2
  ·exact absurd (Prod.ext e.1 e.2) hne
  ·grind
theorem zec: ¬lt2 x y↔le2 y x:=by unfold lt2 le2;grind
theorem zdh:za8 x.1 x.2 y.1 y.2<0↔lt2 x y:=ztf
theorem zcT:za8 x.1 x.2 y.1 y.2=0↔x=y:=zgk.trans ⟨fun h=>Prod.ext h.1 h.2,fun h=>by rw[h];exact⟨rfl,rfl⟩⟩
theorem zhb:za8 x.1 x.2 y.1 y.2<=0↔le2 x y:=by
 rw[<-zec,<-zdh,ze0 x.1 x.2 y.1 y.2];omega
def onS (x y p:QQ):Prop:=cz x y p=0/\((le2 x p/\le2 p y)\/(le2 y p/\le2 p x))
theorem zn5 {m k:Int}(h1: -1<=m/\m<=1)(h2: -1<=k/\k<=1):0<=m*k↔(m<=0/\k<=0)\/(0<=m/\0<=k):=by
 rcases(by omega:m= -1\/m=0\/m=1)with rfl|rfl|rfl <;> rcases(by omega:k= -1\/k=0\/k=1)with rfl|rfl|rfl <;> decide
theorem zr3:onR x.1 x.2 y.1 y.2 p.1 p.2=true↔onS x y p:=by
 unfold onR onS
 rw[Bool.and_eq_true,decide_eq_true_eq,decide_eq_true_eq]
 refine and_congr Iff.rfl ?_
 unfold zhZ
 rw[zn5 (zes _ _ _ _) (zes _ _ _ _),zhb,zhb]
 refine or_congr Iff.rfl ?_
 rw[<-zhb (x:=y),<-zhb (x:=p) (y:=x),ze0 p.1 p.2 y.1 y.2,ze0 x.1 x.2 p.1 p.2]
 omega
theorem zfT:onS y x p↔onS x y p:=by
 unfold onS
 exact and_congr ⟨znw,znw⟩ ⟨Or.symm,Or.symm⟩
theorem zft (x y:QQ):onS x y x:=⟨zdz x y,(ze2 x y).elim (fun h=> .inl ⟨zbe x,h⟩) (fun h=> .inr ⟨h,zbe x⟩)⟩
theorem ziC (x y:QQ):onS x y y:=zfT.1 (zft y x)
theorem zc1:onS x x p↔p=x:=⟨fun h=>h.2.elim (fun h=>zb8 h.2 h.1) (fun h=>zb8 h.2 h.1),fun h=>by rw[h];exact zft x x⟩
theorem zfy (h:lt2 x y):onS x y p↔cz x y p=0/\le2 x p/\le2 p y:=by
 unfold onS
 refine and_congr Iff.rfl ⟨fun h'=>h'.elim id (fun h2=>?_),.inl⟩
 exact absurd (zb8 (zct.1 h).1 (zbc h2.1 h2.2)) (zct.1 h).2
end
section
variable {a b c d p q x y u v w:QQ}
def den (a b c d:QQ):Rat:=(b.1 - a.1)*(d.2 - c.2) - (b.2 - a.2)*(d.1 - c.1)
def zbj (a b c d p:QQ):Prop:=onS a b p/\onS c d p
theorem zdi (hab:a≠b)(h:cz a b p=0):∃t,p=(a.1+(b.1 - a.1)*t,a.2+(b.2 - a.2)*t):=by
 obtain⟨t,h1,h2⟩:=zjY h (fun e=>hab (Prod.ext e.1 e.2))
 exact⟨t,Prod.ext h1 h2⟩
theorem zmX (hab:a≠b)(hu:cz a b u=0)(hv:cz a b v=0)(hw:cz a b w=0):cz u v w=0:=by
 obtain⟨r,rfl⟩:=zdi hab hu
 obtain⟨s,rfl⟩:=zdi hab hv
 obtain⟨t,rfl⟩:=zdi hab hw
 exact zuB _ _ _ _ r s t
theorem zjm (h:den a b c d≠0):a≠b/\c≠d:=by
 refine⟨fun e=>h ?_,fun e=>h ?_⟩ <;> subst e <;> unfold den <;> grind
theorem zgq (h:den a b c d≠0)(hp:cz a b p=0)(hp':cz c d p=0)(hq:cz a b q=0)(hq':cz c d q=0):p=q:=by
 obtain⟨s,rfl⟩:=zdi (zjm h).1 hp
 obtain⟨t,rfl⟩:=zdi (zjm h).1 hq
 have e:den a b c d*(s - t)=0:=by
  unfold cz crs at hp' hq';unfold den;simp only at *; grind
 have e2:s=t:=by
  rcases zdN e with e|e
  ·exact absurd e h
  ·grind
 rw[e2]
def zcQ (a b c d:QQ):QQ:=(a.1+(b.1 - a.1)*(((c.1 - a.1)*(d.2 - c.2) - (c.2 - a.2)*(d.1 - c.1))/den a b c d),a.2+(b.2 - a.2)*(((c.1 - a.1)*(d.2 - c.2) - (c.2 - a.2)*(d.1 - c.1))/den a b c d))
theorem zfU (h:den a b c d≠0):cz a b (zcQ a b c d)=0/\cz c d (zcQ a b c d)=0:=by
 have e:=zeY (u:=(c.1 - a.1)*(d.2 - c.2) - (c.2 - a.2)*(d.1 - c.1)) h
 generalize ht:((c.1 - a.1)*(d.2 - c.2) - (c.2 - a.2)*(d.1 - c.1))/den a b c d=t at e
 unfold zcQ;rw[ht]
 unfold den at e;unfold cz crs
 refine⟨by grind,?_⟩
 simp only
 grind
theorem ziD (h:den a b c d≠0)(hp:cz a b p=0)(hp':cz c d p=0):p=zcQ a b c d:=zgq h hp hp' (zfU h).1 (zfU h).2
theorem ziE (h:den a b c d=0)(hcd:c≠d)(hp:cz a b p=0)(hp':cz c d p=0):cz a b c=0/\cz a b d=0:=by
 obtain⟨s,rfl⟩:=zdi hcd hp'
 unfold den at h;unfold cz crs at *; simp only at*
 constructor <;> grind
theorem zpM:den c d a b=0↔den a b c d=0:=by unfold den;constructor <;> intro h <;> grind
theorem zhx (a b:QQ):∃l h,((l=a/\h=b)\/(l=b/\h=a))/\le2 l h/\∀p,onS a b p↔cz a b p=0/\le2 l p/\le2 p h:=by
 rcases ze2 a b with h|h
 ·refine⟨a,b,.inl ⟨rfl,rfl⟩,h,fun p=>and_congr Iff.rfl ⟨fun h'=>h'.elim id fun h2=>?_,.inl⟩⟩
  have e:=zb8 h (zbc h2.1 h2.2)
  subst e
  exact⟨h2.1,h2.2⟩
 ·refine⟨b,a,.inr ⟨rfl,rfl⟩,h,fun p=>and_congr Iff.rfl ⟨fun h'=>h'.elim (fun h2=>?_) id,.inr⟩⟩
  have e:=zb8 h (zbc h2.1 h2.2)
  subst e
  exact⟨h2.1,h2.2⟩
def zcR (a b c d e:QQ):Prop:=e=a\/e=b\/e=c\/e=d
theorem zfz (h:den a b c d=0)(hp:zbj a b c d p):∃l r,zcR a b c d l/\zcR a b c d r/\zbj a b c d l/\zbj a b c d r/\∀q,zbj a b c d q->le2 l q/\le2 q r:=by
 by_cases hab:a=b
 ·subst hab
  have e:=zc1.1 hp.1
  subst e
  refine⟨p,p,.inl rfl,.inl rfl,hp,hp,fun q hq=>?_⟩
  rw[zc1.1 hq.1];exact⟨zbe _,zbe _⟩
 by_cases hcd:c=d
 ·subst hcd
  have e:=zc1.1 hp.2
  subst e
  refine⟨p,p,.inr (.inr (.inl rfl)),.inr (.inr (.inl rfl)),hp,hp,fun q hq=>?_⟩
  rw[zc1.1 hq.2];exact⟨zbe _,zbe _⟩
 obtain⟨hc,hd⟩:=ziE h hcd hp.1.1 hp.2.1
 obtain⟨ha,hb⟩:=ziE (zpM.2 h) hab hp.2.1 hp.1.1
 obtain⟨l1,r1,e1,-,f1⟩:=zhx a b
 obtain⟨l2,r2,e2,-,f2⟩:=zhx c d
 have hla:cz a b l1=0/\cz c d l1=0/\cz a b r1=0/\cz c d r1=0/\zcR a b c d l1/\zcR a b c d r1:=by
  rcases e1 with⟨rfl,rfl⟩|⟨rfl,rfl⟩
  ·exact⟨zdz _ _,ha,zd8 _ _,hb,.inl rfl,.inr (.inl rfl)⟩
  ·exact⟨zd8 _ _,hb,zdz _ _,ha,.inr (.inl rfl),.inl rfl⟩
 have hlc:cz a b l2=0/\cz c d l2=0/\cz a b r2=0/\cz c d r2=0/\zcR a b c d l2/\zcR a b c d r2:=by
  rcases e2 with⟨rfl,rfl⟩|⟨rfl,rfl⟩
  ·exact⟨hc,zdz _ _,hd,zd8 _ _,.inr (.inr (.inl rfl)),.inr (.inr (.inr rfl))⟩
  ·exact⟨hd,zd8 _ _,hc,zdz _ _,.inr (.inr (.inr rfl)),.inr (.inr (.inl rfl))⟩
 obtain⟨-,p1,p2⟩:=(f1 p).1 hp.1
 obtain⟨-,p3,p4⟩:=(f2 p).1 hp.2
 have hL:∃l,zcR a b c d l/\cz a b l=0/\cz c d l=0/\le2 l1 l/\le2 l2 l/\∀q,le2 l1 q->le2 l2 q->le2 l q:=by
  rcases ze2 l1 l2 with k|k
  ·exact⟨l2,hlc.2.2.2.2.1,hlc.1,hlc.2.1,k,zbe _,fun q _ h=>h⟩
  ·exact⟨l1,hla.2.2.2.2.1,hla.1,hla.2.1,zbe _,k,fun q h _=>h⟩
 have hR:∃r,zcR a b c d r/\cz a b r=0/\cz c d r=0/\le2 r r1/\le2 r r2/\∀q,le2 q r1->le2 q r2->le2 q r:=by
  rcases ze2 r1 r2 with k|k
  ·exact⟨r1,hla.2.2.2.2.2,hla.2.2.1,hla.2.2.2.1,zbe _,k,fun q h _=>h⟩
  ·exact⟨r2,hlc.2.2.2.2.2,hlc.2.2.1,hlc.2.2.2.1,k,zbe _,fun q _ h=>h⟩
 obtain⟨l,l1e,l2e,l3,l4,l5,l6⟩:=hL
 obtain⟨r,r1e,r2e,r3,r4,r5,r6⟩:=hR
 have kl:=l6 p p1 p3
 have kr:=r6 p p2 p4
 refine⟨l,r,l1e,r1e,⟨(f1 l).2 ⟨l2e,l4,zbc kl p2⟩,(f2 l).2 ⟨l3,l5,zbc kl p4⟩⟩,⟨(f1 r).2 ⟨r2e,zbc p1 kr,r4⟩,(f2 r).2 ⟨r3,zbc p3 kr,r5⟩⟩,fun q hq=>?_⟩
 obtain⟨-,q1,q2⟩:=(f1 q).1 hq.1
 obtain⟨-,q3,q4⟩:=(f2 q).1 hq.2
 exact⟨l6 q q1 q3,r6 q q2 q4⟩
theorem zed {l r:QQ}(hne:l≠r)(hl:onS a b l)(hr:onS a b r)(hq:cz l r q=0)(h1:le2 l q)(h2:le2 q r):onS a b q:=by
 obtain⟨m,k,e1,-,f⟩:=zhx a b
 obtain⟨l0,l1,l2⟩:=(f l).1 hl
 obtain⟨r0,r1,r2⟩:=(f r).1 hr
 by_cases hab:a=b
 ·subst hab
  exact absurd ((zc1.1 hl).trans (zc1.1 hr).symm) hne
 ·exact(f q).2 ⟨zsZ hab l0 r0 hne hq,zbc l1 h1,zbc h2 r2⟩
inductive Mt where
 |none
 |point (A:QQ)
 |over (A B:QQ)
def Spec (a b c d:QQ):Mt->Prop
 | .none=>∀p,¬zbj a b c d p
 | .point A=>∀p,zbj a b c d p↔p=A
 | .over A B=>lt2 A B/\∀p,zbj a b c d p↔onS A B p
theorem Spec.one {m m':Mt}(h:Spec a b c d m)(h':Spec a b c d m'):m=m':=by
 cases m with
 |none=>
  cases m' with
  |none=>rfl
  |point A=>exact absurd ((h' A).2 rfl) (h A)
  |over A B=>exact absurd ((h'.2 A).2 (zft A B)) (h A)
 |point A=>
  cases m' with
  |none=>exact absurd ((h A).2 rfl) (h' A)
  |point B=>rw[(h' A).1 ((h A).2 rfl)]
  |over B C=>exact absurd (((h B).1 ((h'.2 B).2 (zft B C))).trans ((h C).1 ((h'.2 C).2 (ziC B C))).symm) (zct.1 h'.1).2
 |over A B=>
  cases m' with
  |none=>exact absurd ((h.2 A).2 (zft A B)) (h' A)
  |point C=>exact absurd (((h' A).1 ((h.2 A).2 (zft A B))).trans ((h' B).1 ((h.2 B).2 (ziC A B))).symm) (zct.1 h.1).2
  |over C D=>
   have k:∀p,onS A B p↔onS C D p:=fun p=>(h.2 p).symm.trans (h'.2 p)
   have a1:=((zfy h'.1).1 ((k A).1 (zft A B))).2
   have a2:=((zfy h'.1).1 ((k B).1 (ziC A B))).2
   have a3:=((zfy h.1).1 ((k C).2 (zft C D))).2
   have a4:=((zfy h.1).1 ((k D).2 (ziC C D))).2
   rw[zb8 a1.1 a3.1,zb8 a2.2 a4.2]
theorem zlS:zbj b a c d p↔zbj a b c d p:=and_congr zfT Iff.rfl
theorem zky:zbj a b d c p↔zbj a b c d p:=and_congr Iff.rfl zfT
theorem zlT:zbj c d a b p↔zbj a b c d p:=And.comm
theorem Spec.of {a' b' c' d':QQ}{m:Mt}(h:Spec a b c d m)(k:∀p,zbj a' b' c' d' p↔zbj a b c d p):Spec a' b' c' d' m:=by
 cases m with
 |none=>exact fun p hp=>h p ((k p).1 hp)
 |point A=>exact fun p=>(k p).trans (h p)
 |over A B=>exact⟨h.1,fun p=>(k p).trans (h.2 p)⟩
theorem zn6 {A B:QQ}(hAB:lt2 A B)(hA:zbj a b c d A)(hB:zbj a b c d B)(hlo:∀e,zcR a b c d e->zbj a b c d e->le2 A e/\le2 e B):Spec a b c d (.over A B):=by
 have hne:=(zct.1 hAB).2
 refine⟨hAB,fun p=>⟨fun hp=>?_,fun hp=>?_⟩⟩
 ·have hd:den a b c d=0:=Classical.byContradiction fun h=>hne (zgq h hA.1.1 hA.2.1 hB.1.1 hB.2.1)
  obtain⟨l,r,le,re,li,ri,hb⟩:=zfz hd hp
  obtain⟨k1,k2⟩:=hb p hp
  have hab:a≠b:=fun e=>by subst e;exact hne ((zc1.1 hA.1).trans (zc1.1 hB.1).symm)
  exact⟨zmX hab hA.1.1 hB.1.1 hp.1.1,.inl ⟨zbc (hlo l le li).1 k1,zbc k2 (hlo r re ri).2⟩⟩
 ·obtain⟨h0,h1,h2⟩:=(zfy hAB).1 hp
  exact⟨zed hne hA.1 hB.1 h0 h1 h2,zed hne hA.2 hB.2 h0 h1 h2⟩
theorem zlU {A:QQ}(hA:zbj a b c d A)(hone:∀e,zcR a b c d e->zbj a b c d e->e=A):Spec a b c d (.point A):=fun p=>by
 refine⟨fun hp=>?_,fun e=>by rw[e];exact hA⟩
 by_cases hd:den a b c d=0
 ·obtain⟨l,r,le,re,li,ri,hb⟩:=zfz hd hp
  obtain⟨k1,k2⟩:=hb p hp
  rw[hone l le li]at k1
  rw[hone r re ri]at k2
  exact zb8 k2 k1
 ·exact zgq hd hp.1.1 hp.2.1 hA.1.1 hA.2.1
theorem ziF (hd:den a b c d≠0)(h:zbj a b c d (zcQ a b c d)):Spec a b c d (.point (zcQ a b c d)):=fun p=>⟨fun hp=>ziD hd hp.1.1 hp.2.1,fun e=>by rw[e];exact h⟩
theorem zn7 (hno:∀e,zcR a b c d e-> ¬zbj a b c d e)(h:den a b c d≠0-> ¬zbj a b c d (zcQ a b c d)):Spec a b c d .none:=fun p hp=>by
 by_cases hd:den a b c d=0
 ·obtain⟨l,r,le,re,li,ri,hb⟩:=zfz hd hp
  exact hno l le li
 ·exact h hd (ziD hd hp.1.1 hp.2.1▸hp)
end
section
variable {a b c d p q x y v:QQ}{l r:List QQ}
def zlV:List QQ->QQ->List QQ
 |[],p=>[p]
 |x::l,p=>if za8 x.1 x.2 p.1 p.2<0 then x::zlV l p else if za8 x.1 x.2 p.1 p.2=0 then x::l else p::x::l
def Inc (l:List QQ):Prop:=l.Pairwise lt2
theorem zkz:q∈zlV l p↔q=p\/q∈l:=by
 induction l with
 |nil=>simp[zlV]
 |cons x l ih=>
  unfold zlV
  split
  ·rw[List.mem_cons,ih,List.mem_cons];constructor <;> (intro h;rcases h with h|h|h <;> simp[h])
  ·split
   ·rename_i h
    have e:=zcT.1 h
    subst e
    simp
   ·simp
theorem zpN (h:Inc l):Inc (zlV l p):=by
 induction l with
 |nil=>exact List.pairwise_singleton _ _
 |cons x l ih=>
  obtain⟨h1,h2⟩:=List.pairwise_cons.1 h
  unfold zlV
  split
  ·rename_i h3
   exact List.pairwise_cons.2 ⟨fun y hy=>(zkz.1 hy).elim (fun e=>by rw[e];exact zdh.1 h3) (h1 y),ih h2⟩
  ·split
   ·exact h
   ·rename_i h3 h4
    have h5:lt2 p x:=zct.2 ⟨zec.1 (fun h=>h3 (zdh.2 h)),fun e=>h4 (zcT.2 e.symm)⟩
    refine List.pairwise_cons.2 ⟨fun y hy=>?_,h⟩
    rcases List.mem_cons.1 hy with rfl|hy
    ·exact h5
    ·have:=h1 y hy;unfold lt2 at *; grind
theorem zn8 (h:Inc (x::l)):∀y∈x::l,le2 x y:=fun y hy=>by
 rcases List.mem_cons.1 hy with rfl|hy
 ·exact zbe _
 ·exact(zct.1 ((List.pairwise_cons.1 h).1 y hy)).1
theorem zpO (h:Inc l)(hne:l≠[]):∀y∈l,le2 y (l.getLast hne):=by
 induction l with
 |nil=>exact absurd rfl hne
 |cons x l ih=>
  intro y hy
  cases l with
  |nil=>rw[List.mem_singleton.1 hy];exact zbe _
  |cons z l=>
   rw[List.getLast_cons (by simp)]
   rcases List.mem_cons.1 hy with rfl|hy
   ·exact(zct.1 ((List.pairwise_cons.1 h).1 _ (List.getLast_mem _))).1
   ·exact ih (List.pairwise_cons.1 h).2 (by simp) y hy
def onD (a b p:QQ):Bool:=decide (crs a.1 a.2 b.1 b.2 p.1 p.2=0)&&decide ((p.1 - a.1)*(p.1 - b.1)+(p.2 - a.2)*(p.2 - b.2)<=0)
theorem zcu (t:Rat):0<=t*t:=by
 rcases(by grind:t=0\/0<t\/0< -t)with h|h|h
 ·rw[h,Rat.zero_mul];exact Rat.le_refl
 ·exact Rat.le_of_lt (Rat.mul_pos h h)
 ·have:=Rat.mul_pos h h;grind
theorem zeK {t:Rat}(h:t≠0):0<t*t:=by
 rcases(by grind:0<t\/0< -t)with h|h
 ·exact Rat.mul_pos h h
 ·have:=Rat.mul_pos h h;grind
theorem zr4 (t:Rat):0<=zaq 0 t*zaq t 1↔t*(t - 1)<=0:=by
 have e:t*(t - 1)<=0↔zaq t 0*zaq (t - 1) 0<=0:=by rw[<-zhi,zfG]
 rw[e,<-zda t 1,zeS t 0]
 rcases tri t 0 with h|h|h <;> rcases tri t 1 with h2|h2|h2 <;> rw[h,h2] <;> decide
theorem zhc:onD a b p=true↔onS a b p:=by
 rw[<-zr3]
 unfold onD
 rw[Bool.and_eq_true,decide_eq_true_eq,decide_eq_true_eq]
 unfold onR
 rw[Bool.and_eq_true,decide_eq_true_eq,decide_eq_true_eq]
 refine and_congr_right fun h=>?_
 by_cases hab:a=b
 ·subst hab
  rw[zo9]
  constructor
  ·intro h1
   have e:p=a:=by
    have h2:=zcu (p.1 - a.1)
    have h3:=zcu (p.2 - a.2)
    refine Prod.ext ?_ ?_
    ·exact Classical.byContradiction fun hne=>by have:=zeK (t:=p.1 - a.1) (by grind);grind
    ·exact Classical.byContradiction fun hne=>by have:=zeK (t:=p.2 - a.2) (by grind);grind
   rw[e,zo8];decide
  ·intro h1
   have e:p=a:=by
    refine(zcT.1 ?_).symm
    have:=zes a.1 a.2 p.1 p.2
    rcases(by omega:za8 a.1 a.2 p.1 p.2= -1\/za8 a.1 a.2 p.1 p.2=0\/za8 a.1 a.2 p.1 p.2=1)with k|k|k
    ·rw[k]at h1;exact absurd h1 (by decide)
    ·exact k
    ·rw[k]at h1;exact absurd h1 (by decide)
   rw[e];grind
 ·have hab': ¬(a.1=b.1/\a.2=b.2):=fun e=>hab (Prod.ext e.1 e.2)
  obtain⟨t,h1,h2⟩:=zjY h hab'
  rw[h1,h2,zsW hab',zr4]
  have e:(a.1+(b.1 - a.1)*t - a.1)*(a.1+(b.1 - a.1)*t - b.1)+(a.2+(b.2 - a.2)*t - a.2)*(a.2+(b.2 - a.2)*t - b.2)=(t*(t - 1))*((b.1 - a.1)*(b.1 - a.1)+(b.2 - a.2)*(b.2 - a.2)):=by grind
  have hn:0<(b.1 - a.1)*(b.1 - a.1)+(b.2 - a.2)*(b.2 - a.2):=by
   have h2:=zcu (b.1 - a.1)
   have h3:=zcu (b.2 - a.2)
   by_cases k:b.1=a.1
   ·have:=zeK (t:=b.2 - a.2) (by intro e;exact hab' ⟨k.symm,by grind⟩);grind
   ·have:=zeK (t:=b.1 - a.1) (by grind);grind
  rw[e]
  generalize (b.1 - a.1)*(b.1 - a.1)+(b.2 - a.2)*(b.2 - a.2)=n at hn
  rw[<-zhi,<-zhi,zfG,show zaq n 0=1 by rw[zeS 0 n,zc2 hn];rfl]
  omega
def zmY (a b c d p:QQ):Bool:=onD a b p&&onD c d p
theorem ze3:zmY a b c d p=true↔zbj a b c d p:=by unfold zmY zbj;rw[Bool.and_eq_true,zhc,zhc]
def zkA (a b c d:QQ)(l:List QQ)(e:QQ):List QQ:=if zmY a b c d e then zlV l e else l
theorem zfV:q∈zkA a b c d l x↔(q=x/\zbj a b c d x)\/q∈l:=by
 unfold zkA
 split
 ·rename_i h;rw[zkz];simp[ze3.1 h]
 ·rename_i h;rw[ze3]at h;simp[h]
theorem zfW (h:Inc l):Inc (zkA a b c d l x):=by unfold zkA;split;exact zpN h;exact h
def zmZ (a b c d:QQ):List QQ:=zkA a b c d (zkA a b c d (zkA a b c d (zkA a b c d [] a) b) c) d
theorem zgr:q∈zmZ a b c d↔zcR a b c d q/\zbj a b c d q:=by
 unfold zmZ zcR
 rw[zfV,zfV,zfV,zfV]
 constructor
 ·rintro(⟨rfl,h⟩|⟨rfl,h⟩|⟨rfl,h⟩|⟨rfl,h⟩|h)
  ·exact⟨.inr (.inr (.inr rfl)),h⟩
  ·exact⟨.inr (.inr (.inl rfl)),h⟩
  ·exact⟨.inr (.inl rfl),h⟩
  ·exact⟨.inl rfl,h⟩
  ·cases h
 ·rintro⟨rfl|rfl|rfl|rfl,h⟩
  ·exact .inr (.inr (.inr (.inl ⟨rfl,h⟩)))
  ·exact .inr (.inr (.inl ⟨rfl,h⟩))
  ·exact .inr (.inl ⟨rfl,h⟩)
  ·exact .inl ⟨rfl,h⟩
theorem zn9:Inc (zmZ a b c d):=zfW (zfW (zfW (zfW List.Pairwise.nil)))
def zaB (a b c d:QQ):Mt:=match zmZ a b c d with
 |[]=>if den a b c d≠0/\zmY a b c d (zcQ a b c d)=true then .point (zcQ a b c d)else .none
 |[A]=> .point A
 |A::B::l=> .over A ((B::l).getLast (by simp))
theorem zcU:Spec a b c d (zaB a b c d):=by
 have hm:=fun q=>zgr (a:=a) (b:=b) (c:=c) (d:=d) (q:=q)
 have hi:=zn9 (a:=a) (b:=b) (c:=c) (d:=d)
 unfold zaB
 split
 ·rename_i e
  rw[e]at hm
  have hno:∀e,zcR a b c d e-> ¬zbj a b c d e:=fun e he hI=>by have:=(hm e).2 ⟨he,hI⟩;cases this
  split
  ·rename_i h;exact ziF h.1 (ze3.1 h.2)
  ·rename_i h;exact zn7 hno fun hd hI=>h ⟨hd,ze3.2 hI⟩
 ·rename_i A e
  rw[e]at hm
  exact zlU ((hm A).1 List.mem_cons_self).2 fun e he hI=>List.mem_singleton.1 ((hm e).2 ⟨he,hI⟩)
 ·rename_i A B l e
  rw[e]at hm hi
  have hB:(B::l).getLast (by simp)∈A::B::l:=List.mem_cons_of_mem _ (List.getLast_mem _)
  refine zn6 ((List.pairwise_cons.1 hi).1 _ (List.getLast_mem _)) ((hm A).1 List.mem_cons_self).2 ((hm _).1 hB).2 fun e he hI=>?_
  have:=(hm e).2 ⟨he,hI⟩
  refine⟨zn8 hi e this,?_⟩
  have h2:=zpO hi (by simp) e this
  rwa [List.getLast_cons (by simp)]at h2
theorem zd3 {m:Mt}(h:Spec a b c d m):zaB a b c d=m:=zcU.one h
theorem zee:zaB b a c d=zaB a b c d:=zd3 (zcU.of fun _=>zlS)
theorem zdG:zaB a b d c=zaB a b c d:=zd3 (zcU.of fun _=>zky)
theorem zef:zaB c d a b=zaB a b c d:=zd3 (zcU.of fun _=>zlT)
def mvQ (a v:QQ):QQ:=(a.1+v.1,a.2+v.2)
def Mt.mvM:Mt->QQ->Mt
 | .none,_=> .none
 | .point A,v=> .point (mvQ A v)
 | .over A B,v=> .over (mvQ A v) (mvQ B v)
theorem zjn (p v:QQ):∃q,p=mvQ q v:=⟨(p.1 - v.1,p.2 - v.2),by unfold mvQ;exact Prod.ext (by grind) (by grind)⟩
theorem ztP:mvQ p v=mvQ q v↔p=q:=⟨fun h=>Prod.ext (by have:=congrArg Prod.fst h;simp only[mvQ]at this;grind) (by have:=congrArg Prod.snd h;simp only[mvQ]at this;grind),fun h=>by rw[h]⟩
theorem zjo:le2 (mvQ x v) (mvQ y v)↔le2 x y:=by unfold le2 mvQ;grind
theorem ztQ:lt2 (mvQ x v) (mvQ y v)↔lt2 x y:=by unfold lt2 mvQ;grind
theorem zlW:onS (mvQ a v) (mvQ b v) (mvQ p v)↔onS a b p:=by
 unfold onS
 rw[zjo,zjo,zjo,zjo,show cz (mvQ a v) (mvQ b v) (mvQ p v)=cz a b p by unfold cz crs mvQ;grind]
theorem zhy:zbj (mvQ a v) (mvQ b v) (mvQ c v) (mvQ d v) (mvQ p v)↔zbj a b c d p:=and_congr zlW zlW
theorem Spec.mv {m:Mt}(h:Spec a b c d m):Spec (mvQ a v) (mvQ b v) (mvQ c v) (mvQ d v) (m.mvM v):=by
 cases m with
 |none=>intro p hp;obtain⟨q,rfl⟩:=zjn p v;exact h q (zhy.1 hp)
 |point A=>intro p;obtain⟨q,rfl⟩:=zjn p v;rw[zhy,ztP];exact h q
 |over A B=>exact⟨ztQ.2 h.1,fun p=>by obtain⟨q,rfl⟩:=zjn p v;rw[zhy,zlW];exact h.2 q⟩
theorem zpP:zaB (mvQ a v) (mvQ b v) (mvQ c v) (mvQ d v)=(zaB a b c d).mvM v:=zd3 zcU.mv
theorem zm0 {t:Rat}(h0:0<=t)(h1:t<=1):onS a b (a.1+(b.1 - a.1)*t,a.2+(b.2 - a.2)*t):=by
 rw[<-zhc]
 unfold onD
 rw[Bool.and_eq_true,decide_eq_true_eq,decide_eq_true_eq]
 refine⟨by unfold crs;grind,?_⟩
 have e:(a.1+(b.1 - a.1)*t - a.1)*(a.1+(b.1 - a.1)*t - b.1)+(a.2+(b.2 - a.2)*t - a.2)*(a.2+(b.2 - a.2)*t - b.2)=(t*(t - 1))*((b.1 - a.1)*(b.1 - a.1)+(b.2 - a.2)*(b.2 - a.2)):=by grind
 simp only
 rw[e]
 have h2:=zcu (b.1 - a.1)
 have h3:=zcu (b.2 - a.2)
 have h4:0<=(b.1 - a.1)*(b.1 - a.1)+(b.2 - a.2)*(b.2 - a.2):=by grind
 have h5:=Rat.mul_nonneg (Rat.mul_nonneg h0 (by grind:0<=1 - t)) h4
 grind
theorem zpQ {m:Mt}(h:Spec a b c d m)(hp:zbj a b c d p):m= .point p\/ ∃A B,m= .over A B/\lt2 A B/\zbj a b c d A/\zbj a b c d B/\onS A B p:=by
 cases m with
 |none=>exact absurd hp (h p)
 |point A=>exact .inl (by rw[(h p).1 hp])
 |over A B=>exact .inr ⟨A,B,rfl,h.1,(h.2 A).2 (zft A B),(h.2 B).2 (ziC A B),(h.2 p).1 hp⟩
end
section
variable {a b c d x:QQ}{l p q:List QQ}{m:Mt}
def Mt.pts:Mt->List QQ
 | .none=>[]
 | .point A=>[A]
 | .over A B=>[A,B]
def o2:QQ:=(0,0)
def nx (p:List QQ)(i:Nat):QQ:=p.getD ((i+1)%p.length) o2
end
section
variable {a b c d p q x y z:QQ}
theorem zpR {t:Rat}(hu:cz a b c*cz a b d<=0)(hne:cz a b d - cz a b c≠0)(hp:cz a b (c.1+(d.1 - c.1)*t,c.2+(d.2 - c.2)*t)=0):0<=t/\t<=1:=by
 have e:cz a b c+t*(cz a b d - cz a b c)=0:=by rw[<-hp];unfold cz crs;grind
 generalize cz a b c=u at*
 generalize cz a b d=v at*
 have e2:t*(1 - t)*((v - u)*(v - u))= -(u*v):=by
  have:t*(v - u)= -u:=by grind
  calc t*(1 - t)*((v - u)*(v - u))=(t*(v - u))*((v - u) - t*(v - u)):=by grind
   _= -(u*v):=by rw[this];grind
 have hs:=zeK hne
 have h3:0<=t*(1 - t)*((v - u)*(v - u)):=by rw[e2];grind
 have h4:0<=t*(1 - t):=by
  rcases(by grind:0<=t*(1 - t)\/0< -(t*(1 - t)))with h|h
  ·exact h
  ·have:=Rat.mul_pos h hs;grind
 constructor
 ·rcases(by grind:0<=t\/0< -t)with h|h
  ·exact h
  ·have:=Rat.mul_pos h (by grind:0<1 - t);grind
 ·rcases(by grind:t<=1\/0<t - 1)with h|h
  ·exact h
  ·have:=Rat.mul_pos h (by grind:0<t);grind
theorem zpS:cz a b d - cz a b c=den a b c d:=by unfold cz crs den;grind
theorem zm1:cz c d b - cz c d a= -den a b c d:=by unfold cz crs den;grind
theorem zr5 (h:den a b c d≠0)(hu:cz a b c*cz a b d<=0):onS c d (zcQ a b c d):=by
 obtain⟨h1,h2⟩:=zfU h
 obtain⟨t,e⟩:=zdi (zjm h).2 h2
 rw[e]at h1 ⊢
 obtain⟨t0,t1⟩:=zpR hu (by rw[zpS];exact h) h1
 exact zm0 t0 t1
theorem zpT (h:den a b c d≠0)(hu:cz c d a*cz c d b<=0):onS a b (zcQ a b c d):=by
 obtain⟨h1,h2⟩:=zfU h
 obtain⟨t,e⟩:=zdi (zjm h).1 h1
 rw[e]at h2 ⊢
 obtain⟨t0,t1⟩:=zpR hu (by rw[zm1];grind) h2
 exact zm0 t0 t1
theorem zhz (h:onS c d p)(hp:cz a b p=0):cz a b c*cz a b d<=0:=by
 by_cases hcd:c=d
 ·subst hcd;rw[<-zc1.1 h,hp];grind
 ·obtain⟨t,rfl⟩:=zdi hcd h.1
  have hD:=zhc.2 h
  unfold onD at hD
  rw[Bool.and_eq_true,decide_eq_true_eq,decide_eq_true_eq]at hD
  have e:cz a b c+t*(cz a b d - cz a b c)=0:=by rw[<-hp];unfold cz crs;grind
  have hw:=hD.2
  have e3:(c.1+(d.1 - c.1)*t - c.1)*(c.1+(d.1 - c.1)*t - d.1)+(c.2+(d.2 - c.2)*t - c.2)*(c.2+(d.2 - c.2)*t - d.2)=(t*(t - 1))*((d.1 - c.1)*(d.1 - c.1)+(d.2 - c.2)*(d.2 - c.2)):=by grind
  simp only at hw
  rw[e3]at hw
  have hq:0<(d.1 - c.1)*(d.1 - c.1)+(d.2 - c.2)*(d.2 - c.2):=by
   by_cases e1:d.1 - c.1=0
   ·have e2:d.2 - c.2≠0:=fun e2=>hcd (Prod.ext (by grind) (by grind))
    have:=zeK e2;have:=zcu (d.1 - c.1);grind
   ·have:=zeK e1;have:=zcu (d.2 - c.2);grind
  have ht:t*(t - 1)<=0:=by
   rcases(by grind:t*(t - 1)<=0\/0<t*(t - 1))with h|h
   ·exact h
   ·have:=Rat.mul_pos h hq;grind
  generalize cz a b c=u at*
  generalize cz a b d=v at*
  have e4:u*v=(t*(t - 1))*((v - u)*(v - u)):=by
   have:u= -(t*(v - u)):=by grind
   have h2:v=(1 - t)*(v - u):=by grind
   calc u*v=(-(t*(v - u)))*((1 - t)*(v - u)):=by rw[<-this,<-h2]
    _=(t*(t - 1))*((v - u)*(v - u)):=by grind
  rw[e4]
  have:=Rat.mul_nonneg (by grind:0<= -(t*(t - 1))) (zcu (v - u))
  grind
theorem zeL (h:le2 a b):onS a b p↔cz a b p=0/\le2 a p/\le2 p b:=by
 by_cases e:a=b
 ·subst e
  exact zc1.trans ⟨fun e=>by rw[e];exact⟨zgg a a,zbe a,zbe a⟩,fun h=>zb8 h.2.2 h.2.1⟩
 ·exact zfy (zct.2 ⟨h,e⟩)
def spL (a b:QQ):QQ:=if 0<za8 a.1 a.2 b.1 b.2 then b else a
def spH (a b:QQ):QQ:=if 0<za8 a.1 a.2 b.1 b.2 then a else b
def zbZ (a b:QQ):QQ:=if za8 a.1 a.2 b.1 b.2<0 then b else a
def zbf (a b:QQ):QQ:=if 0<za8 a.1 a.2 b.1 b.2 then b else a
theorem zhd:0<za8 x.1 x.2 y.1 y.2↔lt2 y x:=by rw[<-zdh,ze0];omega
theorem ztk:le2 (spL a b) (spH a b):=by
 unfold spL spH
 by_cases h:0<za8 a.1 a.2 b.1 b.2
 ·rw[if_pos h,if_pos h];exact(zct.1 (zhd.1 h)).1
 ·rw[if_neg h,if_neg h];exact zec.1 (fun k=>h (zhd.2 k))
theorem zpU:onS (spL a b) (spH a b) p↔onS a b p:=by
 unfold spL spH
 by_cases h:0<za8 a.1 a.2 b.1 b.2
 ·rw[if_pos h,if_pos h];exact zfT
 ·rw[if_neg h,if_neg h]
theorem zpV:le2 a (zbZ a b)/\le2 b (zbZ a b)/\(zbZ a b=a\/zbZ a b=b):=by
 unfold zbZ
 by_cases h:za8 a.1 a.2 b.1 b.2<0
 ·rw[if_pos h];exact⟨(zct.1 (zdh.1 h)).1,zbe b,.inr rfl⟩
 ·rw[if_neg h];exact⟨zbe a,zec.1 (fun k=>h (zdh.2 k)),.inl rfl⟩
theorem zlX:le2 (zbf a b) a/\le2 (zbf a b) b/\(zbf a b=a\/zbf a b=b):=by
 unfold zbf
 by_cases h:0<za8 a.1 a.2 b.1 b.2
 ·rw[if_pos h];exact⟨(zct.1 (zhd.1 h)).1,zbe b,.inr rfl⟩
 ·rw[if_neg h];exact⟨zbe a,zec.1 (fun k=>h (zhd.2 k)),.inl rfl⟩
def zeg (a b c d:QQ):Bool:=decide (0<zaq (cz a b c) 0*zaq (cz a b d) 0)
def zgs (b c:QQ):Bool:=decide (za8 b.1 b.2 c.1 c.2<0)
def zbA (a b c d:QQ):Bool:= !zgs b c&& !zgs d a&& !zeg a b c d&& !zeg c d a b
def zbI (a b:QQ):Mt:=if za8 a.1 a.2 b.1 b.2=0 then .point a else .over a b
def zcI (a b c d:QQ):Mt:=if zbA a b c d=true then(if den a b c d≠0 then zbI (zcQ a b c d) (zcQ a b c d)else zbI (zbZ a c) (zbf b d))else .none
theorem zgT:zeg a b c d=true↔0<cz a b c*cz a b d:=by
 unfold zeg
 rw[decide_eq_true_eq,<-zfG,<-Int.not_le,<-Rat.not_le]
 exact not_congr zhi
theorem zhA:zbA a b c d=true↔le2 c b/\le2 a d/\cz a b c*cz a b d<=0/\cz c d a*cz c d b<=0:=by
 unfold zbA zgs
 rw[Bool.and_eq_true,Bool.and_eq_true,Bool.and_eq_true,Bool.not_eq_true',Bool.not_eq_true',Bool.not_eq_true',Bool.not_eq_true',decide_eq_false_iff_not,decide_eq_false_iff_not,zdh,zdh,zec,zec,<-Bool.not_eq_true,<-Bool.not_eq_true,zgT,zgT,Rat.not_lt,Rat.not_lt]
 exact⟨fun⟨⟨⟨h1,h2⟩,h3⟩,h4⟩=>⟨h1,h2,h3,h4⟩,fun⟨h1,h2,h3,h4⟩=>⟨⟨⟨h1,h2⟩,h3⟩,h4⟩⟩
theorem zoa {l r:QQ}(hlr:le2 l r)(h:∀p,zbj a b c d p↔cz l r p=0/\le2 l p/\le2 p r):Spec a b c d (zbI l r):=by
 unfold zbI
 by_cases e:l=r
 ·rw[if_pos (zcT.2 e)]
  subst e
  exact fun p=>(h p).trans ⟨fun h=>zb8 h.2.2 h.2.1,fun e=>by rw[e];exact⟨zgg l l,zbe l,zbe l⟩⟩
 ·rw[if_neg (fun k=>e (zcT.1 k))]
  have hlt:=zct.2 ⟨hlr,e⟩
  exact⟨hlt,fun p=>(h p).trans (zfy hlt).symm⟩
theorem zlY (hab:le2 a b)(hcd:le2 c d):Spec a b c d (zcI a b c d):=by
 unfold zcI
 by_cases hm:zbA a b c d=true
 ·rw[if_pos hm]
  obtain⟨hcb,had,hu,hv⟩:=zhA.1 hm
  by_cases hd:den a b c d≠0
  ·rw[if_pos hd]
   have hs:=ziF hd ⟨zpT hd hv,zr5 hd hu⟩
   unfold zbI
   rw[if_pos (zcT.2 rfl)]
   exact hs
  ·rw[if_neg hd]
   have hd:=Classical.not_not.1 hd
   have sq0:∀ {s t:Rat},t - s=0->s*t<=0->s=0/\t=0:=fun {s t} h1 h2=>by
    have e:t=s:=by grind
    subst e
    have:t=0:=Classical.byContradiction fun hn=>by have:=zeK hn;grind
    exact⟨this,this⟩
   obtain⟨uc,ud⟩:=sq0 (zpS.trans hd) hu
   obtain⟨va,vb⟩:=sq0 (zm1.trans (by rw[hd];grind)) hv
   obtain⟨l1,l2,l3⟩:=zpV (a:=a) (b:=c)
   obtain⟨r1,r2,r3⟩:=zlX (a:=b) (b:=d)
   generalize zbZ a c=l at*
   generalize zbf b d=r at*
   have hlr:le2 l r:=by
    rcases l3 with rfl|rfl <;> rcases r3 with rfl|rfl
    ·exact hab
    ·exact had
    ·exact hcb
    ·exact hcd
   have la:cz a b l=0:=by rcases l3 with rfl|rfl;exact zdz _ _;exact uc
   have lc:cz c d l=0:=by rcases l3 with rfl|rfl;exact va;exact zdz _ _
   have ra:cz a b r=0:=by rcases r3 with rfl|rfl;exact zd8 _ _;exact ud
   have rc:cz c d r=0:=by rcases r3 with rfl|rfl;exact vb;exact zd8 _ _
   have onl:zbj a b c d l:=⟨(zeL hab).2 ⟨la,l1,zbc hlr r1⟩,(zeL hcd).2 ⟨lc,l2,zbc hlr r2⟩⟩
   have onr:zbj a b c d r:=⟨(zeL hab).2 ⟨ra,zbc l1 hlr,r1⟩,(zeL hcd).2 ⟨rc,zbc l2 hlr,r2⟩⟩
   refine zoa hlr fun p=>⟨fun hp=>?_,fun⟨h0,h1,h2⟩=>?_⟩
   ·obtain⟨p0,p1,p2⟩:=(zeL hab).1 hp.1
    obtain⟨q0,q1,q2⟩:=(zeL hcd).1 hp.2
    have lp:le2 l p:=by rcases l3 with rfl|rfl;exact p1;exact q1
    have pr:le2 p r:=by rcases r3 with rfl|rfl;exact p2;exact q2
    refine⟨?_,lp,pr⟩
    by_cases e:l=r
    ·subst e;exact zgg _ _
    ·have hne:a≠b:=fun e2=>by
      subst e2
      exact e (zb8 hlr (zbc r1 l1))
     exact zmX hne la ra p0
   ·by_cases e:l=r
    ·subst e;rw[zb8 h2 h1];exact onl
    ·exact⟨zed e onl.1 onr.1 h0 h1 h2,zed e onl.2 onr.2 h0 h1 h2⟩
 ·rw[if_neg hm]
  intro p hp
  refine hm (zhA.2 ?_)
  obtain⟨p0,p1,p2⟩:=(zeL hab).1 hp.1
  obtain⟨q0,q1,q2⟩:=(zeL hcd).1 hp.2
  exact⟨zbc q1 p2,zbc p1 q2,zhz hp.2 p0,zhz hp.1 q0⟩
def zuT (a b c d:QQ):Mt:=zcI (spL a b) (spH a b) (spL c d) (spH c d)
theorem zkB (a b c d:QQ):zuT a b c d=zaB a b c d:=(zd3 ((zlY ztk ztk).of fun _=>and_congr zpU.symm zpU.symm)).symm
def Mt.has:Mt->Bool
 | .none=>false
 |_=>true
theorem zpW:(zbI a b).has=true:=by unfold zbI;split <;> rfl
theorem zlZ (a b c d:QQ):zbA a b c d=(zcI a b c d).has:=by
 unfold zcI
 by_cases hm:zbA a b c d=true
 ·rw[if_pos hm,hm]
  split <;> exact zpW.symm
 ·rw[if_neg hm];exact Bool.eq_false_iff.2 hm
def zc4 (a b c d:QQ):QQ:=if den a b c d=0 then(((0:Int):Rat),((0:Int):Rat))else zcQ a b c d
theorem zr6 (h:(!decide (erq (den a b c d)=0))=true):(((0:Int):Rat),((0:Int):Rat))=zc4 a b c d/\false=decide (den a b c d≠0):=by
 have e:den a b c d=0:=Classical.byContradiction fun e=>by rw[znr e]at h;exact absurd h (by decide)
 unfold zc4
 rw[if_pos e,e]
 exact⟨rfl,by decide⟩
theorem zr7 (h:(!decide (erq (den a b c d)=0))=false):zcQ a b c d=zc4 a b c d/\true=decide (den a b c d≠0):=by
 have e:den a b c d≠0:=fun e=>by rw[zri e]at h;exact absurd h (by decide)
 unfold zc4
 rw[if_neg e]
 exact⟨rfl,(decide_eq_true e).symm⟩
theorem zjp {q1 q1' q2 q2' q3 q3' q4 q4':Rat}(h:(!decide (erq ((q2 - q1)*(q4' - q3') - (q2' - q1')*(q4 - q3))=0))=true):(((0:Int):Rat),((0:Int):Rat))=zc4 (q1,q1') (q2,q2') (q3,q3') (q4,q4')/\false=decide (den (q1,q1') (q2,q2') (q3,q3') (q4,q4')≠0):=zr6 h
theorem zjq {q1 q1' q2 q2' q3 q3' q4 q4':Rat}(h:(!decide (erq ((q2 - q1)*(q4' - q3') - (q2' - q1')*(q4 - q3))=0))=false):zcQ (q1,q1') (q2,q2') (q3,q3') (q4,q4')=zc4 (q1,q1') (q2,q2') (q3,q3') (q4,q4')/\true=decide (den (q1,q1') (q2,q2') (q3,q3') (q4,q4')≠0):=zr7 h
def za1 (a b:QQ)(x:Rat):Rat:=if b.1 - a.1=0 then 0 else a.2+(b.2 - a.2)*((x - a.1)/(b.1 - a.1))
theorem zob {q1 q1' q2 q2' x:Rat}(h:(!decide (erq (q2 - q1)=0))=true):((0:Int):Rat)=za1 (q1,q1') (q2,q2') x/\false=decide (q2 - q1≠0):=by
 have e:q2 - q1=0:=Classical.byContradiction fun e=>by rw[znr e]at h;exact absurd h (by decide)
 unfold za1
 rw[if_pos e,e]
 exact⟨rfl,by decide⟩
theorem ziG {q1 q1' q2 q2' x:Rat}(h:(!decide (erq (q2 - q1)=0))=true):(0:Rat)=za1 (q1,q1') (q2,q2') x/\false=decide (q2 - q1≠0):=by
 obtain⟨e,e2⟩:=zob (q1':=q1') (q2':=q2') (x:=x) h
 exact⟨by rw[<-e];rfl,e2⟩
theorem ziH {q1 q1' q2 q2' x:Rat}(h:(!decide (erq (q2 - q1)=0))=false):q1'+(q2' - q1')*((x - q1)/(q2 - q1))=za1 (q1,q1') (q2,q2') x/\true=decide (q2 - q1≠0):=by
 have e:q2 - q1≠0:=fun e=>by rw[zri e]at h;exact absurd h (by decide)
 unfold za1
 rw[if_neg e]
 exact⟨rfl,(decide_eq_true e).symm⟩
section
variable {q1 q1' q2 q2':Rat}
theorem ztl (h:decide (0<za8 q1 q1' q2 q2')=true):q2=(spL (q1,q1') (q2,q2')).1/\q2'=(spL (q1,q1') (q2,q2')).2:=by unfold spL;rw[if_pos (of_decide_eq_true h)];exact⟨rfl,rfl⟩
theorem ztm (h:decide (0<za8 q1 q1' q2 q2')=false):q1=(spL (q1,q1') (q2,q2')).1/\q1'=(spL (q1,q1') (q2,q2')).2:=by unfold spL;rw[if_neg (of_decide_eq_false h)];exact⟨rfl,rfl⟩
theorem ztn (h:decide (0<za8 q1 q1' q2 q2')=true):q1=(spH (q1,q1') (q2,q2')).1/\q1'=(spH (q1,q1') (q2,q2')).2:=by unfold spH;rw[if_pos (of_decide_eq_true h)];exact⟨rfl,rfl⟩
theorem zto (h:decide (0<za8 q1 q1' q2 q2')=false):q2=(spH (q1,q1') (q2,q2')).1/\q2'=(spH (q1,q1') (q2,q2')).2:=by unfold spH;rw[if_neg (of_decide_eq_false h)];exact⟨rfl,rfl⟩
theorem zkC (h:decide (za8 q1 q1' q2 q2'<0)=true):q2=(zbZ (q1,q1') (q2,q2')).1/\q2'=(zbZ (q1,q1') (q2,q2')).2:=by unfold zbZ;rw[if_pos (of_decide_eq_true h)];exact⟨rfl,rfl⟩
theorem zkD (h:decide (za8 q1 q1' q2 q2'<0)=false):q1=(zbZ (q1,q1') (q2,q2')).1/\q1'=(zbZ (q1,q1') (q2,q2')).2:=by unfold zbZ;rw[if_neg (of_decide_eq_false h)];exact⟨rfl,rfl⟩
theorem zhB (h:decide (0<za8 q1 q1' q2 q2')=true):q2=(zbf (q1,q1') (q2,q2')).1/\q2'=(zbf (q1,q1') (q2,q2')).2:=by unfold zbf;rw[if_pos (of_decide_eq_true h)];exact⟨rfl,rfl⟩
theorem zhC (h:decide (0<za8 q1 q1' q2 q2')=false):q1=(zbf (q1,q1') (q2,q2')).1/\q1'=(zbf (q1,q1') (q2,q2')).2:=by unfold zbf;rw[if_neg (of_decide_eq_false h)];exact⟨rfl,rfl⟩
end
end
end Go.Proofs.YtipckjmgdghkiaaGreatDoor
