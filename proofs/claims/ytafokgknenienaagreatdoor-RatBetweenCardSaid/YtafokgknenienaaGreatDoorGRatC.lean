/- A part. -/
import Derived.Test.YtafokgknenienaaGreatDoorGRatG
namespace Go.Proofs.YtafokgknenienaaGreatDoor
open Go Go.RowKit
theorem zkk (s:Nat):(0:Rat)<2^s:=Rat.pow_pos (by decide)
theorem zcw (s:Nat):(((2^s:Nat):Int):Rat)=2^s:=by
 rw[Rat.intCast_natCast,Rat.natCast_pow];rfl
theorem zmu {T s:Nat}(h:s≤T):(2:Rat)^T=2^(T - s)*2^s:=by
 have e:2^T=2^(T - s)*2^s:=by rw[←Nat.pow_add,show T - s+s=T by omega]
 rw[←zcw T,←zcw (T - s),←zcw s,←Rat.intCast_mul,e]
 rfl
theorem zi8 {q:Rat}{T s:Nat}{m:Int}(h:s≤T):q*2^(T - s)<(m:Rat)↔q*2^T<((m*(2^s:Nat):Int):Rat):=by
 rw[Rat.intCast_mul,zcw,zmu h,←Rat.mul_assoc]
 exact(Rat.mul_lt_mul_right (zkk s)).symm
theorem zpJ {q:Rat}{T s:Nat}{m:Int}(h:s≤T):(m:Rat)<q*2^(T - s)↔((m*(2^s:Nat):Int):Rat)<q*2^T:=by
 rw[Rat.intCast_mul,zcw,zmu h,←Rat.mul_assoc]
 exact(Rat.mul_lt_mul_right (zkk s)).symm
section
variable {lo hi:Rat}{T s low high:Nat}
theorem zhi (hs:s≤T)(hl:∀n:Int,lo*2^T<(n:Rat)↔(low:Int)<n)(hh:∀n:Int,(n:Rat)<hi*2^T↔n≤(high:Int)):room lo hi (T - s)↔low/2^s<high/2^s:=by
 have hp:0<2^s:=zuI s
 rw[zdi]
 constructor
 ·rintro⟨m,h1,h2⟩
  have h3:=(hl _).1 ((zi8 hs).1 h1)
  have h4:=(hh _).1 ((zpJ hs).1 h2)
  have h5:0≤m:=by
   rcases Int.lt_or_le m 0 with h|h
   ·exfalso
    have:m*((2^s:Nat):Int)<0:=Int.mul_neg_of_neg_of_pos h (by exact_mod_cast hp)
    omega
   ·exact h
  obtain⟨n,rfl⟩:=Int.eq_ofNat_of_zero_le h5
  have h6:low<n*2^s:=by exact_mod_cast h3
  have h7:n*2^s≤high:=by exact_mod_cast h4
  have h8:=(Nat.div_lt_iff_lt_mul hp).2 h6
  have h9:=(Nat.le_div_iff_mul_le hp).2 h7
  omega
 ·intro h
  have h1:low<(low/2^s+1)*2^s:=by have:=Nat.lt_div_mul_add (a:=low) hp;rw[Nat.add_mul];omega
  have h2:(low/2^s+1)*2^s≤high:=(Nat.le_div_iff_mul_le hp).1 h
  refine⟨((low/2^s+1:Nat):Int),(zi8 hs).2 ((hl _).2 (by exact_mod_cast h1)),(zpJ hs).2 ((hh _).2 (by exact_mod_cast h2))⟩
theorem znL (hs:s≤T)(hl:∀n:Int,lo*2^T<(n:Rat)↔(low:Int)<n):(lo*2^(T - s)).floor=((low/2^s:Nat):Int):=by
 have hp:0<2^s:=zuI s
 have h1: ¬lo*2^(T - s)<(((low/2^s:Nat):Int):Rat):=fun h=>by
  have h2:=(hl _).1 ((zi8 hs).1 h)
  have h3:low<low/2^s*2^s:=by exact_mod_cast h2
  have:=Nat.div_mul_le_self low (2^s)
  omega
 have h2:lo*2^(T - s)<(((low/2^s+1:Nat):Int):Rat):=(zi8 hs).2 ((hl _).2 (by
  have:low<(low/2^s+1)*2^s:=by have:=Nat.lt_div_mul_add (a:=low) hp;rw[Nat.add_mul];omega
  exact_mod_cast this))
 have h3:((low/2^s:Nat):Int)≤(lo*2^(T - s)).floor:=Rat.le_floor_iff.2 (Rat.not_lt.1 h1)
 have h4:(lo*2^(T - s)).floor<((low/2^s+1:Nat):Int):=Rat.floor_lt_iff.2 h2
 omega
theorem zpK {p:Nat}(hlh:lo<hi)(h0:0≤lo)(hl:∀n:Int,lo*2^T<(n:Rat)↔(low:Int)<n)(hh:∀n:Int,(n:Rat)<hi*2^T↔n≤(high:Int))(hp:low/2^p<high/2^p)(hp1:low/2^(p+1)=high/2^(p+1)):
  zba lo hi=mkRat ((low/2^(min p T)+1:Nat):Int) (2^(T - min p T)):=by
 have mono:∀ {i j:Nat},i≤j→low/2^j<high/2^j→low/2^i<high/2^i:=fun {i j} hij h=>by
  rcases zuG (low/2^i) (high/2^i)with h1|h1
  ·exact h1
  ·exfalso
   have e:∀n:Nat,n/2^j=n/2^i/2^(j - i):=fun n=>by
    rw[Nat.div_div_eq_div_mul,←Nat.pow_add,show i+(j - i)=j by omega]
   rw[e low,e high]at h
   have:=Nat.div_le_div_right (c:=2^(j - i)) h1
   omega
 have hm:min p T≤T:=Nat.min_le_right _ _
 have hr:room lo hi (T - min p T):=(zhi hm hl hh).2 (mono (Nat.min_le_left _ _) hp)
 rw[zc9 hlh hr ?_]
 ·unfold btw btwK
  rw[if_pos h0,znL hm hl]
  rfl
 ·intro t ht hrt
  have ht2:T - (T - t)=t:=by omega
  rw[←ht2]at hrt
  have h1:=(zhi (by omega) hl hh).1 hrt
  have h2:=mono (i:=p+1) (j:=T - t) (by omega) h1
  omega
end
theorem zmv (u v L:Nat):(u^^^v)/2^L=u/2^L^^^v/2^L:=by
 rw[←Nat.shiftRight_eq_div_pow,←Nat.shiftRight_eq_div_pow,←Nat.shiftRight_eq_div_pow,Nat.shiftRight_xor_distrib]
theorem xor_zero {u v:Nat}(h:u^^^v=0):u=v:=by
 have h1:=Nat.xor_assoc u v v
 rw[h,Nat.xor_self,Nat.xor_zero,Nat.zero_xor]at h1
 exact h1.symm
theorem zkl {u v L:Nat}(h:u<v)(h1:u^^^v<2^L)(h2:2^(L - 1)≤u^^^v):u/2^(L - 1)<v/2^(L - 1)∧u/2^L=v/2^L:=by
 refine⟨?_,xor_zero (by rw[←zmv];exact Nat.div_eq_of_lt h1)⟩
 have h3:u/2^(L - 1)≠v/2^(L - 1):=fun e=>by
  have h4:=zmv u v (L - 1)
  rw[e,Nat.xor_self]at h4
  have:=(Nat.div_eq_zero_iff_lt (zuI _)).1 h4
  omega
 have:=Nat.div_le_div_right (c:=2^(L - 1)) (Nat.le_of_lt h)
 omega
theorem zi9 {a i H u s:Nat}(h:a/Bw^i=H*Bw+u)(hs:s≤32):a/2^(32*i+s)=H*2^(32 - s)+u/2^s:=by
 rw[Nat.pow_add,←zbi,←Nat.div_div_eq_div_mul,h]
 have e:H*Bw=H*2^(32 - s)*2^s:=by rw[Nat.mul_assoc,←Nat.pow_add,show 32 - s+s=32 by omega];rfl
 rw[e,Nat.add_comm,Nat.add_mul_div_right _ _ (zuI s),Nat.add_comm]
theorem zru {a b i H u v L:Nat}(ha:a/Bw^i=H*Bw+u)(hb:b/Bw^i=H*Bw+v)(h:u<v)(hL:1≤L)(hL2:L≤32)(h1:u^^^v<2^L)(h2:2^(L - 1)≤u^^^v):
  a/2^(32*i+L - 1)<b/2^(32*i+L - 1)∧a/2^(32*i+L - 1+1)=b/2^(32*i+L - 1+1):=by
 obtain⟨p1,p2⟩:=zkl h h1 h2
 rw[show 32*i+L - 1+1=32*i+L by omega,show 32*i+L - 1=32*i+(L - 1) by omega,zi9 ha (by omega),zi9 hb (by omega),zi9 ha hL2,zi9 hb hL2,p2]
 exact⟨by omega,rfl⟩
theorem zpL {a b s:Nat}(ha:a<2^(s - 1))(hb:b<2^s)(hb2:2^(s - 1)≤b)(hs:1≤s):a/2^(s - 1)<b/2^(s - 1)∧a/2^(s - 1+1)=b/2^(s - 1+1):=by
 rw[show s - 1+1=s by omega,Nat.div_eq_of_lt ha,Nat.div_eq_of_lt hb,Nat.div_eq_of_lt (zuD ha (zuF (by decide) (by omega)))]
 exact⟨Nat.div_pos hb2 (zuI _),rfl⟩
theorem zrv {X D:Nat}(hD:D≠0):mkRat (X:Int) D*(((D:Nat):Int):Rat)=(((X:Nat):Int):Rat):=by
 have h2:((D:Nat):Rat)≠0:=fun h=>hD (by exact_mod_cast h)
 have e:(((D:Nat):Int):Rat)=((D:Nat):Rat):=Rat.intCast_natCast D
 rw[Rat.mkRat_eq_div,e,Rat.div_def,Rat.mul_assoc,Rat.inv_mul_cancel _ h2,Rat.mul_one]
theorem zmw {X D T:Nat}(hD:D≠0):mkRat (X:Int) D*2^T*(((D:Nat):Int):Rat)=(((X*2^T:Nat):Int):Rat):=by
 have h1:=zrv (X:=X) hD
 rw[Int.natCast_mul,Rat.intCast_mul,zcw,←h1]
 grind
theorem zkm {X D T:Nat}(hD:D≠0)(n:Int):mkRat (X:Int) D*2^T<(n:Rat)↔((X*2^T/D:Nat):Int)<n:=by
 have hd:(0:Rat)<(((D:Nat):Int):Rat):=by exact_mod_cast Nat.pos_of_ne_zero hD
 rw[←Rat.mul_lt_mul_right hd,zmw hD,←Rat.intCast_mul,Rat.intCast_lt_intCast,Int.natCast_ediv,Int.ediv_lt_iff_lt_mul (by omega)]
theorem ziq {X D T:Nat}(hD:D≠0)(hX:X≠0)(n:Int):(n:Rat)<mkRat (X:Int) D*2^T↔n≤(((X*2^T - 1)/D:Nat):Int):=by
 have hd:(0:Rat)<(((D:Nat):Int):Rat):=by exact_mod_cast Nat.pos_of_ne_zero hD
 have hp:0<X*2^T:=Nat.mul_pos (Nat.pos_of_ne_zero hX) (zuI T)
 rw[←Rat.mul_lt_mul_right hd,zmw hD,←Rat.intCast_mul,Rat.intCast_lt_intCast,Int.natCast_ediv,Int.le_ediv_iff_mul_le (by omega)]
 omega
theorem zfB (N:Nat):N<2^bitsN N:=zaC.1 zuA
theorem zpM {X D Y E:Nat}(hD:D≠0)(hE:E≠0)(hY:Y≠0)(h:mkRat (X:Int) D<mkRat (Y:Int) E):X*2^(bitsN D+bitsN E)/D<(Y*2^(bitsN D+bitsN E) - 1)/E:=by
 have h1:(mkRat (X:Int) D).den*(mkRat (Y:Int) E).den<2^(bitsN D+bitsN E):=by
  have a1:=zcF (z:=(X:Int)) (d:=D)
  have a2:=zcF (z:=(Y:Int)) (d:=E)
  have b1:=zfB D
  have b2:=zfB E
  rw[Nat.pow_add]
  exact Nat.mul_lt_mul_of_lt_of_lt (by omega) (by omega)
 have h2:=(zhi (T:=bitsN D+bitsN E) (s:=0) (Nat.zero_le _) (zkm hD) (ziq hE hY)).1 (zfE h h1)
 simpa using h2
theorem zkn {X D Y E p:Nat}(hD:D≠0)(hE:E≠0)(hY:Y≠0)(h0:0≤mkRat (X:Int) D)(h:mkRat (X:Int) D<mkRat (Y:Int) E)
  (hp:X*2^(bitsN D+bitsN E)/D/2^p<(Y*2^(bitsN D+bitsN E) - 1)/E/2^p∧X*2^(bitsN D+bitsN E)/D/2^(p+1)=(Y*2^(bitsN D+bitsN E) - 1)/E/2^(p+1)):
  zba (mkRat (X:Int) D) (mkRat (Y:Int) E)=mkRat ((X*2^(bitsN D+bitsN E)/D/2^(min p (bitsN D+bitsN E))+1:Nat):Int) (2^(bitsN D+bitsN E - min p (bitsN D+bitsN E))):=
 zpK h h0 (zkm hD) (ziq hE hY) hp.1 hp.2
section
variable {lo hi:Rat}
theorem zmx (h:lo<hi):∃s,(zba lo hi).den=2^s∧(lo<zba lo hi∧zba lo hi<hi)∧(0<zba lo hi→ ¬lo<zba lo hi - 1/2^s)∧(zba lo hi<0→ ¬zba lo hi+1/2^s<hi)∧∀t,t<s→ ¬room lo hi t:=by
 obtain⟨s,h1,h2⟩:=zcc h
 rw[zc9 h h1 h2]
 exact⟨s,zmz h1 h2,zeh h1,zlD h1,zlE h1,h2⟩
theorem zlz {s:Nat}(h:lo<hi)(h1:zkD lo hi)(h2:∀t,t<s→ ¬room lo hi t):s≤1290:=by
 obtain⟨E,h3,h4⟩:=h1
 rcases zuG E s with h5|h5
 ·exact absurd (zfE h h4) (h2 E h5)
 ·omega
theorem zrw {D s:Nat}(h:D=2^s):mkRat 1 D=1/2^s:=by
 subst h
 rw[Rat.mkRat_eq_div,Rat.natCast_pow]
 rfl
theorem zeG {s:Nat}(h: ¬room lo hi s):0≤zaK (((Rat.floor (lo*2^s):Int):Rat)+1) (hi*2^s):=by
 have h1: ¬(((Rat.floor (lo*2^s):Int):Rat)+1)<hi*2^s:=fun h2=>h (by unfold room;rw[Rat.intCast_add];exact h2)
 exact of_decide_eq_true (zcp.2 h1)
theorem zrx (q:Rat):q≤((q.num.natAbs:Nat):Rat)∧ -((q.num.natAbs:Nat):Rat)≤q:=by
 have h1:=zcj q
 have h2:(1:Rat)≤(q.den:Nat):=by exact_mod_cast q.den_pos
 have h3:((q.num:Int):Rat)≤((q.num.natAbs:Nat):Rat):=by
  rw[show((q.num.natAbs:Nat):Rat)=(((q.num.natAbs:Nat):Int):Rat)from rfl];exact Rat.intCast_le_intCast.2 (by omega)
 have h4: -((q.num.natAbs:Nat):Rat)≤((q.num:Int):Rat):=by
  rw[show((q.num.natAbs:Nat):Rat)=(((q.num.natAbs:Nat):Int):Rat)from rfl,←Rat.intCast_neg];exact Rat.intCast_le_intCast.2 (by omega)
 have h5:(0:Rat)≤((q.num.natAbs:Nat):Rat):=by exact_mod_cast Nat.zero_le _
 constructor
 ·rcases(Rat.le_total:q≤0∨0≤q)with h|h
  ·exact Rat.le_trans h h5
  ·have:q*1≤q*(q.den:Nat):=Rat.mul_le_mul_of_nonneg_left h2 h
   grind
 ·rcases(Rat.le_total:0≤q∨q≤0)with h|h
  ·grind
  ·have: -q*1≤ -q*(q.den:Nat):=Rat.mul_le_mul_of_nonneg_left h2 (by grind)
   grind
theorem zlA {q:Rat}{n s:Nat}(h:q.num.natAbs≤n):q*2^s≤(((n*2^s:Nat):Int):Rat)∧(((-(n*2^s:Nat):Int)):Rat)≤q*2^s:=by
 have hp:=zdh s
 have e:(((n*2^s:Nat):Int):Rat)=(n:Rat)*2^s:=by rw[Int.natCast_mul,Rat.intCast_mul,zcw];rfl
 have h1:=zrx q
 have h2:((q.num.natAbs:Nat):Rat)≤(n:Rat):=by exact_mod_cast h
 rw[Rat.intCast_neg,e]
 have a1:=Rat.mul_le_mul_of_nonneg_right (show q≤(n:Rat) by grind) (Rat.le_of_lt hp)
 have a2:=Rat.mul_le_mul_of_nonneg_right (show -(n:Rat)≤q by grind) (Rat.le_of_lt hp)
 exact⟨a1,by grind⟩
theorem znM {q:Rat}{n s:Nat}(h:q.num.natAbs≤n):(q*2^s).floor.natAbs≤n*2^s+1:=by
 obtain⟨h1,h2⟩:=zlA (s:=s) h
 have a1:(q*2^s).floor≤((n*2^s:Nat):Int):=by
  have:=Rat.floor_le (q*2^s)
  exact Rat.intCast_le_intCast.1 (by grind)
 have a2: -((n*2^s:Nat):Int)≤(q*2^s).floor:=Rat.le_floor_iff.2 h2
 omega
theorem zko {n s:Nat}{k:Int}(h1:lo.num.natAbs≤n)(h2:hi.num.natAbs≤n)(h3:lo*2^s<k)(h4:(k:Rat)<hi*2^s):k.natAbs≤n*2^s:=by
 have a1:=(zlA (s:=s) h1).2
 have a2:=(zlA (s:=s) h2).1
 have b1: -((n*2^s:Nat):Int)≤k:=Rat.intCast_le_intCast.1 (by grind)
 have b2:k≤((n*2^s:Nat):Int):=Rat.intCast_le_intCast.1 (by grind)
 omega
theorem zcL {b:Bool}{x y:Num}{V:World}{q:Rat}(hq:qOf b x.N y.N=q)(hx:x.ok V V.heap.size)(hy:y.ok V V.heap.size):q.num.natAbs≤2^(32*x.n)∧q.den≤2^(32*y.n):=by
 subst hq
 have h1:=hx.1.1
 have h2:=hy.1.1
 rw[zdT]at h1 h2
 have h3:=zcF (z:=zOf b x.N) (d:=y.N)
 have h4:(zOf b x.N).natAbs=x.N:=by cases b <;> simp[zOf]
 rw[h4]at h3
 have:=zuI (32*y.n)
 unfold qOf
 omega
theorem ze4 {n K:Nat}(h:n<32*K):2^n<Bw^K:=by rw[zdT];exact Nat.pow_lt_pow_right (by omega) h
section
variable {n0 n1 d0 d1:Nat}
theorem zhj (h0:lo.den≤2^d0)(h1:hi.den≤2^d1)(h:d0+d1≤1280):zkD lo hi:=
 ⟨d0+d1+1,by omega,by
  calc lo.den*hi.den≤2^d0*2^d1:=Nat.mul_le_mul h0 h1
   _=2^(d0+d1):=(Nat.pow_add ..).symm
   _<2^(d0+d1+1):=Nat.pow_lt_pow_right (by omega) (by omega)⟩
theorem zkp {s:Nat}(hlt:lo<hi)(h0:lo.den≤2^d0)(h1:hi.den≤2^d1)(h2:∀t,t<s→ ¬room lo hi t):s≤d0+d1+1:=by
 rcases zuG (d0+d1+1) s with h5|h5
 ·exact absurd (zfE hlt (by
   calc lo.den*hi.den≤2^d0*2^d1:=Nat.mul_le_mul h0 h1
    _=2^(d0+d1):=(Nat.pow_add ..).symm
    _<2^(d0+d1+1):=Nat.pow_lt_pow_right (by omega) (by omega))) (h2 _ h5)
 ·exact h5
theorem zry {n s m:Nat}(hn:n≤2^n0+2^n1)(h:n0+n1+s≤m):n*2^s≤2^(m+1):=by
 have e0:2^n0≤2^(n0+n1):=zuF (by omega) (by omega)
 have e1:2^n1≤2^(n0+n1):=zuF (by omega) (by omega)
 calc n*2^s≤2^(n0+n1+1)*2^s:=Nat.mul_le_mul_right _ (by rw[Nat.pow_succ];omega)
  _=2^(n0+n1+1+s):=(Nat.pow_add ..).symm
  _≤2^(m+1):=zuF (by omega) (by omega)
theorem zrz (hlt:lo<hi)(a0:lo.num.natAbs≤2^n0)(a1:hi.num.natAbs≤2^n1)(h0:lo.den≤2^d0)(h1:hi.den≤2^d1)(h:n0+n1+(d0+d1)≤1280):Sm 42 (zba lo hi):=by
 obtain⟨s,h2,h3⟩:=zcc hlt
 have hs:=zkp hlt h0 h1 h3
 rw[zc9 hlt h2 h3]
 unfold Sm
 rw[zmz h2 h3]
 obtain⟨m,hm⟩:∃m,m=1281:=⟨_,rfl⟩
 refine⟨zuE (zuC (zcF (z:=btwK lo hi s) (d:=2^s)).1 (zuC (zko (n:=2^n0+2^n1) (by omega) (by omega) (zjb h2).1 (zjb h2).2) (zry (m:=m) zuA (by omega)))) (ze4 (by omega)),ze4 (by omega)⟩
theorem zfC {s:Nat}(a0:lo.num.natAbs≤2^n0)(h:n0+s≤1281):(lo*2^s).floor.natAbs<Bw^42:=by
 have h1:=znM (s:=s) a0
 rw[←Nat.pow_add]at h1
 obtain⟨m,hm⟩:∃m,m=1281:=⟨_,rfl⟩
 have h2:2^(n0+s)≤2^m:=zuF (by omega) (by omega)
 have h3:2^(m+1)<Bw^42:=ze4 (by omega)
 have h4:1<2^m:=Nat.one_lt_two_pow (by omega)
 rw[Nat.pow_succ]at h3
 generalize 2^m=p at*
 generalize Bw^42=p2 at*
 omega
end
theorem znN (s:Nat):bitsN (2^s)=s+1:=zjT zuA (Nat.pow_lt_pow_right (by omega) (by omega))
theorem zeg {b:Bool}{X D k:Nat}(hb:b=false)(hx:X=1*2^k)(hd:D=1):qOf b X D=2^k:=by
 subst hb hx hd
 unfold qOf
 rw[Nat.one_mul,show zOf false (2^k)=((2^k:Nat):Int)from rfl,Rat.mkRat_eq_div,zcw]
 grind
theorem zsq {b:Bool}{X D s:Nat}{Z:Int}(hb:zOf b X=Z)(hZ:Z=1)(hd:D=2^s):qOf b X D=1/2^s:=by
 unfold qOf
 rw[hb,hZ,zrw hd]
end
end Go.Proofs.YtafokgknenienaaGreatDoor
