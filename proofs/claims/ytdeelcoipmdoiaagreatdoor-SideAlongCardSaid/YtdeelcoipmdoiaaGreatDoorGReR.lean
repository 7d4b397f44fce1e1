/- A part. -/
import Derived.Test.YtdeelcoipmdoiaaGreatDoorGRatF
import Derived.Test.YtdeelcoipmdoiaaGreatDoorGRefG
namespace Go.Proofs.YtdeelcoipmdoiaaGreatDoor
open Go Go.RowKit
variable {v v':Value}{V:World}{K K' N M:Nat}{Z Z':Int}
theorem zph {x:Num}(h:x.ok V V.heap.size)(hk:x.n≤K):x.N<Bw^K:=zaA h.1.1 hk
theorem zfF {K K':Nat}(h:K≤K'):Bw^K≤Bw^K':=zt8 zbP h
theorem zrI (h:N1 K N v V)(h':N1 K' M v' V)(b:K≤100000)(b':K'≤100000):Calls Tryz.prog 76 #[v,v'] V (zal V (NT (K+K') (N*M))):=by
 obtain⟨x,rfl,rfl,hk,ho⟩:=h
 obtain⟨y,rfl,rfl,hk',ho'⟩:=h'
 refine gn (zpo (zo8 ho ho') (by simp) (by simp) (by omega) (by omega)) ?_
 rw[Nat.pow_add]
 exact Nat.mul_lt_mul'' (zph ho hk) (zph ho' hk')
theorem ztu (h:Z1 K Z v V):Calls Tryz.prog 78 #[v] V (zal V (ZT K (-Z))):=by
 obtain⟨b,x,rfl,rfl,hk,ho⟩:=h
 exact gz (zqX (ztn ho) (by simp) rfl rfl) (by rw[Int.natAbs_neg,zbk];exact zph ho hk)
theorem ziG {A B M:Nat}(h:A<Bw^M)(h':B<Bw^M):A+B<Bw^(M+1):=by
 rw[Nat.pow_succ,za0]at *; omega
theorem zpi (h:ZRow K [Z,Z'] v V):∃(A:Option Addr) (c:Nat) (p p':Bool×Num),v= .slice A 2 c∧ZRds V V.heap.size A [p,p']∧zP p=Z∧zP p'=Z'∧p.2.n≤K∧p'.2.n≤K∧(zP p).natAbs<Bw^K∧(zP p').natAbs<Bw^K:=by
 obtain⟨A,c,ps,rfl,hR,hm,hb,hl,hc⟩:=h
 rcases ps with _|⟨p,_|⟨p',_|⟨p'',ps⟩⟩⟩
 ·simp at hm
 ·simp at hm
 ·simp only[List.map_cons,List.map_nil,List.cons.injEq,and_true]at hm
  have o1:=(hR 0 (by simp)).2
  have o2:=(hR 1 (by simp)).2
  exact⟨A,c,p,p',rfl,hR,hm.1,hm.2,hb p (by simp),hb p' (by simp),by rw[zP,zbk];exact zaA o1.1.1 (hb p (by simp)),by rw[zP,zbk];exact zaA o2.1.1 (hb p' (by simp))⟩
 ·simp at hm
theorem ztv (h:ZRow K [Z,Z'] v V)(b:K≤800):Calls Tryz.prog 75 #[v] V (zal V (ZT (K+1) (Z+Z'))):=by
 obtain⟨A,c,p,p',rfl,hR,rfl,rfl,k1,k2,l1,l2⟩:=zpi h
 have h1:=zqV A c [p,p'] (Env.start (w:=V) (l:=[]) (by simp)) hR (by simp) (by simp;omega)
 rw[show zdh [p,p']=zP p+zP p' by simp[zdh]]at h1
 refine gz h1 ?_
 have:=ziG l1 l2
 have:=Int.natAbs_add_le (zP p) (zP p')
 omega
end Go.Proofs.YtdeelcoipmdoiaaGreatDoor
