/- A part. -/
import Derived.Test.YtdeelcoipmdoiaaGreatDoorGRatF
import Derived.Test.YtdeelcoipmdoiaaGreatDoorGRefG
namespace Go.Proofs.YtdeelcoipmdoiaaGreatDoor
open Go Go.RowKit
variable {v v':Value}{V:World}{K K' N M:Nat}{Z Z':Int}
theorem zqm {x:Num}(h:x.ok V V.heap.size)(hk:x.n≤K):x.N<Bw^K:=zax h.1.1 hk
theorem zev {K K':Nat}(h:K≤K'):Bw^K≤Bw^K':=zu6 zb0 h
theorem zsC (h:N1 K N v V)(h':N1 K' M v' V)(b:K≤100000)(b':K'≤100000):Calls Tryz.prog 76 #[v,v'] V (zaj V (NT (K+K') (N*M))):=by
 obtain⟨x,rfl,rfl,hk,ho⟩:=h
 obtain⟨y,rfl,rfl,hk',ho'⟩:=h'
 refine gn (zqt (zlW ho ho') (by simp) (by simp) (by omega) (by omega)) ?_
 rw[Nat.pow_add]
 exact Nat.mul_lt_mul'' (zqm ho hk) (zqm ho' hk')
theorem zto (h:Z1 K Z v V):Calls Tryz.prog 55 #[v] V (zaj V fun v _=>v= .int .i64 Z.sign):=by
 obtain⟨b,x,rfl,hz,hk,ho⟩:=h
 exact gv (zkL (ztd ho) (by simp) hz)
theorem zut (h:Z1 K Z v V):Calls Tryz.prog 78 #[v] V (zaj V (ZT K (-Z))):=by
 obtain⟨b,x,rfl,rfl,hk,ho⟩:=h
 exact gz (zmT (ztd ho) (by simp) rfl rfl) (by rw[Int.natAbs_neg,zbs];exact zqm ho hk)
theorem zgN {A B M:Nat}(h:A<Bw^M)(h':B<Bw^M):A+B<Bw^(M+1):=by
 rw[Nat.pow_succ,za2]at *; omega
theorem zuu (h:Z1 K Z v V)(h':Z1 K' Z' v' V)(b:K≤800)(b':K'≤800):Calls Tryz.prog 56 #[v,v'] V (zaj V (ZT (max K K'+1) (Z - Z'))):=by
 have l1:=h.lt
 have l2:=h'.lt
 obtain⟨b,x,rfl,hz,hk,ho⟩:=h
 obtain⟨b',y,rfl,hz',hk',ho'⟩:=h'
 refine gz (zrY (zlW ho ho') (by simp) (by simp) (by omega) (by omega) hz hz' rfl) ?_
 have h1:=zu4 l1 (zev (show K≤max K K' by omega))
 have h2:=zu4 l2 (zev (show K'≤max K K' by omega))
 have h3:=zgN h1 h2
 have:=Int.natAbs_sub_le Z Z'
 omega
theorem zqn (h:ZRow K [Z,Z'] v V):∃(A:Option Addr) (c:Nat) (p p':Bool×Num),v= .slice A 2 c∧ZRds V V.heap.size A [p,p']∧zP p=Z∧zP p'=Z'∧p.2.n≤K∧p'.2.n≤K∧(zP p).natAbs<Bw^K∧(zP p').natAbs<Bw^K:=by
 obtain⟨A,c,ps,rfl,hR,hm,hb,hl,hc⟩:=h
 rcases ps with _|⟨p,_|⟨p',_|⟨p'',ps⟩⟩⟩
 ·simp at hm
 ·simp at hm
 ·simp only[List.map_cons,List.map_nil,List.cons.injEq,and_true]at hm
  have o1:=(hR 0 (by simp)).2
  have o2:=(hR 1 (by simp)).2
  exact⟨A,c,p,p',rfl,hR,hm.1,hm.2,hb p (by simp),hb p' (by simp),by rw[zP,zbs];exact zax o1.1.1 (hb p (by simp)),by rw[zP,zbs];exact zax o2.1.1 (hb p' (by simp))⟩
 ·simp at hm
theorem zuv (h:ZRow K [Z,Z'] v V)(b:K≤800):Calls Tryz.prog 75 #[v] V (zaj V (ZT (K+1) (Z+Z'))):=by
 obtain⟨A,c,p,p',rfl,hR,rfl,rfl,k1,k2,l1,l2⟩:=zqn h
 have h1:=zmS A c [p,p'] (Env.start (w:=V) (l:=[]) (by simp)) hR (by simp) (by simp;omega)
 rw[show zdf [p,p']=zP p+zP p' by simp[zdf]]at h1
 refine gz h1 ?_
 have:=zgN l1 l2
 have:=Int.natAbs_add_le (zP p) (zP p')
 omega
end Go.Proofs.YtdeelcoipmdoiaaGreatDoor
