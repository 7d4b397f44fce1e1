/- A part. -/
import Derived.Test.YtipckjmgdghkiaaGreatDoorGRatF
import Derived.Test.YtipckjmgdghkiaaGreatDoorGRefG
namespace Go.Proofs.YtipckjmgdghkiaaGreatDoor
open Go Go.RowKit
variable {v v':Value}{V:World}{K K' N M:Nat}{Z Z':Int}
theorem zqW {x:Num}(h:x.ok V V.heap.size)(hk:x.n<=K):x.N<Bw^K:=zaz h.1.1 hk
theorem zeK {K K':Nat}(h:K<=K'):Bw^K<=Bw^K':=zv5 zb9 h
theorem zto (h:N1 K N v V)(h':N1 K' M v' V)(b:K<=100000)(b':K'<=100000):Calls Tryz.prog 88 #[v,v'] V (zaf V (NT (K+K') (N*M))):=by
 obtain⟨x,rfl,rfl,hk,ho⟩:=h
 obtain⟨y,rfl,rfl,hk',ho'⟩:=h'
 refine gn (zq3 (zmi ho ho') (by simp) (by simp) (by omega) (by omega)) ?_
 rw[Nat.pow_add]
 exact Nat.mul_lt_mul'' (zqW ho hk) (zqW ho' hk')
theorem zue (h:Z1 K Z v V):Calls Tryz.prog 68 #[v] V (zaf V fun v _=>v= .int .i64 Z.sign):=by
 obtain⟨b,x,rfl,hz,hk,ho⟩:=h
 exact gv (zk9 (zt5 ho) (by simp) hz)
theorem zvm (h:Z1 K Z v V):Calls Tryz.prog 110 #[v] V (zaf V (ZT K (-Z))):=by
 obtain⟨b,x,rfl,rfl,hk,ho⟩:=h
 exact gz (zng (zt5 ho) (by simp) rfl rfl) (by rw[Int.natAbs_neg,zbu];exact zqW ho hk)
theorem zg8 {A B M:Nat}(h:A<Bw^M)(h':B<Bw^M):A+B<Bw^(M+1):=by
 rw[Nat.pow_succ,za4]at *; omega
theorem zvn (h:Z1 K Z v V)(h':Z1 K' Z' v' V)(b:K<=800)(b':K'<=800):Calls Tryz.prog 70 #[v,v'] V (zaf V (ZT (max K K'+1) (Z - Z'))):=by
 have l1:=h.lt
 have l2:=h'.lt
 obtain⟨b,x,rfl,hz,hk,ho⟩:=h
 obtain⟨b',y,rfl,hz',hk',ho'⟩:=h'
 refine gz (zsC (zmi ho ho') (by simp) (by simp) (by omega) (by omega) hz hz' rfl) ?_
 have h1:=zv3 l1 (zeK (show K<=max K K' by omega))
 have h2:=zv3 l2 (zeK (show K'<=max K K' by omega))
 have h3:=zg8 h1 h2
 have:=Int.natAbs_sub_le Z Z'
 omega
theorem zqX (h:ZRow K [Z,Z'] v V):∃(A:Option Addr) (c:Nat) (p p':Bool×Num),v= .slice A 2 c/\ZRds V V.heap.size A [p,p']/\zP p=Z/\zP p'=Z'/\p.2.n<=K/\p'.2.n<=K/\(zP p).natAbs<Bw^K/\(zP p').natAbs<Bw^K:=by
 obtain⟨A,c,ps,rfl,hR,hm,hb,hl,hc⟩:=h
 rcases ps with _|⟨p,_|⟨p',_|⟨p'',ps⟩⟩⟩
 ·simp at hm
 ·simp at hm
 ·simp only[List.map_cons,List.map_nil,List.cons.injEq,and_true]at hm
  have o1:=(hR 0 (by simp)).2
  have o2:=(hR 1 (by simp)).2
  exact⟨A,c,p,p',rfl,hR,hm.1,hm.2,hb p (by simp),hb p' (by simp),by rw[zP,zbu];exact zaz o1.1.1 (hb p (by simp)),by rw[zP,zbu];exact zaz o2.1.1 (hb p' (by simp))⟩
 ·simp at hm
theorem zvo (h:ZRow K [Z,Z'] v V)(b:K<=800):Calls Tryz.prog 109 #[v] V (zaf V (ZT (K+1) (Z+Z'))):=by
 obtain⟨A,c,p,p',rfl,hR,rfl,rfl,k1,k2,l1,l2⟩:=zqX h
 have h1:=znf A c [p,p'] (Env.start (w:=V) (l:=[]) (by simp)) hR (by simp) (by simp;omega)
 rw[show zdl [p,p']=zP p+zP p' by simp[zdl]]at h1
 refine gz h1 ?_
 have:=zg8 l1 l2
 have:=Int.natAbs_add_le (zP p) (zP p')
 omega
end Go.Proofs.YtipckjmgdghkiaaGreatDoor
