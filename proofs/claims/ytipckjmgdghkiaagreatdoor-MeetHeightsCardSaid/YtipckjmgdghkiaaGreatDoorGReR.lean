/- A part. -/
import Derived.Test.YtipckjmgdghkiaaGreatDoorGRatF
import Derived.Test.YtipckjmgdghkiaaGreatDoorGRefG
namespace Go.Proofs.YtipckjmgdghkiaaGreatDoor
open Go Go.RowKit
variable {v v':Value}{V:World}{K K' N M:Nat}{Z Z':Int}
theorem zrj {x:Num}(h:x.ok V V.heap.size)(hk:x.n<=K):x.N<Bw^K:=zay h.1.1 hk
theorem zeW {K K':Nat}(h:K<=K'):Bw^K<=Bw^K':=zwb zb4 h
theorem ztE (h:N1 K N v V)(h':N1 K' M v' V)(b:K<=100000)(b':K'<=100000):Calls Tryz.prog 88 #[v,v'] V (zag V (NT (K+K') (N*M))):=by
 obtain⟨x,rfl,rfl,hk,ho⟩:=h
 obtain⟨y,rfl,rfl,hk',ho'⟩:=h'
 refine gn (zrq (zmw ho ho') (by simp) (by simp) (by omega) (by omega)) ?_
 rw[Nat.pow_add]
 exact Nat.mul_lt_mul'' (zrj ho hk) (zrj ho' hk')
theorem zur (h:Z1 K Z v V):Calls Tryz.prog 68 #[v] V (zag V fun v _=>v= .int .i64 Z.sign):=by
 obtain⟨b,x,rfl,hz,hk,ho⟩:=h
 exact gv (zlm (zuk ho) (by simp) hz)
theorem zvw (h:Z1 K Z v V):Calls Tryz.prog 110 #[v] V (zag V (ZT K (-Z))):=by
 obtain⟨b,x,rfl,rfl,hk,ho⟩:=h
 exact gz (znv (zuk ho) (by simp) rfl rfl) (by rw[Int.natAbs_neg,zbu];exact zrj ho hk)
theorem zhj {A B M:Nat}(h:A<Bw^M)(h':B<Bw^M):A+B<Bw^(M+1):=by
 rw[Nat.pow_succ,za3]at *; omega
theorem zvx (h:Z1 K Z v V)(h':Z1 K' Z' v' V)(b:K<=800)(b':K'<=800):Calls Tryz.prog 70 #[v,v'] V (zag V (ZT (max K K'+1) (Z - Z'))):=by
 have l1:=h.lt
 have l2:=h'.lt
 obtain⟨b,x,rfl,hz,hk,ho⟩:=h
 obtain⟨b',y,rfl,hz',hk',ho'⟩:=h'
 refine gz (zsT (zmw ho ho') (by simp) (by simp) (by omega) (by omega) hz hz' rfl) ?_
 have h1:=zv9 l1 (zeW (show K<=max K K' by omega))
 have h2:=zv9 l2 (zeW (show K'<=max K K' by omega))
 have h3:=zhj h1 h2
 have:=Int.natAbs_sub_le Z Z'
 omega
theorem zrk (h:ZRow K [Z,Z'] v V):∃(A:Option Addr) (c:Nat) (p p':Bool×Num),v= .slice A 2 c/\ZRds V V.heap.size A [p,p']/\zP p=Z/\zP p'=Z'/\p.2.n<=K/\p'.2.n<=K/\(zP p).natAbs<Bw^K/\(zP p').natAbs<Bw^K:=by
 obtain⟨A,c,ps,rfl,hR,hm,hb,hl,hc⟩:=h
 rcases ps with _|⟨p,_|⟨p',_|⟨p'',ps⟩⟩⟩
 ·simp at hm
 ·simp at hm
 ·simp only[List.map_cons,List.map_nil,List.cons.injEq,and_true]at hm
  have o1:=(hR 0 (by simp)).2
  have o2:=(hR 1 (by simp)).2
  exact⟨A,c,p,p',rfl,hR,hm.1,hm.2,hb p (by simp),hb p' (by simp),by rw[zP,zbu];exact zay o1.1.1 (hb p (by simp)),by rw[zP,zbu];exact zay o2.1.1 (hb p' (by simp))⟩
 ·simp at hm
theorem zvy (h:ZRow K [Z,Z'] v V)(b:K<=800):Calls Tryz.prog 109 #[v] V (zag V (ZT (K+1) (Z+Z'))):=by
 obtain⟨A,c,p,p',rfl,hR,rfl,rfl,k1,k2,l1,l2⟩:=zrk h
 have h1:=znu A c [p,p'] (Env.start (w:=V) (l:=[]) (by simp)) hR (by simp) (by simp;omega)
 rw[show zdn [p,p']=zP p+zP p' by simp[zdn]]at h1
 refine gz h1 ?_
 have:=zhj l1 l2
 have:=Int.natAbs_add_le (zP p) (zP p')
 omega
end Go.Proofs.YtipckjmgdghkiaaGreatDoor
