/- A part. -/
import Derived.Test.YtafokgknenienaaGreatDoorGRatF
import Derived.Test.YtafokgknenienaaGreatDoorGRefG
namespace Go.Proofs.YtafokgknenienaaGreatDoor
open Go Go.RowKit
variable {v v':Value}{V:World}{K K' N M:Nat}{Z Z':Int}
theorem zoF {x:Num}(h:x.ok V V.heap.size)(hk:x.n≤K):x.N<Bw^K:=zaB h.1.1 hk
theorem zd1 {K K':Nat}(h:K≤K'):Bw^K≤Bw^K':=ztg zbS h
theorem zoG (h:N1 K N v V)(h':N1 K' M v' V)(b:K≤100000)(b':K'≤100000):Calls Tryz.prog 91 #[v,v'] V (zai V (NT (K+K') (N*M))):=by
 obtain⟨x,rfl,rfl,hk,ho⟩:=h
 obtain⟨y,rfl,rfl,hk',ho'⟩:=h'
 refine gn (zoN (zkE ho ho') (by simp) (by simp) (by omega) (by omega)) ?_
 rw[Nat.pow_add]
 exact Nat.mul_lt_mul'' (zoF ho hk) (zoF ho' hk')
theorem zrB (h:Z1 K Z v V):Calls Tryz.prog 92 #[v] V (zai V fun v _=>v= .int .i64 Z.sign):=by
 obtain⟨b,x,rfl,hz,hk,ho⟩:=h
 exact gv (zjF (zrm ho) (by simp) hz)
theorem zsC (h:Z1 K Z v V):Calls Tryz.prog 99 #[v] V (zai V (ZT K (-Z))):=by
 obtain⟨b,x,rfl,rfl,hk,ho⟩:=h
 exact gz (zls (zrm ho) (by simp) rfl rfl) (by rw[Int.natAbs_neg,zbn];exact zoF ho hk)
theorem zf7 {A B M:Nat}(h:A<Bw^M)(h':B<Bw^M):A+B<Bw^(M+1):=by
 rw[Nat.pow_succ,za0]at *; omega
theorem zsD (h:Z1 K Z v V)(h':Z1 K' Z' v' V)(b:K≤800)(b':K'≤800):Calls Tryz.prog 94 #[v,v'] V (zai V (ZT (max K K'+1) (Z - Z'))):=by
 have l1:=h.lt
 have l2:=h'.lt
 obtain⟨b,x,rfl,hz,hk,ho⟩:=h
 obtain⟨b',y,rfl,hz',hk',ho'⟩:=h'
 refine gz (zqf (zkE ho ho') (by simp) (by simp) (by omega) (by omega) hz hz' rfl) ?_
 have h1:=zte l1 (zd1 (show K≤max K K' by omega))
 have h2:=zte l2 (zd1 (show K'≤max K K' by omega))
 have h3:=zf7 h1 h2
 have:=Int.natAbs_sub_le Z Z'
 omega
theorem zoH (h:ZRow K [Z,Z'] v V):∃(A:Option Addr) (c:Nat) (p p':Bool×Num),v= .slice A 2 c∧ZRds V V.heap.size A [p,p']∧zP p=Z∧zP p'=Z'∧p.2.n≤K∧p'.2.n≤K∧(zP p).natAbs<Bw^K∧(zP p').natAbs<Bw^K:=by
 obtain⟨A,c,ps,rfl,hR,hm,hb,hl,hc⟩:=h
 rcases ps with _|⟨p,_|⟨p',_|⟨p'',ps⟩⟩⟩
 ·simp at hm
 ·simp at hm
 ·simp only[List.map_cons,List.map_nil,List.cons.injEq,and_true]at hm
  have o1:=(hR 0 (by simp)).2
  have o2:=(hR 1 (by simp)).2
  exact⟨A,c,p,p',rfl,hR,hm.1,hm.2,hb p (by simp),hb p' (by simp),by rw[zP,zbn];exact zaB o1.1.1 (hb p (by simp)),by rw[zP,zbn];exact zaB o2.1.1 (hb p' (by simp))⟩
 ·simp at hm
theorem zhC (h:ZRow K [Z,Z'] v V)(b:K≤130):Calls Tryz.prog 90 #[v] V (zai V (ZT (K+K) (Z*Z'))):=by
 obtain⟨A,c,p,p',rfl,hR,rfl,rfl,k1,k2,l1,l2⟩:=zoH h
 have h1:=zqe A c [p,p'] (Env.start (w:=V) (l:=[]) (by simp)) hR (by simp) (by simp;omega)
 rw[show zdJ [p,p']=zP p*zP p' by simp[zdJ]]at h1
 refine gz h1 ?_
 rw[Int.natAbs_mul,Nat.pow_add]
 exact Nat.mul_lt_mul'' l1 l2
theorem zsE (h:ZRow K [Z,Z'] v V)(b:K≤800):Calls Tryz.prog 130 #[v] V (zai V (ZT (K+1) (Z+Z'))):=by
 obtain⟨A,c,p,p',rfl,hR,rfl,rfl,k1,k2,l1,l2⟩:=zoH h
 have h1:=zlr A c [p,p'] (Env.start (w:=V) (l:=[]) (by simp)) hR (by simp) (by simp;omega)
 rw[show zcS [p,p']=zP p+zP p' by simp[zcS]]at h1
 refine gz h1 ?_
 have:=zf7 l1 l2
 have:=Int.natAbs_add_le (zP p) (zP p')
 omega
end Go.Proofs.YtafokgknenienaaGreatDoor
