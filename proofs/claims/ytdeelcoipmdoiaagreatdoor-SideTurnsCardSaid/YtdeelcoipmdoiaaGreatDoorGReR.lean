/- A part. -/
import Derived.Test.YtdeelcoipmdoiaaGreatDoorGRatF
import Derived.Test.YtdeelcoipmdoiaaGreatDoorGRefG
namespace Go.Proofs.YtdeelcoipmdoiaaGreatDoor
open Go Go.RowKit
variable {v v':Value}{V:World}{K K' N M:Nat}{Z Z':Int}
theorem zp8 {x:Num}(h:x.ok V V.heap.size)(hk:x.n≤K):x.N<Bw^K:=zat h.1.1 hk
theorem zfj {K K':Nat}(h:K≤K'):Bw^K≤Bw^K':=zsp zbG h
theorem zrE (h:N1 K N v V)(h':N1 K' M v' V)(b:K≤100000)(b':K'≤100000):Calls Tryz.prog 76 #[v,v'] V (zao V (NT (K+K') (N*M))):=by
 obtain⟨x,rfl,rfl,hk,ho⟩:=h
 obtain⟨y,rfl,rfl,hk',ho'⟩:=h'
 refine gn (zoc (znY ho ho') (by simp) (by simp) (by omega) (by omega)) ?_
 rw[Nat.pow_add]
 exact Nat.mul_lt_mul'' (zp8 ho hk) (zp8 ho' hk')
theorem zhY {A B M:Nat}(h:A<Bw^M)(h':B<Bw^M):A+B<Bw^(M+1):=by
 rw[Nat.pow_succ,zaZ]at *; omega
theorem zn6 (h:ZRow K [Z,Z'] v V):∃(A:Option Addr) (c:Nat) (p p':Bool×Num),v= .slice A 2 c∧ZRds V V.heap.size A [p,p']∧zP p=Z∧zP p'=Z'∧p.2.n≤K∧p'.2.n≤K∧(zP p).natAbs<Bw^K∧(zP p').natAbs<Bw^K:=by
 obtain⟨A,c,ps,rfl,hR,hm,hb,hl,hc⟩:=h
 rcases ps with _|⟨p,_|⟨p',_|⟨p'',ps⟩⟩⟩
 ·simp at hm
 ·simp at hm
 ·simp only[List.map_cons,List.map_nil,List.cons.injEq,and_true]at hm
  have o1:=(hR 0 (by simp)).2
  have o2:=(hR 1 (by simp)).2
  exact⟨A,c,p,p',rfl,hR,hm.1,hm.2,hb p (by simp),hb p' (by simp),by rw[zP,zbi];exact zat o1.1.1 (hb p (by simp)),by rw[zP,zbi];exact zat o2.1.1 (hb p' (by simp))⟩
 ·simp at hm
theorem zrF (h:ZRow K [Z,Z'] v V)(b:K≤800):Calls Tryz.prog 75 #[v] V (zao V (ZT (K+1) (Z+Z'))):=by
 obtain⟨A,c,p,p',rfl,hR,rfl,rfl,k1,k2,l1,l2⟩:=zn6 h
 have h1:=zpw A c [p,p'] (Env.start (w:=V) (l:=[]) (by simp)) hR (by simp) (by simp;omega)
 rw[show zcT [p,p']=zP p+zP p' by simp[zcT]]at h1
 refine gz h1 ?_
 have:=zhY l1 l2
 have:=Int.natAbs_add_le (zP p) (zP p')
 omega
end Go.Proofs.YtdeelcoipmdoiaaGreatDoor
