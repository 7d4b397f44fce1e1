/- A part. -/
import Derived.Test.YtafokgknenienaaGreatDoorGRatF
import Derived.Test.YtafokgknenienaaGreatDoorGRefG
namespace Go.Proofs.YtafokgknenienaaGreatDoor
open Go Go.RowKit
variable {v v':Value}{V:World}{K K' N M:Nat}{Z Z':Int}
theorem zkE {x:Num}(h:x.ok V V.heap.size)(hk:x.n≤K):x.N<Bw^K:=zaE h.1.1 hk
theorem zc5 {K K':Nat}(h:K≤K'):Bw^K≤Bw^K':=zuF zbJ h
theorem zqm (h:N1 K N v V)(h':N1 K' M v' V)(b:K≤100000)(b':K'≤100000):Calls Tryz.prog 91 #[v,v'] V (zao V (NT (K+K') (N*M))):=by
 obtain⟨x,rfl,rfl,hk,ho⟩:=h
 obtain⟨y,rfl,rfl,hk',ho'⟩:=h'
 refine gn (zqu (zf0 ho ho') (by simp) (by simp) (by omega) (by omega)) ?_
 rw[Nat.pow_add]
 exact Nat.mul_lt_mul'' (zkE ho hk) (zkE ho' hk')
theorem zqn {k:Nat}(h:N<Bw^K):N*2^k<Bw^(K+k/32+1):=by
 have h1:2^k≤Bw^(k/32+1):=by
  have e:Bw=2^32:=by rw[zaX]
  rw[e,←Nat.pow_mul]
  exact zuF (by omega) (by omega)
 have h2:0<2^k:=Nat.pow_pos (by omega)
 calc N*2^k<Bw^K*2^k:=Nat.mul_lt_mul_of_pos_right h h2
  _≤Bw^K*Bw^(k/32+1):=Nat.mul_le_mul_left _ h1
  _=_:=by rw[←Nat.pow_add,Nat.add_assoc]
theorem zhS {k:Nat}(h:N1 K N v V)(b:K≤100000)(hk:k≤65536):Calls Tryz.prog 43 #[v,.int .i64 (k:Nat)] V (zao V (NT (K+k/32+1) (N*2^k))):=by
 obtain⟨x,rfl,rfl,hx,ho⟩:=h
 have:=zqv (k:=(k:Int)) (zpZ ho) (x:=x) (by simp) (by omega) (by omega)
 rw[Int.toNat_natCast,Nat.min_eq_left hk]at this
 exact gn this (zqn (zkE ho hx))
theorem zlL (h:Z1 K Z v V):Calls Tryz.prog 80 #[v] V (zao V (ZT K Z)):=by
 obtain⟨b,x,rfl,rfl,hk,ho⟩:=h
 exact gz (zcq b (zpZ ho) (by simp)) (by rw[zaZ];exact zkE ho hk)
theorem ztr (h:Z1 K Z v V):Calls Tryz.prog 92 #[v] V (zao V fun v _=>v= .int .i64 Z.sign):=by
 obtain⟨b,x,rfl,hz,hk,ho⟩:=h
 exact gv (zht (zpZ ho) (by simp) hz)
theorem zsx (h:Z1 K Z v V):Calls Tryz.prog 99 #[v] V (zao V (ZT K (-Z))):=by
 obtain⟨b,x,rfl,rfl,hk,ho⟩:=h
 exact gz (zmI (zpZ ho) (by simp) rfl rfl) (by rw[Int.natAbs_neg,zaZ];exact zkE ho hk)
theorem zeJ {A B M:Nat}(h:A<Bw^M)(h':B<Bw^M):A+B<Bw^(M+1):=by
 rw[Nat.pow_succ,zaX]at *; omega
theorem zkF (h:Z1 K Z v V)(h':Z1 K' Z' v' V)(b:K≤800)(b':K'≤800):Calls Tryz.prog 94 #[v,v'] V (zao V (ZT (max K K'+1) (Z - Z'))):=by
 have l1:=h.lt
 have l2:=h'.lt
 obtain⟨b,x,rfl,hz,hk,ho⟩:=h
 obtain⟨b',y,rfl,hz',hk',ho'⟩:=h'
 refine gz (zmJ (zf0 ho ho') (by simp) (by simp) (by omega) (by omega) hz hz' rfl) ?_
 have h1:=zuD l1 (zc5 (show K≤max K K' by omega))
 have h2:=zuD l2 (zc5 (show K'≤max K K' by omega))
 have h3:=zeJ h1 h2
 have:=Int.natAbs_sub_le Z Z'
 omega
theorem zun (h:Z1 K Z v V)(h':Z1 K' Z' v' V)(b:K≤800)(b':K'≤800):Calls Tryz.prog 141 #[v,v'] V (zao V fun v _=>v= .int .i64 (zbS Z Z')):=by
 obtain⟨b,x,rfl,hz,hk,ho⟩:=h
 obtain⟨b',y,rfl,hz',hk',ho'⟩:=h'
 exact gv (zr2 (zf0 ho ho') (by simp) (by simp) (by omega) (by omega) hz hz')
theorem zjg {n:Int}(hn: -9223372036854775808≤n∧n≤9223372036854775807):Calls Tryz.prog 44 #[.int .i64 n] V (zao V (ZT 2 n)):=by
 refine gz (zlN (e:=[]) (Env.start (by simp)) hn) ?_
 rw[show Bw^2=18446744073709551616 by rw[zaX]]
 omega
theorem zqo (h:ZRow K [Z,Z'] v V):∃(A:Option Addr) (c:Nat) (p p':Bool×Num),v= .slice A 2 c∧ZRds V V.heap.size A [p,p']∧zP p=Z∧zP p'=Z'∧p.2.n≤K∧p'.2.n≤K∧(zP p).natAbs<Bw^K∧(zP p').natAbs<Bw^K:=by
 obtain⟨A,c,ps,rfl,hR,hm,hb,hl,hc⟩:=h
 rcases ps with _|⟨p,_|⟨p',_|⟨p'',ps⟩⟩⟩
 ·simp at hm
 ·simp at hm
 ·simp only[List.map_cons,List.map_nil,List.cons.injEq,and_true]at hm
  have o1:=(hR 0 (by simp)).2
  have o2:=(hR 1 (by simp)).2
  exact⟨A,c,p,p',rfl,hR,hm.1,hm.2,hb p (by simp),hb p' (by simp),by rw[zP,zaZ];exact zaE o1.1.1 (hb p (by simp)),by rw[zP,zaZ];exact zaE o2.1.1 (hb p' (by simp))⟩
 ·simp at hm
theorem zeR (h:ZRow K [Z,Z'] v V)(b:K≤130):Calls Tryz.prog 90 #[v] V (zao V (ZT (K+K) (Z*Z'))):=by
 obtain⟨A,c,p,p',rfl,hR,rfl,rfl,k1,k2,l1,l2⟩:=zqo h
 have h1:=zr1 A c [p,p'] (Env.start (w:=V) (l:=[]) (by simp)) hR (by simp) (by simp;omega)
 rw[show zd0 [p,p']=zP p*zP p' by simp[zd0]]at h1
 refine gz h1 ?_
 rw[Int.natAbs_mul,Nat.pow_add]
 exact Nat.mul_lt_mul'' l1 l2
theorem zsy (h:ZRow K [Z,Z'] v V)(b:K≤800):Calls Tryz.prog 130 #[v] V (zao V (ZT (K+1) (Z+Z'))):=by
 obtain⟨A,c,p,p',rfl,hR,rfl,rfl,k1,k2,l1,l2⟩:=zqo h
 have h1:=zmH A c [p,p'] (Env.start (w:=V) (l:=[]) (by simp)) hR (by simp) (by simp;omega)
 rw[show zda [p,p']=zP p+zP p' by simp[zda]]at h1
 refine gz h1 ?_
 have:=zeJ l1 l2
 have:=Int.natAbs_add_le (zP p) (zP p')
 omega
end Go.Proofs.YtafokgknenienaaGreatDoor
