/- A part. -/
import Derived.Test.YtafokgknenienaaGreatDoorGGcdC
import Derived.Test.YtafokgknenienaaGreatDoorGROps
namespace Go.Proofs.YtafokgknenienaaGreatDoor
open Go Go.RowKit
variable {v v' v1 v2:Value}{V V':World}{K K' N M:Nat}{Z Z':Int}
structure TT (V:World):Prop where
 tabs:Tabs V
 signs:Signs V
theorem TT.keep (h:TT V)(hb:Below V.heap.size V V'):TT V':=⟨h.tabs.keep hb,h.signs.keep hb⟩
theorem gg {f:FuncId}{args:Array Value}(h:Calls Tryz.prog f args V (Gives V N))(hl:N<Bw^K)(hK:K≤35184372087808):Calls Tryz.prog f args V (zao V (NT K N)):=by
 refine h.mono ?_
 intro en V' hg
 obtain⟨r,rfl,h1,h2,hE⟩:=zbs (e:=[]) (Env.start (by simp)) hg (zuC (zaj.2 hl) hK)
 exact⟨_,rfl,⟨r,rfl,h1,h2,by rw[h2];exact zaj.2 hl,hE.2 r (by simp)⟩,hE.1⟩
theorem zso {f:FuncId}{args:Array Value}{c:Value}(h:Calls Tryz.prog f args V fun en V'=>en= .returned c∧V=V'):Calls Tryz.prog f args V (zao V fun v _=>v=c):=h.mono (by
 rintro en V' ⟨rfl,rfl⟩
 exact⟨_,rfl,rfl,Below.refl _ _⟩)
theorem ztc {f:FuncId}{args:Array Value}{c:Value}(h:Calls Tryz.prog f args V fun en V'=>en= .returned c∧Below V.heap.size V V'):Calls Tryz.prog f args V (zao V fun v _=>v=c):=h.mono (by
 rintro en V' ⟨rfl,hb⟩
 exact⟨_,rfl,rfl,hb⟩)
theorem zpG:Calls Tryz.prog 97 #[.int .u64 1] V (zao V (NT 1 1)):=gg (zfP V 1 (by decide)) (by rw[zaX];decide) (by decide)
theorem zhh (h:N1 K N v V):Calls Tryz.prog 118 #[v] V (zao V fun v _=>v= .int .i64 (bitsN N:Nat)):=by
 obtain⟨x,rfl,rfl,hk,h1,h2,h3,h4⟩:=h
 exact zso (zcv V _ _ _ _ _ h1 h2 h3 h4)
theorem zpH (h:N1 K N v1 V)(h':N1 K' M v2 V)(b:K≤1000000)(b':K'≤1000000):Calls Tryz.prog 126 #[v1,v2] V (zao V (NT (K+K') (N*M))):=by
 have l1:=h.lt
 have l2:=h'.lt
 obtain⟨x,rfl,rfl,hk,h1,h2,h3,h4⟩:=h
 obtain⟨y,rfl,rfl,hk',h1',h2',h3',h4'⟩:=h'
 refine gg (zpt V _ _ _ _ _ _ _ _ h1 h1' h2 h3 h2' h3' (by omega) (by omega)) ?_ (by omega)
 rw[Nat.pow_add]
 exact Nat.mul_lt_mul'' l1 l2
theorem zua (h:N1 K N v1 V)(h':N1 K' M v2 V):Calls Tryz.prog 127 #[v1,v2] V (zao V fun v _=>v= .int .i64 (zb5 N M)):=by
 obtain⟨x,rfl,rfl,hk,h1,h2,h3,h4⟩:=h
 obtain⟨y,rfl,rfl,hk',h1',h2',h3',h4'⟩:=h'
 exact ztc (zgB _ _ _ _ _ _ _ _ V h1 h1' (by omega) (by omega))
theorem pUp {k:Nat}(h:N1 K N v V)(b:K≤1000000)(hk:k≤65536):Calls Tryz.prog 106 #[v,.int .i64 (k:Nat)] V (zao V (NT (K+k/32+1) (N*2^k))):=by
 have l1:=h.lt
 obtain⟨x,rfl,rfl,hx,h1,h2,h3,h4⟩:=h
 have:=zfy V _ _ _ _ (k:Int) h1 h2 h3 (by omega) (by omega)
 rw[Int.toNat_natCast,Nat.min_eq_left hk]at this
 exact gg this (zqn l1) (by omega)
theorem zub {k:Nat}(h:N1 K N v V)(b:K≤1000000)(hk:k≤65536):Calls Tryz.prog 171 #[v,.int .i64 (k:Nat)] V (zao V (NT K (N/2^k))):=by
 have l1:=h.lt
 obtain⟨x,rfl,rfl,hx,h1,h2,h3,h4⟩:=h
 have:=zfW V _ _ _ _ (k:Int) h1 h2 h3 (by omega) (by omega)
 rw[Int.toNat_natCast,Nat.min_eq_left hk]at this
 exact gg this (zuE (Nat.div_le_self _ _) l1) (by omega)
theorem zi6 {x:Num}(h1:x.N=N)(h2:x.n=lenL N)(hl:N<Bw^K)(ho:x.ok V V.heap.size):NT K N (.slice x.A x.n x.c) V:=⟨x,rfl,h1,h2,by rw[h2];exact zaj.2 hl,ho⟩
theorem zi7 (T:TT V)(h:N1 K N v1 V)(h':N1 K' M v2 V)(b:K≤10000)(b':K'≤10000):Calls Tryz.prog 119 #[v1,v2] V (zao V (N2 K K' (N/Nat.gcd N M) (M/Nat.gcd N M))):=by
 have l1:=h.lt
 have l2:=h'.lt
 obtain⟨x,rfl,rfl,hk,ho⟩:=h
 obtain⟨y,rfl,rfl,hk',ho'⟩:=h'
 refine(zk0 T.tabs V [x,y] x y (zf0 ho ho') (by simp) (by simp) (by omega) (by omega)).mono ?_
 rintro en V' ⟨p,q,rfl,h1,h2,h3,h4,hE⟩
 exact⟨_,rfl,⟨_,_,rfl,zi6 h1 h2 (zuE (Nat.div_le_self _ _) l1) (hE.2 p (by simp)),zi6 h3 h4 (zuE (Nat.div_le_self _ _) l2) (hE.2 q (by simp))⟩,hE.1⟩
theorem zuw (h:N1 K N v1 V)(h':N1 K' M v2 V)(hle:M≤N)(b:K≤1000000):Calls Tryz.prog 137 #[v1,v2] V (zao V (NE K (N - M) 0)):=by
 have l1:=h.lt
 obtain⟨x,rfl,rfl,hk,h1,h2,h3,h4⟩:=h
 obtain⟨y,rfl,rfl,hk',h1',h2',h3',h4'⟩:=h'
 refine(zfl V _ _ _ _ _ _ _ _ h1 h1' h4 h4' h2 h3 hle).mono ?_
 rintro en W ⟨A,c,rfl,a1,a2,a3,a4⟩
 have hl:x.N - y.N<Bw^K:=by omega
 exact⟨_,rfl,⟨_,rfl,⟨A,_,c,x.N - y.N⟩,rfl,rfl,rfl,zaj.2 hl,a3.ok a1 a2 (zuC (zaj.2 hl) (by omega))⟩,a4⟩
theorem zuc (h:N1 K N v1 V)(h':N1 K' M v2 V)(b:K≤100000)(b':K'≤100000):Calls Tryz.prog 135 #[v1,v2] V (zao V (N2E K K (N/M) (zbv N M) (zbF M))):=by
 have l1:=h.lt
 obtain⟨x,rfl,rfl,hk,ho⟩:=h
 obtain⟨y,rfl,rfl,hk',ho'⟩:=h'
 refine(zeU (zf0 ho ho') (by simp) (by simp) (by omega) (by omega)).mono ?_
 rintro en V' ⟨p,q,rfl,h1,h2,h3,h4,hE⟩
 exact⟨_,rfl,⟨_,_,rfl,zi6 h1 h2 (zuE (Nat.div_le_self _ _) l1) (hE.2 p (by simp)),zi6 h3 h4 (zuE (zeb _ _) l1) (hE.2 q (by simp))⟩,hE.1⟩
theorem zux {n:Int}(hn: -9223372036854775808≤n∧n≤9223372036854775807):Calls Tryz.prog 96 #[.int .i64 n] V (zao V (ZT 2 n)):=by
 refine gz (ztD V V [] n zuB (Env.start (by simp)) hn) ?_
 rw[show Bw^2=18446744073709551616 by rw[zaX]]
 omega
theorem ztd (T:TT V)(h:Z1 K Z v V)(b:K≤10000):Calls Tryz.prog 125 #[v] V (zao V fun v _=>v= .int .i64 Z.sign):=by
 obtain⟨bb,x,rfl,hz,hk,ho⟩:=h
 exact gv (zqI T.signs V V [x] bb x Z zuB (zpZ ho) (by simp) (by omega) hz)
theorem zsp (T:TT V)(h:Z1 K Z v V)(h':Z1 K' Z' v' V)(b:K≤10000)(b':K'≤10000):Calls Tryz.prog 128 #[v,v'] V (zao V fun v _=>v= .int .i64 (zbS Z Z')):=by
 obtain⟨bb,x,rfl,hz,hk,ho⟩:=h
 obtain⟨bb',y,rfl,hz',hk',ho'⟩:=h'
 exact gv (zr9 T.signs V V [x,y] bb x bb' y Z Z' zuB (zf0 ho ho') (by simp) (by simp) (by omega) (by omega) hz hz')
theorem zpI (h:ZRow K [Z,Z'] v V)(b:K≤10000):Calls Tryz.prog 134 #[v] V (zao V (ZT (K+1) (Z+Z'))):=by
 obtain⟨A,c,ps,rfl,hR,hm,hb,hl,hc⟩:=h
 have h0:ZRow K [Z,Z'] (.slice A ps.length c) V:=⟨A,c,ps,rfl,hR,hm,hb,hl,hc⟩
 obtain⟨A',c',p,p',he,hR',rfl,rfl,k1,k2,l1,l2⟩:=zqo h0
 have h1:=zr8 (w0:=V) V V [] A' c' [p,p'] zuB (Env.start (by simp)) hR'
 injection he with e1 e2 e3
 subst e1 e3
 have h2:=h1 (by simp;omega) (by simp only[maxLen];omega) (by simp) (by simp;omega)
 rw[show zda [p,p']=zP p+zP p' by simp[zda]]at h2
 rw[e2]
 refine gz h2 ?_
 have:=zeJ l1 l2
 have:=Int.natAbs_add_le (zP p) (zP p')
 omega
theorem zud (T:TT V)(h:Z1 K Z v V)(h':Z1 K' Z' v' V)(b:K≤10000)(b':K'≤10000):Calls Tryz.prog 107 #[v,v'] V (zao V (ZDiv K K' Z Z')):=by
 have l1:=h.lt
 have l2:=h'.lt
 obtain⟨bb,x,rfl,hz,hk,ho⟩:=h
 obtain⟨bb',y,rfl,hz',hk',ho'⟩:=h'
 have ha:=zhf Z Z'
 have p1:=zan K
 have e1:(Z.fdiv Z').natAbs<Bw^(K+1):=by
  have:Bw^(K+1)=Bw^K*4294967296:=by rw[Nat.pow_succ];rw[zaX]
  omega
 have e2:(rmz Z Z').natAbs<Bw^(max K K'+1):=by
  have a1:=zuD l1 (zc5 (show K≤max K K' by omega))
  have a2:=zuD l2 (zc5 (show K'≤max K K' by omega))
  have:=zeJ a1 a2
  omega
 refine(zqK T.signs V V [x,y] bb x bb' y Z Z' zuB (zf0 ho ho') (by simp) (by simp) (by omega) (by omega) hz hz').mono ?_
 rintro en V' ⟨p,r,rfl,q1,q2,q3,q4,hE⟩
 exact⟨_,rfl,⟨_,_,rfl,⟨_,p,rfl,⟨rfl,q1,q2⟩,by rw[q2];exact zaj.2 e1,hE.2 p (by simp)⟩,⟨_,r,rfl,⟨rfl,q3,q4⟩,by rw[q4];exact zaj.2 e2,hE.2 r (by simp)⟩⟩,hE.1⟩
end Go.Proofs.YtafokgknenienaaGreatDoor
