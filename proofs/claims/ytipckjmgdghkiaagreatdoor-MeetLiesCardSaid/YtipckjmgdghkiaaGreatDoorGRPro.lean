/- A part. -/
import Derived.Test.YtipckjmgdghkiaaGreatDoorGGcdC
import Derived.Test.YtipckjmgdghkiaaGreatDoorGROps
namespace Go.Proofs.YtipckjmgdghkiaaGreatDoor
open Go Go.RowKit
variable {v v' v1 v2:Value}{V V':World}{K K' N M:Nat}{Z Z':Int}
structure TT (V:World):Prop where
 tabs:Tabs V
 signs:Signs V
theorem TT.keep (h:TT V)(hb:Below V.heap.size V V'):TT V':=⟨h.tabs.keep hb,h.signs.keep hb⟩
theorem gg {f:FuncId}{args:Array Value}(h:Calls Tryz.prog f args V (Gives V N))(hl:N<Bw^K)(hK:K<=35184372087808):Calls Tryz.prog f args V (zaf V (NT K N)):=by
 refine h.mono ?_
 intro en V' hg
 obtain⟨r,rfl,h1,h2,hE⟩:=zbB (e:=[]) (Env.start (by simp)) hg (zv2 (zai.2 hl) hK)
 exact⟨_,rfl,⟨r,rfl,h1,h2,by rw[h2];exact zai.2 hl,hE.2 r (by simp)⟩,hE.1⟩
theorem zvc {f:FuncId}{args:Array Value}{c:Value}(h:Calls Tryz.prog f args V fun en V'=>en= .returned c/\V=V'):Calls Tryz.prog f args V (zaf V fun v _=>v=c):=h.mono (by
 rintro en V' ⟨rfl,rfl⟩
 exact⟨_,rfl,rfl,Below.refl _ _⟩)
theorem zvK {f:FuncId}{args:Array Value}{c:Value}(h:Calls Tryz.prog f args V fun en V'=>en= .returned c/\Below V.heap.size V V'):Calls Tryz.prog f args V (zaf V fun v _=>v=c):=h.mono (by
 rintro en V' ⟨rfl,hb⟩
 exact⟨_,rfl,rfl,hb⟩)
theorem zvd:Calls Tryz.prog 85 #[.int .u64 1] V (zaf V (NT 1 1)):=gg (zgf V 1 (by decide)) (by rw[za4];decide) (by decide)
theorem zqs (h:N1 K N v V):Calls Tryz.prog 119 #[v] V (zaf V fun v _=>v= .int .i64 (bitsN N:Nat)):=by
 obtain⟨x,rfl,rfl,hk,h1,h2,h3,h4⟩:=h
 exact zvc (zcF V _ _ _ _ _ h1 h2 h3 h4)
theorem zqt (h:N1 K N v1 V)(h':N1 K' M v2 V)(b:K<=1000000)(b':K'<=1000000):Calls Tryz.prog 115 #[v1,v2] V (zaf V (NT (K+K') (N*M))):=by
 have l1:=h.lt
 have l2:=h'.lt
 obtain⟨x,rfl,rfl,hk,h1,h2,h3,h4⟩:=h
 obtain⟨y,rfl,rfl,hk',h1',h2',h3',h4'⟩:=h'
 refine gg (zqj V _ _ _ _ _ _ _ _ h1 h1' h2 h3 h2' h3' (by omega) (by omega)) ?_ (by omega)
 rw[Nat.pow_add]
 exact Nat.mul_lt_mul'' l1 l2
theorem zve (h:N1 K N v1 V)(h':N1 K' M v2 V):Calls Tryz.prog 117 #[v1,v2] V (zaf V fun v _=>v= .int .i64 (zcj N M)):=by
 obtain⟨x,rfl,rfl,hk,h1,h2,h3,h4⟩:=h
 obtain⟨y,rfl,rfl,hk',h1',h2',h3',h4'⟩:=h'
 exact zvK (zg3 _ _ _ _ _ _ _ _ V h1 h1' (by omega) (by omega))
theorem zqu {x:Num}(h1:x.N=N)(h2:x.n=lenL N)(hl:N<Bw^K)(ho:x.ok V V.heap.size):NT K N (.slice x.A x.n x.c) V:=⟨x,rfl,h1,h2,by rw[h2];exact zai.2 hl,ho⟩
theorem zjC (T:TT V)(h:N1 K N v1 V)(h':N1 K' M v2 V)(b:K<=10000)(b':K'<=10000):Calls Tryz.prog 116 #[v1,v2] V (zaf V (N2 K K' (N/Nat.gcd N M) (M/Nat.gcd N M))):=by
 have l1:=h.lt
 have l2:=h'.lt
 obtain⟨x,rfl,rfl,hk,ho⟩:=h
 obtain⟨y,rfl,rfl,hk',ho'⟩:=h'
 refine(zlx T.tabs V [x,y] x y (zmi ho ho') (by simp) (by simp) (by omega) (by omega)).mono ?_
 rintro en V' ⟨p,q,rfl,h1,h2,h3,h4,hE⟩
 exact⟨_,rfl,⟨_,_,rfl,zqu h1 h2 (zv4 (Nat.div_le_self _ _) l1) (hE.2 p (by simp)),zqu h3 h4 (zv4 (Nat.div_le_self _ _) l2) (hE.2 q (by simp))⟩,hE.1⟩
theorem zvL {n:Int}(hn: -9223372036854775808<=n/\n<=9223372036854775807):Calls Tryz.prog 84 #[.int .i64 n] V (zaf V (ZT 2 n)):=by
 refine gz (zuz V V [] n zv1 (Env.start (by simp)) hn) ?_
 rw[show Bw^2=18446744073709551616 by rw[za4]]
 omega
theorem zt0 (T:TT V)(h:Z1 K Z v V)(b:K<=10000):Calls Tryz.prog 114 #[v] V (zaf V fun v _=>v= .int .i64 Z.sign):=by
 obtain⟨bb,x,rfl,hz,hk,ho⟩:=h
 exact gv (zro T.signs V V [x] bb x Z zv1 (zt5 ho) (by simp) (by omega) hz)
theorem ztj (T:TT V)(h:Z1 K Z v V)(h':Z1 K' Z' v' V)(b:K<=10000)(b':K'<=10000):Calls Tryz.prog 186 #[v,v'] V (zaf V fun v _=>v= .int .i64 (zcw Z Z')):=by
 obtain⟨bb,x,rfl,hz,hk,ho⟩:=h
 obtain⟨bb',y,rfl,hz',hk',ho'⟩:=h'
 exact gv (zsN T.signs V V [x,y] bb x bb' y Z Z' zv1 (zmi ho ho') (by simp) (by simp) (by omega) (by omega) hz hz')
theorem zqv (h:ZRow K [Z,Z'] v V)(b:K<=10000:=by omega):Calls Tryz.prog 118 #[v] V (zaf V (ZT (K+1) (Z+Z'))):=by
 obtain⟨A,c,ps,rfl,hR,hm,hb,hl,hc⟩:=h
 have h0:ZRow K [Z,Z'] (.slice A ps.length c) V:=⟨A,c,ps,rfl,hR,hm,hb,hl,hc⟩
 obtain⟨A',c',p,p',he,hR',rfl,rfl,k1,k2,l1,l2⟩:=zqX h0
 have h1:=zsM (w0:=V) V V [] A' c' [p,p'] zv1 (Env.start (by simp)) hR'
 injection he with e1 e2 e3
 subst e1 e3
 have h2:=h1 (by simp;omega) (by simp only[maxLen];omega) (by simp) (by simp;omega)
 rw[show zdl [p,p']=zP p+zP p' by simp[zdl]]at h2
 rw[e2]
 refine gz h2 ?_
 have:=zg8 l1 l2
 have:=Int.natAbs_add_le (zP p) (zP p')
 omega
end Go.Proofs.YtipckjmgdghkiaaGreatDoor
