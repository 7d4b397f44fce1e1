/- Contracts of package rat's double, halve. -/
import Derived.Test.YtafokgknenienaaGreatDoorGPJs
import Derived.Test.YtafokgknenienaaGreatDoorGRatC
set_option maxHeartbeats 4000000
set_option maxRecDepth 100000
namespace Go.Proofs.YtafokgknenienaaGreatDoor
open Go Go.RowKit
theorem zg6 {w W:World}{g q c2 M:Nat}{A2:Option Addr}(hb:Below w.heap.size w W)(hown:W.ownsRow w.heap.size 50 1 (.slice (some ⟨g,0,none⟩) q q) q (List.replicate q (.int .u32 0)))
  (hR:Rd W W.heap.size A2 (lenL M) M) (hq:q≤1000000) (hl:lenL M≤2000000):
  ∃v' w',(Builtin.append_ #[23,23] 23 #[.slice (some ⟨g,0,none⟩) q q,.slice A2 (lenL M) c2]).run Tryz.prog W= .ok v' w'∧N1 (q+lenL M) (M*Bw^q) v' w'∧Below w.heap.size w w':=by
 obtain⟨i0,hi,hz0,hz1,hz2⟩:=info_parts zbz
 obtain⟨v',w',hrun,ho,hg,_⟩:=zdf (P:=Tryz.prog) W w.heap.size 23 23 50 i0 (.int .u32 0) 4 Tryz.underlying23 hi hz0 hz1 hz2 rfl _ q _ hown A2 (lenL M) c2 (limbs M (lenL M)) (zaB _ _)
  (fun j u hu=>by
   obtain⟨hj,rfl⟩:=zdd hu
   obtain⟨ad,e,_,hc⟩:=hR.at_ hj
   exact⟨ad,e,hc⟩) zbX (by simp only[maxLen];omega) (by omega) hb.size
 refine⟨v',w',hrun,?_⟩
 rw[zjB]at ho
 obtain⟨A',c',rfl,h1,h2,h3⟩:=Fr.of_own ho (by rw[Nat.pow_add,Nat.mul_comm];exact Nat.mul_lt_mul_of_pos_left (zaG M) (zan q)) (fun j hj=>zb6 hj)
 exact⟨⟨⟨A',q+lenL M,c',M*Bw^q⟩,rfl,rfl,Nat.le_refl _,h3.rd,h1,h2,by simp only;omega⟩,hb.grown hg hb.size (fun k hk=>(hown.lt k hk).1)⟩
theorem zfw (w:World)(A:Option Addr)(n c N k q r:Nat)(h:Rd w w.heap.size A n N)(hnc:n≤c)(hcb:c≤maxLen)(hn:n≤1000000)(hk:k=32*q+r)(hr:r<32)(hq:q≤1000000):
  Calls Tryz.prog 136 #[.slice A n c,.int .i64 k] w (zao w (N1 (q+lenL (N*2^r)) (N*2^k))):=by
 have HG:N*2^k=N*2^r*Bw^q:=by rw[hk,Nat.add_comm,Nat.pow_add,zbi,Nat.mul_assoc]
 have hlM':lenL (N*2^r)≤n+1:=by
  rw[zaj]
  calc N*2^r<Bw^n*2^r:=Nat.mul_lt_mul_of_pos_right h.1 (zuI r)
   _≤Bw^n*2^32:=Nat.mul_le_mul_left _ (zuF (by omega) (by omega))
   _=Bw^(n+1):=by rw[Nat.pow_succ];rfl
 have hlM:lenL (N*2^r)≤2000000:=by omega
 have hmin:min (((r:Nat):Int)).toNat 65536=r:=by rw[Int.toNat_natCast];omega
 have EU:=zuy (fun(W:World) (hB:Below w.heap.size w W)=>zfy W A n c N (r:Nat) ((h.below hB).more hB.size) hnc hcb (by omega) (by omega))
 simp only[hmin]at EU
 have HMK:=ziG q (by omega)
 rw[HG]
 generalize hMv:N*2^r=M at*
 have HH:=zuy h
 have HB1:=zuy ((Below.refl w.heap.size w).alloc zuA (.cells (zbx q) 50)).drew
 have h1:(k:Int)/32=(q:Nat):=by omega
 have h2:(k:Int)%32=(r:Nat):=by omega
 have h3:IntKind.i64.wrap (q:Int)=(q:Int):=by rw[IntKind.wrap_i64];omega
 have h4:(k:Int).tmod 32=(r:Nat):=by rw[Int.tmod_eq_emod_of_nonneg (by omega)];omega
 clear h hk HG hMv
 go_enter Tryz.func136,Tryz.ntmps136
 go_wp2
 go_region_law (first
  |(refine zcz rfl (.tmp 7) (.tmp 11) _ rfl rfl rfl hap ?_)
  |(go_simp;go_at_call 106;(with_reducible refine(EU.out _ HB1.out).mono ?_);rintro e wa ⟨A2,c2,rfl,g1,g2,g3,g4⟩;obtain⟨v',w',hap,hres,hres2⟩:=zg6 (c2:=c2) (HB1.out.trans (g4.mono (by simp))) (((zdn w w.heap.size q zuA (by simp only[maxLen];omega)).drew).kept (zb0 (r:=none) g4) (.inr (by simp[Value.ownBlock]))) g3.rd hq hlM)
  |(go_simp;go_at_call 106;(with_reducible refine(EU.out _ (Below.drew (Below.refl _ w))).mono ?_);rintro e wa ⟨A2,c2,rfl,g1,g2,g3,g4⟩;obtain⟨v',w',hap,hres,hres2⟩:=zg6 (c2:=c2) (((Below.refl w.heap.size w).drew.trans g4).alloc (g4.size) (.cells (zbx q) 50)) (zdn wa w.heap.size q g4.size (by simp only[maxLen];omega)) ((g3.rd.below ((Below.refl _ wa).alloc zuA _)).more (by simp)) hq hlM))
 all_goals
  have HR:=zuy hres
  have HR2:=zuy hres2
  clear g1 g2 g3 g4 hres hres2 hap
  go_wp2
  go_ret
  obtain⟨z,z1,z2,z3,z4⟩:=HR.out
  exact⟨_,rfl,⟨z,z1,z2,z3,z4⟩,HR2.out⟩
section
variable {a:Act}{V:World}{o:Oper}{t1 t2:Tmp}{A:Option Addr}{n c k m q':Nat}
theorem zpg (ho:o.op= .binOp .quo 3 (.tmp t1) (.const (.int .i64 32)) 3) (h:a.tmps.getD t1 undef= .int .i64 (k:Nat)) (hk:k<9223372036854775807):(execOp a.eval o).run Tryz.prog V= .ok (.value (.int .i64 ((k/32:Nat):Int))) V:=by
 obtain⟨q,e⟩:∃q,k/32=q:=⟨_,rfl⟩
 have e1:(k:Int)/32=(q:Int):=by omega
 have h3:IntKind.i64.wrap (q:Int)=(q:Int):=by rw[IntKind.wrap_i64];omega
 rw[e]
 clear e
 rw[zag]at h
 obtain⟨dst,op,ty,pos,after,guard⟩:=o
 simp only at ho
 subst ho
 go_simp
theorem zph (ho:o.op= .binOp .rem 3 (.tmp t1) (.const (.int .i64 32)) 3) (h:a.tmps.getD t1 undef= .int .i64 (k:Nat)):(execOp a.eval o).run Tryz.prog V= .ok (.value (.int .i64 ((k%32:Nat):Int))) V:=by
 obtain⟨q,e⟩:∃q,k%32=q:=⟨_,rfl⟩
 have e1:(k:Int)%32=(q:Int):=by omega
 have e4:(k:Int).tmod 32=(q:Int):=by rw[Int.tmod_eq_emod_of_nonneg (by omega)];omega
 rw[e]
 clear e
 rw[zag]at h
 obtain⟨dst,op,ty,pos,after,guard⟩:=o
 simp only at ho
 subst ho
 go_simp
theorem zpi {ts:Array TypeId}(ho:o.op= .call { callee:= .builtin .min,args:= #[.tmp t1,.tmp t2],argTypes:=ts })(hts:ts= #[3,3]) (h:a.tmps.getD t1 undef= .int .i64 (k:Nat)) (h':a.tmps.getD t2 undef= .int .i64 (m:Nat)):(execOp a.eval o).run Tryz.prog V= .ok (.value (.int .i64 ((min k m:Nat):Int))) V:=by
 have e:min (k:Int) (m:Int)=((min k m:Nat):Int):=by omega
 subst hts
 rw[zag]at h h'
 obtain⟨dst,op,ty,pos,after,guard⟩:=o
 simp only at ho
 subst ho
 go_simp
theorem znj (ho:o.op= .slice 23 (.tmp t1) (some (.tmp t2)) none none) (h:a.tmps.getD t1 undef= .slice A n c) (h':a.tmps.getD t2 undef= .int .i64 (k:Nat)) (hk:k≤n):
  (execOp a.eval o).run Tryz.prog V= .ok (.value (.slice (if c=k then A else A.map (·.add k)) (n - k) (c - k))) V:=by
 rw[zag]at h h'
 obtain⟨dst,op,ty,pos,after,guard⟩:=o
 simp only at ho
 subst ho
 simp[execOp,h,h',Instr.slice,Instr.sliceBounds,Instr.sliceBound,asIntOf,go_sem,hk]
theorem zrc {K N q:Nat}{x:Num}{V:World}(hk:x.n≤K)(ho:x.ok V V.heap.size)(hN:x.N=N)(hm:min q x.n=q'):N1 K (N/Bw^q) (.slice (if x.c=q' then x.A else x.A.map (·.add q')) (x.n - q') (x.c - q')) V:=by
 obtain⟨h1,h2,h3,h4⟩:=ho
 subst hN
 refine⟨⟨if x.c=q' then x.A else x.A.map (·.add q'),x.n - q',x.c - q',x.N/Bw^q⟩,rfl,rfl,by simp only;omega,?_,by simp only;omega,by simp only;omega,by simp only;omega⟩
 by_cases hq:q<x.n
 ·obtain⟨ad,hA,-,-⟩:=h1.at_ hq
  obtain rfl:q'=q:=by omega
  have hc:x.c≠q':=by omega
  rw[hA]at h1
  have h5:=h1.high (k:=q') (by omega)
  show Rd V V.heap.size (if x.c=q' then x.A else x.A.map (·.add q')) (x.n - q') (x.N/Bw^q')
  rw[if_neg hc,hA]
  exact h5
 ·have:x.N/Bw^q=0:=Nat.div_eq_of_lt (zuD h1.1 (zuF zbJ (by omega)))
  show Rd V V.heap.size (if x.c=q' then x.A else x.A.map (·.add q')) (x.n - q') (x.N/Bw^q)
  rw[this,show x.n - q'=0 by omega]
  exact⟨by decide,fun h=>absurd h (by decide)⟩
end
theorem zrd {V:World}{K N k:Nat}{v:Value}(h:N1 K N v V)(hK:K≤1000000)(hk:k≤1000000):Calls Tryz.prog 140 #[v,.int .i64 (k:Nat)] V (zao V (NT K (N/2^k))):=by
 obtain⟨x,rfl,hN,hx,ho⟩:=h
 refine(callsIn_wide (n:=0)).1 (callsIn_of_wp Tryz.func140 rfl trivial ?_ rfl)
 have S:=zcY (n:=15) #[.slice x.A x.n x.c,.int .i64 (k:Nat)] (zuz rfl)
 refine wpIn_seq (wpIn_region_lit ?_)
 refine zaA (fun _=>trivial) S (zau rfl) rfl rfl rfl (by decide) rfl (fun a S=>?_)
 refine wpIn_seq (wpIn_region_lit ?_)
 refine zaA (fun _=>trivial) S (zad rfl (S.get rfl)) rfl rfl rfl (by decide) rfl (fun a S=>?_)
 refine zaA (fun _=>trivial) S (zad rfl (S.get rfl)) rfl rfl rfl (by decide) rfl (fun a S=>?_)
 refine zaA (fun _=>trivial) S (zpg rfl (S.get rfl) (by omega)) rfl rfl rfl (by decide) rfl (fun a S=>?_)
 refine zaA (fun _=>trivial) S (zad rfl (S.get rfl)) rfl rfl rfl (by decide) rfl (fun a S=>?_)
 refine zaA (fun _=>trivial) S (zcP (.inl rfl) rfl (S.get rfl)) rfl rfl rfl (by decide) rfl (fun a S=>?_)
 refine zaA (fun _=>trivial) S (zpi rfl rfl (S.get rfl) (S.get rfl)) rfl rfl rfl (by decide) rfl (fun a S=>?_)
 refine zaA (fun _=>trivial) S (znj rfl (S.get rfl) (S.get rfl) (Nat.min_le_right _ _)) rfl rfl rfl (by decide) rfl (fun a S=>?_)
 refine zaA (fun _=>trivial) S (zad rfl (S.get rfl)) rfl rfl rfl (by decide) rfl (fun a S=>?_)
 refine zaA (fun _=>trivial) S (zph rfl (S.get rfl)) rfl rfl rfl (by decide) rfl (fun a S=>?_)
 refine zcg S (zhl ⟨_,rfl⟩ (S.get rfl) (S.get rfl) (enters_of Tryz.func171 (by kernel_rfl) rfl)) (zub (zrc (q:=k/32) hx ho hN rfl) hK (by omega)) rfl rfl rfl (by decide) rfl (fun u a V2 hu hb S=>?_)
 refine zaA (fun _=>trivial) S (zam rfl (S.get rfl)) rfl rfl rfl (by decide) rfl (fun a S=>?_)
 refine wpIn_ret ?_
 have HG:N/Bw^(k/32)/2^(k%32)=N/2^k:=by rw[Nat.div_div_eq_div_mul,zbi,←Nat.pow_add,show 32*(k/32)+k%32=k by omega]
 rw[HG]at hu
 exact bodyPost_ret (results_tmp rfl _ _ _) S.defers ⟨_,rfl,by rw[(S.get rfl:a.tmps.getD 4 undef=u)];exact hu,hb⟩
theorem zj6 {V:World}{K N k:Nat}{v:Value}(h:N1 K N v V)(hK:K≤1000000)(hk:k≤1000000):Calls Tryz.prog 136 #[v,.int .i64 (k:Nat)] V (zao V (N1 (k/32+K+1) (N*2^k))):=by
 obtain⟨x,rfl,rfl,hx,h1,h2,h3,h4⟩:=h
 refine zbn (zfw V x.A x.n x.c x.N k (k/32) (k%32) h1 h2 h3 (by omega) (by omega) (by omega) (by omega)) (fun _ _ h=>h.to rfl ?_)
 have:lenL (x.N*2^(k%32))≤x.n+1:=zaj.2 (by
  calc x.N*2^(k%32)<Bw^x.n*2^(k%32):=Nat.mul_lt_mul_of_pos_right h1.1 (zuI _)
   _≤Bw^x.n*2^32:=Nat.mul_le_mul_left _ (zuF (by omega) (by omega))
   _=Bw^(x.n+1):=by rw[Nat.pow_succ];rfl)
 omega
theorem znk {V:World}{K N k:Nat}{v:Value}(h:N1 K N v V)(h0:N≠0)(hK:K≤1000000)(hk:k≤1000000):Calls Tryz.prog 136 #[v,.int .i64 (k:Nat)] V (zao V (NT (k/32+K+1) (N*2^k))):=by
 obtain⟨x,rfl,rfl,hx,h1,h2,h3,h4⟩:=h
 have h5:lenL (x.N*2^(k%32))≤x.n+1:=zaj.2 (by
  calc x.N*2^(k%32)<Bw^x.n*2^(k%32):=Nat.mul_lt_mul_of_pos_right h1.1 (zuI _)
   _≤Bw^x.n*2^32:=Nat.mul_le_mul_left _ (zuF (by omega) (by omega))
   _=Bw^(x.n+1):=by rw[Nat.pow_succ];rfl)
 refine zbn (zfw V x.A x.n x.c x.N k (k/32) (k%32) h1 h2 h3 (by omega) (by omega) (by omega) (by omega)) ?_
 rintro u V' ⟨z,z1,z2,z3,z4⟩
 have hM:x.N*2^(k%32)≠0:=Nat.mul_ne_zero h0 (Nat.pos_iff_ne_zero.1 (zuI _))
 have HG:x.N*2^k=x.N*2^(k%32)*Bw^(k/32):=by rw[Nat.mul_assoc,zbi,←Nat.pow_add,show k%32+32*(k/32)=k by omega]
 generalize x.N*2^(k%32)=M at*
 have h6:lenL (M*Bw^(k/32))=k/32+lenL M:=by
  refine Nat.le_antisymm (zaj.2 ?_) ?_
  ·rw[Nat.pow_add,Nat.mul_comm];exact Nat.mul_lt_mul_of_pos_left (zaG M) (zan _)
  ·rcases zuG (lenL (M*Bw^(k/32))) (k/32+lenL M)with h7|h7
   ·exfalso
    have h8:lenL M≠0:=fun h=>hM (zbb.1 h)
    have h9:M*Bw^(k/32)<Bw^(k/32+(lenL M - 1)):=zaj.1 (by omega)
    rw[Nat.pow_add,Nat.mul_comm]at h9
    have h10:=Nat.lt_of_mul_lt_mul_left h9
    have:=zaj.2 h10
    omega
   ·exact h7
 have h11:lenL (x.N*2^k)≤z.n:=by rw[←z2];exact zaj.2 z4.1.1
 refine⟨z,z1,z2,?_,by omega,z4⟩
 rw[HG]at h11 ⊢
 omega
def partN (A B:Nat):Nat:=bitsN (A^^^B) - 1
theorem zmm {A B:Nat}(h:A<B):A^^^B≠0:=fun h2=>by have:=xor_zero h2;omega
theorem zeZ {A B:Nat}(h:A<B):A/2^partN A B<B/2^partN A B∧A/2^(partN A B+1)=B/2^(partN A B+1):=by
 have h0:=zmm h
 have h1:bitsN (A^^^B)≠0:=fun h2=>by have:=zaC (N:=A^^^B) (k:=0);simp[h2]at this;omega
 have h3:2^(bitsN (A^^^B) - 1)≤A^^^B:=by
  rcases zuG (A^^^B) (2^(bitsN (A^^^B) - 1))with h4|h4
  ·have:=zaC.2 h4;omega
  ·exact h4
 have:=zkl h (zfB (A^^^B)) h3
 unfold partN
 rw[show bitsN (A^^^B) - 1+1=bitsN (A^^^B) by omega]
 exact this
theorem zie {A B p:Nat}(h:A<B)(h1:A/2^p<B/2^p)(h2:A/2^(p+1)=B/2^(p+1)):p=partN A B:=by
 obtain⟨g1,g2⟩:=zeZ h
 have up:∀ {i j:Nat},i≤j→A/2^i=B/2^i→A/2^j=B/2^j:=fun {i j} hij he=>by
  have e:∀n:Nat,n/2^j=n/2^i/2^(j - i):=fun n=>by rw[Nat.div_div_eq_div_mul,←Nat.pow_add,show i+(j - i)=j by omega]
  rw[e A,e B,he]
 rcases Nat.lt_trichotomy p (partN A B)with h3|h3|h3
 ·have:=up (j:=partN A B) (by omega) h2;omega
 ·exact h3
 ·have:=up (j:=p) (by omega) g2;omega
theorem zpj {A B:Nat}(h:A<B)(hb:decide (((bitsN A:Nat):Int)<((bitsN B:Nat):Int))=true):((bitsN B:Nat):Int) - 1=((partN A B:Nat):Int):=by
 have h1:bitsN A<bitsN B:=by have:=of_decide_eq_true hb;omega
 have h2:A<2^(bitsN B - 1):=zaC.1 (by omega)
 have h3:2^(bitsN B - 1)≤B:=by
  rcases zuG B (2^(bitsN B - 1))with h4|h4
  ·have:=zaC.2 h4;omega
  ·exact h4
 obtain⟨g1,g2⟩:=zpL h2 (zfB B) h3 (by omega)
 have:=zie h g1 g2
 omega
theorem zpk {A B:Nat}(h:A<B)(hb:decide (((bitsN A:Nat):Int)<((bitsN B:Nat):Int))=false):lenL A=lenL B∧1≤lenL B:=by
 have h1:bitsN B≤bitsN A:=by have:=of_decide_eq_false hb;omega
 have h2:lenL B≠0:=fun h2=>by have:=zbb.1 h2;omega
 have h3:lenL A≤lenL B:=zaI (Nat.le_of_lt h)
 refine⟨?_,by omega⟩
 rcases zuG (lenL A) (lenL B)with h4|h4
 ·exfalso
  have h5:A<Bw^(lenL B - 1):=zaj.1 (by omega)
  rw[zdT]at h5
  have h6:=zaC.2 h5
  have h7:B<2^(32*(lenL B - 1)):=zaC.1 (by omega)
  rw[←zdT]at h7
  have:=zaj.2 h7
  omega
 ·omega
def zj7 (A B:Nat)(z:Int):Prop:=0≤z∧z<lenL B∧A/Bw^(z.toNat+1)=B/Bw^(z.toNat+1)
theorem zgE (A i:Nat):A/Bw^i=A/Bw^(i+1)*Bw+dig A i:=by
 unfold dig
 rw[Nat.pow_succ,←Nat.div_div_eq_div_mul,Nat.mul_comm]
 exact(Nat.div_add_mod _ _).symm
theorem zj8 {A B:Nat}(hl:lenL A=lenL B)(h1:1≤lenL B):zj7 A B (((lenL B:Nat):Int) - 1):=by
 refine⟨by omega,by omega,?_⟩
 rw[show(((lenL B:Nat):Int) - 1).toNat+1=lenL B by omega,Nat.div_eq_of_lt (zaG B),←hl,Nat.div_eq_of_lt (zaG A)]
theorem zg7 {A B:Nat}{z:Int}(h:A<B)(hI:zj7 A B z)(he:decide (((dig A z.toNat:Nat):Int)=((dig B z.toNat:Nat):Int))=true):1≤z∧zj7 A B (z - 1):=by
 obtain⟨h1,h2,h3⟩:=hI
 have h4:dig A z.toNat=dig B z.toNat:=by have:=of_decide_eq_true he;omega
 have h5:A/Bw^z.toNat=B/Bw^z.toNat:=by rw[zgE A,zgE B,h3,h4]
 have h6:1≤z:=by
  rcases(by omega:z=0∨1≤z)with rfl|h6
  ·rw[show((0:Int)).toNat=0 from rfl,Nat.pow_zero,Nat.div_one,Nat.div_one]at h5;omega
  ·exact h6
 refine⟨h6,by omega,by omega,?_⟩
 rw[show(z - 1).toNat+1=z.toNat by omega]
 exact h5
theorem znl {A B:Nat}{z:Int}(h:A<B)(hI:zj7 A B z)(he:decide (((dig A z.toNat:Nat):Int)=((dig B z.toNat:Nat):Int))=false):
  z*32+((bitsN (dig A z.toNat^^^dig B z.toNat):Nat):Int) - 1=((partN A B:Nat):Int)∧1≤bitsN (dig A z.toNat^^^dig B z.toNat)∧bitsN (dig A z.toNat^^^dig B z.toNat)≤32:=by
 obtain⟨h1,h2,h3⟩:=hI
 have h4:dig A z.toNat≠dig B z.toNat:=fun e=>by have:=of_decide_eq_false he;rw[e]at this;exact this rfl
 have ha:=zgE A z.toNat
 have hb:=zgE B z.toNat
 rw[h3]at ha
 have h5:dig A z.toNat<dig B z.toNat:=by
  rcases zuG (dig A z.toNat) (dig B z.toNat)with h6|h6
  ·exact h6
  ·exfalso
   have h7:A/Bw^z.toNat≤B/Bw^z.toNat:=Nat.div_le_div_right (Nat.le_of_lt h)
   rw[ha,hb]at h7
   omega
 have g0:=zmm h5
 have g1:1≤bitsN (dig A z.toNat^^^dig B z.toNat):=by
  rcases zuH (bitsN (dig A z.toNat^^^dig B z.toNat))with h8|h8
  ·have:=zaC (N:=dig A z.toNat^^^dig B z.toNat) (k:=0);simp[h8]at this;omega
  ·exact h8
 have g2:bitsN (dig A z.toNat^^^dig B z.toNat)≤32:=zaC.2 (Nat.xor_lt_two_pow (by simpa using zaz A z.toNat) (by simpa using zaz B z.toNat))
 have g3:2^(bitsN (dig A z.toNat^^^dig B z.toNat) - 1)≤dig A z.toNat^^^dig B z.toNat:=by
  rcases zuG (dig A z.toNat^^^dig B z.toNat) (2^(bitsN (dig A z.toNat^^^dig B z.toNat) - 1))with h9|h9
  ·have:=zaC.2 h9;omega
  ·exact h9
 obtain⟨p1,p2⟩:=zru ha hb h5 g1 g2 (zfB _) g3
 have:=zie h p1 p2
 refine⟨by omega,g1,g2⟩
section
variable {a:Act}{V:World}{o:Oper}{t1 t2:Tmp}{x:Num}{z:Int}{X Y:Operand}{u w:Nat}
theorem zeA (hx:x.ok V V.heap.size)(h0:0≤z)(hz:z<x.n)(ho:o.op= .indexAddr 23 (.tmp t1) (.tmp t2)) (h1:a.tmps.getD t1 undef= .slice x.A x.n x.c) (h2:a.tmps.getD t2 undef= .int .i64 z):
  (execOp a.eval o).run Tryz.prog V= .ok (.value (.pointer (some (zf3 x.A z.toNat)))) V:=by
 obtain⟨k,rfl⟩:=Int.eq_ofNat_of_zero_le h0
 obtain⟨ad,hA,-,-⟩:=hx.1.at_ (k:=k) (by omega)
 rw[hA]at h1 ⊢
 rw[zag]at h1 h2
 obtain⟨dst,op,ty,pos,after,guard⟩:=o
 simp only at ho
 subst ho
 have h3:(k:Int)<(x.n:Int):=hz
 rw[Int.toNat_natCast]
 unfold zf3
 clear h0 hz hx
 go_simp
theorem zeB (hx:x.ok V V.heap.size)(h0:0≤z)(hz:z<x.n)(ho:o.op= .load 50 (.tmp t1)) (h1:a.tmps.getD t1 undef= .pointer (some (zf3 x.A z.toNat))):
  (execOp a.eval o).run Tryz.prog V= .ok (.value (.int .u32 ((dig x.N z.toNat:Nat):Int))) V:=by
 obtain⟨k,rfl⟩:=Int.eq_ofNat_of_zero_le h0
 obtain⟨ad,hA,-,hc⟩:=hx.1.at_ (k:=k) (by omega)
 rw[hA,Int.toNat_natCast]at h1
 rw[Int.toNat_natCast]
 obtain⟨p,hp⟩:∃p,ad.add k=p:=⟨_,rfl⟩
 rw[hp]at hc
 rw[zag]at h1
 have h1'':a.tmps[t1]?.getD undef= .pointer (some p):=by rw[h1];show Value.pointer (some (ad.add k))=_;rw[hp]
 clear h1 h0 hz hx hA hp
 obtain⟨dst,op,ty,pos,after,guard⟩:=o
 simp only at ho
 subst ho
 go_simp
theorem zre {y:Int}(ho:o.op= .binOp .eql 50 X Y 50) (h:a.eval X= .int .u32 z) (h':a.eval Y= .int .u32 y):(execOp a.eval o).run Tryz.prog V= .ok (.value (.bool (decide (z=y)))) V:=by
 obtain⟨dst,op,ty,pos,after,guard⟩:=o;simp only at ho;subst ho
 unfold execOp;simp only[h,h'];go_simp;rfl
theorem zrf (hu:u<4294967296)(hw:w<4294967296)(ho:o.op= .binOp .xor 50 X Y 50) (h:a.eval X= .int .u32 ((u:Nat):Int)) (h':a.eval Y= .int .u32 ((w:Nat):Int)):(execOp a.eval o).run Tryz.prog V= .ok (.value (.int .u32 ((u^^^w:Nat):Int))) V:=by
 obtain⟨dst,op,ty,pos,after,guard⟩:=o;simp only at ho;subst ho
 unfold execOp;simp only[h,h']
 go_simp
 exact u32_xor_nat u w hu hw
end
theorem zs3 {V:World}{u:Nat}(h:u<4294967296):Calls Tryz.prog 149 #[.int .u32 ((u:Nat):Int)] V (zao V fun v _=>v= .int .i64 ((bitsN u:Nat):Int)):=zso (zfV V u h)
theorem zrg (A B z:Nat):dig A z^^^dig B z<4294967296:=Nat.xor_lt_two_pow (n:=32) (by simpa using zaz A z) (by simpa using zaz B z)
theorem znm {K A B:Nat}{v1 v2:Value}{V:World}(h1:NT K (A) v1 V)(h2:NT K (B) v2 V)(hlt:A<B)(hK0:K≤1000000):
  Calls Tryz.prog 138 #[v1,v2] V (zao V (fun v _=>v= .int .i64 ((partN A B:Nat):Int))):=by
 obtain⟨x1,rfl,hN1,hn1,hk1,ok1⟩:=h1
 obtain⟨x2,rfl,hN2,hn2,hk2,ok2⟩:=h2
 have hKB:lenL B≤K:=by rw[←hn2];exact hk2
 have hbB:bitsN B≤32*K:=zaC.2 (by rw[←zdT];exact zaj.1 hKB)
 refine zaD (e:=[x2,x1]) Tryz.func138 rfl Tryz.ntmps138 (zuz rfl) [(0,aS x1),(1,aS x2)] rfl (zak ok2 (zak ok1 zaW)) (fun a S=>?_)
 refine wp_seq_k fun K1 hK1=>?_
 refine zaa ?_
 refine tv S (zau rfl) fun a S=>?_
 refine hK1 _ _ ?_
 refine wp_seq_k fun K2 hK2=>?_
 refine zaa ?_
 refine tv S (zad rfl (S.at 2 rfl)) fun a S=>?_
 refine tc S (F:=(fun v _=>v= .int .i64 (((bitsN B:Nat):Int)))) (rc1 Tryz.func118 (S.at 0 rfl)) (zhh (show NT K (B) (aS x2) _ from⟨x2,rfl,hN2,hn2,hk2,(S.num 0 rfl)⟩).any) fun v a V1 hF hb S=>?_
 subst hF
 refine tv S (zam rfl (S.at 0 rfl)) fun a S=>?_
 refine hK2 _ _ ?_
 refine wp_seq_k fun K3 hK3=>?_
 refine wp_seq_k fun K4 hK4=>?_
 refine zaa ?_
 refine tv S (zad rfl (S.at 4 rfl)) fun a S=>?_
 refine tc S (F:=(fun v _=>v= .int .i64 (((bitsN A:Nat):Int)))) (rc1 Tryz.func118 (S.at 0 rfl)) (zhh (show NT K (A) (aS x1) _ from⟨x1,rfl,hN1,hn1,hk1,(S.num 1 rfl)⟩).any) fun v a V2 hF hb S=>?_
 subst hF
 refine tv S (zad rfl (S.at 2 rfl)) fun a S=>?_
 refine tv S (zdj rfl (S.at 1 rfl) (S.at 0 rfl)) fun a S=>?_
 refine hK4 _ _ ?_
 rcases zuJ (decide (((bitsN A:Nat):Int)<((bitsN B:Nat):Int)))with hc12|hc12
 ·refine wp_cond_true ((S.at 0 rfl).trans (congrArg Value.bool hc12)) ?_
  refine wp_seq_k fun K5 hK5=>?_
  refine zaa ?_
  refine tv S (zad rfl (S.at 4 rfl)) fun a S=>?_
  refine tv S (zhm rfl (S.at 0 rfl) rfl (by unfold Inr;omega)) fun a S=>?_
  refine zbk S (v:= .int .i64 (((bitsN B:Nat):Int) - 1)) (zam rfl (S.at 0 rfl)) rfl rfl (by decide) (ls':=[(14,.int .i64 (((bitsN B:Nat):Int) - 1)),(13,.int .i64 (((bitsN B:Nat):Int))),(12,.bool (decide (((bitsN A:Nat):Int)<((bitsN B:Nat):Int)))),(11,.int .i64 (((bitsN B:Nat):Int))),(10,.int .i64 (((bitsN A:Nat):Int))),(9,aS x1),(5,.int .i64 (((bitsN B:Nat):Int))),(8,.int .i64 (((bitsN B:Nat):Int))),(7,aS x2),(0,aS x1),(1,aS x2)]) rfl (fun a S=>?_)
  refine hK5 _ _ ?_
  refine wp_ret ?_
  exact za5 rfl S (S.at 0 rfl) ⟨_,rfl,congrArg (Value.int .i64) (zpj hlt hc12),S.below⟩
 ·refine wp_cond_false ((S.at 0 rfl).trans (congrArg Value.bool hc12)) ?_
  obtain⟨hl0,hl1⟩:=zpk hlt hc12
  refine wp_skip ?_
  refine hK3 _ _ ?_
  refine wp_seq_k fun K6 hK6=>?_
  refine zaa ?_
  refine tv S (zad rfl (S.at 9 rfl)) fun a S=>?_
  refine tv S (zcP (by decide) rfl (S.at 0 rfl)) fun a S=>?_
  refine tv S (zhm rfl (S.at 0 rfl) rfl (by unfold Inr;omega)) fun a S=>?_
  refine tv S (zam rfl (S.at 0 rfl)) fun a S=>?_
  refine hK6 _ _ ?_
  refine wp_seq_k fun K7 hK7=>?_
  refine wp_block ?_
  have hnx:x1.n=lenL B:=by rw[hn1,hl0]
  have hny:x2.n=lenL B:=hn2
  have S:=S.keep [6,0,1] (ls':=[(6,.int .i64 (((x2.n:Nat):Int) - 1)),(0,aS x1),(1,aS x2)]) rfl
  have S:=S.sel [0,1,2] rfl
  have S:=S.seln [0,1] rfl
  have S:=S.reorder [] rfl (by decide)
  refine wp_loop (fun aI VI=>∃(z:Int),(zj7 A B z)∧Frm 43 [(6,.int .i64 z),(0,aS x1),(1,aS x2)] [] V [x2,x1] aI VI) (fun aI _=>(intOf (aI.tmps.getD 6 undef)).toNat) ⟨((x2.n:Nat):Int) - 1,(by rw[hny];exact zj8 hl0 hl1),S⟩ ?_
  rintro a1 V3 ⟨z,hI,S⟩
  have hm0:a1.tmps.getD 6 undef= .int .i64 z:=S.at 0 rfl
  refine wp_seq_k fun K8 hK8=>?_
  refine wp_seq_k fun K9 hK9=>?_
  obtain⟨W1,hW1⟩:∃W,W=V3:=⟨_,rfl⟩
  rw[←hW1]at S ⊢
  have S0:=S
  refine fr 9 [18,19,20,21,22,23,24,25,26] [IsV (aS x1),IsV (.int .i64 z),IsV (.pointer (some (zf3 x1.A z.toNat))),IsV (.int .u32 (((dig A z.toNat:Nat):Int))),IsV (aS x2),IsV (.int .i64 z),IsV (.pointer (some (zf3 x2.A z.toNat))),IsV (.int .u32 (((dig B z.toNat:Nat):Int))),IsV (.bool (decide (((dig A z.toNat:Nat):Int)=((dig B z.toNat:Nat):Int))))] S ?_ ?_
  ·refine sc (fun _ _ S _ _=>sv rfl (zad rfl (S.at 1 rfl))) ?_
   refine sc (fun _ _ S _ _=>sv rfl (zad rfl (S.at 0 rfl))) ?_
   refine sc (fun _ _ S _ hd=>sv rfl (zeA (S.num 1 rfl) hI.1 (by have:=hI.2.1;have:=hnx;have:=hny;omega) rfl (hd.v 0 rfl rfl) (hd.v 1 rfl rfl))) ?_
   refine sc (fun _ _ S _ hd=>sv rfl (zeB (x:=x1) (S.num 1 rfl) hI.1 (by have:=hI.2.1;have:=hnx;have:=hny;omega) rfl (hd.v 2 rfl rfl) |> (fun h=>hN1▸h))) ?_
   refine sc (fun _ _ S _ _=>sv rfl (zad rfl (S.at 2 rfl))) ?_
   refine sc (fun _ _ S _ _=>sv rfl (zad rfl (S.at 0 rfl))) ?_
   refine sc (fun _ _ S _ hd=>sv rfl (zeA (S.num 0 rfl) hI.1 (by have:=hI.2.1;have:=hnx;have:=hny;omega) rfl (hd.v 4 rfl rfl) (hd.v 5 rfl rfl))) ?_
   refine sc (fun _ _ S _ hd=>sv rfl (zeB (x:=x2) (S.num 0 rfl) hI.1 (by have:=hI.2.1;have:=hnx;have:=hny;omega) rfl (hd.v 6 rfl rfl) |> (fun h=>hN2▸h))) ?_
   refine sc (fun _ _ _ _ hd=>sv rfl (zre rfl (hd.v 3 rfl rfl) (hd.v 7 rfl rfl))) ?_
   exact sn
  ·intro a2 V4 S hB hf
   have S:=S.add (hf.v 8 rfl rfl)
   clear hf S0
   show wpList _ _ _ [] _ _
   refine hK9 _ _ ?_
   rcases zuJ (decide (((dig A z.toNat:Nat):Int)=((dig B z.toNat:Nat):Int)))with hc26|hc26
   ·refine wp_cond_true ((S.at 0 rfl).trans (congrArg Value.bool hc26)) ?_
    have hz1:=(zg7 hlt hI hc26).1
    have hz2:=hI.2.1
    refine wp_skip ?_
    refine hK8 _ _ ?_
    refine wp_block ?_
    refine zaa ?_
    refine tv S (zad rfl (S.at 1 rfl)) fun a S=>?_
    refine tv S (zhm rfl (S.at 0 rfl) rfl (by unfold Inr;omega)) fun a S=>?_
    refine zbk S (v:= .int .i64 (z - 1)) (zam rfl (S.at 0 rfl)) rfl rfl (by decide) (ls':=[(28,.int .i64 (z - 1)),(27,.int .i64 z),(26,.bool (decide (((dig A z.toNat:Nat):Int)=((dig B z.toNat:Nat):Int)))),(0,aS x1),(1,aS x2)]) rfl (fun a S=>?_)
    have S:=S.sel [0,4,5] rfl
    have S:=S.seln [0,1] rfl
    have S:=S.reorder [] rfl (by decide)
    refine⟨⟨z - 1,(zg7 hlt hI hc26).2,S⟩,?_⟩
    have hm1:=S.at 0 rfl
    rw[hm0,hm1]
    simp only[intOf];omega
   ·refine wp_cond_false ((S.at 0 rfl).trans (congrArg Value.bool hc26)) ?_
    obtain⟨hp1,hp2,hp3⟩:=znl hlt hI hc26
    have hz0:=hI.1
    have hz2:=hI.2.1
    refine wp_exit ?_
    refine hK7 _ _ ?_
    refine wp_seq_k fun K10 hK10=>?_
    obtain⟨W2,hW2⟩:∃W,W=V4:=⟨_,rfl⟩
    rw[←hW2]at S ⊢
    have S0:=S
    refine fr 14 [29,30,31,32,33,34,35,36,37,38,39,40,41,42] [IsV (.int .i64 z),IsV (.int .i64 (z*32)),IsV (aS x1),IsV (.int .i64 z),IsV (.pointer (some (zf3 x1.A z.toNat))),IsV (.int .u32 (((dig A z.toNat:Nat):Int))),IsV (aS x2),IsV (.int .i64 z),IsV (.pointer (some (zf3 x2.A z.toNat))),IsV (.int .u32 (((dig B z.toNat:Nat):Int))),IsV (.int .u32 ((((dig A z.toNat)^^^(dig B z.toNat):Nat):Int))),IsV (.int .i64 (((bitsN ((dig A z.toNat)^^^(dig B z.toNat)):Nat):Int))),IsV (.int .i64 ((z*32)+((bitsN ((dig A z.toNat)^^^(dig B z.toNat)):Nat):Int))),IsV (.int .i64 (((z*32)+((bitsN ((dig A z.toNat)^^^(dig B z.toNat)):Nat):Int)) - 1))] S ?_ ?_
    ·refine sc (fun _ _ S _ _=>sv rfl (zad rfl (S.at 1 rfl))) ?_
     refine sc (fun _ _ _ _ hd=>sv rfl (zp5 rfl (hd.v 0 rfl rfl) rfl (by unfold Inr;omega))) ?_
     refine sc (fun _ _ S _ _=>sv rfl (zad rfl (S.at 2 rfl))) ?_
     refine sc (fun _ _ S _ _=>sv rfl (zad rfl (S.at 1 rfl))) ?_
     refine sc (fun _ _ S _ hd=>sv rfl (zeA (S.num 1 rfl) hI.1 (by have:=hI.2.1;have:=hnx;have:=hny;omega) rfl (hd.v 2 rfl rfl) (hd.v 3 rfl rfl))) ?_
     refine sc (fun _ _ S _ hd=>sv rfl (zeB (x:=x1) (S.num 1 rfl) hI.1 (by have:=hI.2.1;have:=hnx;have:=hny;omega) rfl (hd.v 4 rfl rfl) |> (fun h=>hN1▸h))) ?_
     refine sc (fun _ _ S _ _=>sv rfl (zad rfl (S.at 3 rfl))) ?_
     refine sc (fun _ _ S _ _=>sv rfl (zad rfl (S.at 1 rfl))) ?_
     refine sc (fun _ _ S _ hd=>sv rfl (zeA (S.num 0 rfl) hI.1 (by have:=hI.2.1;have:=hnx;have:=hny;omega) rfl (hd.v 6 rfl rfl) (hd.v 7 rfl rfl))) ?_
     refine sc (fun _ _ S _ hd=>sv rfl (zeB (x:=x2) (S.num 0 rfl) hI.1 (by have:=hI.2.1;have:=hnx;have:=hny;omega) rfl (hd.v 8 rfl rfl) |> (fun h=>hN2▸h))) ?_
     refine sc (fun _ _ _ _ hd=>sv rfl (zrf (u:=(dig A z.toNat)) (w:=(dig B z.toNat)) (zaz A z.toNat) (zaz B z.toNat) rfl (hd.v 5 rfl rfl) (hd.v 9 rfl rfl))) ?_
     refine sc (fun _ _ _ _ hd=>sl rfl (rc1 Tryz.func149 (hd.v 10 rfl rfl)) (zs3 (u:=((dig A z.toNat)^^^(dig B z.toNat))) (zrg _ _ _))) ?_
     refine sc (fun _ _ _ _ hd=>sv rfl (zp4 rfl (hd.v 1 rfl rfl) (hd.v 11 rfl rfl) (by unfold Inr;omega))) ?_
     refine sc (fun _ _ _ _ hd=>sv rfl (zhm rfl (hd.v 12 rfl rfl) rfl (by unfold Inr;omega))) ?_
     exact sn
    ·intro a3 V5 S hB hf
     have S:=S.add (hf.v 13 rfl rfl)
     clear hf S0
     show wpList _ _ _ [_] _ _
     refine tv S (zam rfl (S.at 0 rfl)) fun a S=>?_
     refine hK10 _ _ ?_
     refine wp_ret ?_
     exact za5 rfl S (S.at 0 rfl) ⟨_,rfl,congrArg (Value.int .i64) hp1,S.below⟩
section
variable {v v' v1 v2:Value}{V V':World}{K K' N M:Nat}{q q' q1 q2 lo hi:Rat}
def NL (K:Nat)(l:List Nat)(v:Value)(V:World):Prop:=∃(A:Option Addr) (ps:List Num),v= .slice A ps.length ps.length∧Rds V V.heap.size A ps∧ps.map (·.N)=l∧(∀p∈ps,p.n≤K)∧ps.length≤60
theorem NL.keep {l:List Nat}(h:NL K l v V)(hb:Below V.heap.size V V'):NL K l v V':=by
 obtain⟨A,ps,h1,h2,h3⟩:=h
 exact⟨A,ps,h1,fun k hk=>by
  obtain⟨⟨ad,e,g1,g2⟩,g3⟩:=h2 k hk
  exact⟨⟨ad,e,zuD g1 hb.size,(hb.cell (by rw[zaV];exact g1)).trans g2⟩,(g3.below hb).more hb.size⟩,h3⟩
theorem zpl {a:Act}{o:Oper}{t1 t2:Tmp}(hop:o.op= .buildSlice 127 2 #[(0,.tmp t1),(1,.tmp t2)]) (h1:a.tmps.getD t1 undef=v1) (h2:a.tmps.getD t2 undef=v2) (r1:N1 K N v1 V) (r2:N1 K M v2 V):zgw o a V (NL K [N,M]):=by
 obtain⟨r,rfl,hz,hn,hk⟩:=r1
 obtain⟨s,rfl,hz',hn',hk'⟩:=r2
 have hb:Below V.heap.size V (V.alloc (.cells #[.slice r.A r.n r.c,.slice s.A s.n s.c] 23)):=zuB.alloc zuA _
 have hs:(V.alloc (.cells #[.slice r.A r.n r.c,.slice s.A s.n s.c] 23)).heap.size=V.heap.size+1:=by simp
 have hg:=World.alloc_heap_new' V (.cells #[.slice r.A r.n r.c,.slice s.A s.n s.c] 23)
 refine⟨.slice (some ⟨V.heap.size,0,none⟩) 2 2,V.alloc (.cells #[.slice r.A r.n r.c,.slice s.A s.n s.c] 23),?_,⟨_,[r,s],rfl,fun k hk2=>?_,by simp[hz,hz'],by simp[hn,hn'],by simp⟩,hb⟩
 ·rw[zag]at h1 h2
  obtain⟨dst,op,ty,pos,after,guard⟩:=o
  simp only at hop
  subst hop
  go_simp
 ·rw[hs]
  match k,hk2 with
  |0,_=>exact⟨⟨_,rfl,by simp,(cell_of_row _ V.heap.size 0 _ _ (0,0) hg).trans rfl⟩,(hk.below hb).more (by omega)⟩
  |1,_=>exact⟨⟨_,rfl,by simp,(cell_of_row _ V.heap.size 1 _ _ (0,0) hg).trans rfl⟩,(hk'.below hb).more (by omega)⟩
theorem ztX (h:NL K [N,M] v V)(b:K≤1000000):Calls Tryz.prog 139 #[v] V (zao V (NT (K+1) (N+M))):=by
 obtain⟨A,ps,rfl,hR,hm,hb,hl⟩:=h
 rcases ps with _|⟨p,_|⟨p',_|⟨p'',ps⟩⟩⟩
 ·simp at hm
 ·simp at hm
 ·simp only[List.map_cons,List.map_nil,List.cons.injEq,and_true]at hm
  obtain⟨rfl,rfl⟩:=hm
  have e1:=(hR 0 (by simp)).2.1.1
  have e2:=(hR 1 (by simp)).2.1.1
  have b1:=hb p (by simp)
  have b2:=hb p' (by simp)
  have h1:=zet V A 2 [p,p'] hR (by simp)
  rw[show zbB [p,p']=p.N+p'.N by simp[zbB]]at h1
  exact gg h1 (zaj.1 (zcB (zuD e1 (zuF zbJ b1)) (zuD e2 (zuF zbJ b2)))) (by omega)
 ·simp at hm
theorem zeC {a:Act}{o:Oper}{k m:Nat}{X Y:Operand}(hle:m≤k)(ho:o.op= .binOp .sub 3 X Y 3) (h:a.eval X= .int .i64 (k:Nat)) (h':a.eval Y= .int .i64 (m:Nat)) (hi:k<9223372036854775808):(execOp a.eval o).run Tryz.prog V= .ok (.value (.int .i64 ((k - m:Nat):Int))) V:=by
 have h1:=zhm (V:=V) ho h h' (by unfold Inr;omega)
 rwa [show(k:Int) - (m:Int)=((k - m:Nat):Int) by omega]at h1
theorem zif (k:Int)(d:Nat):mkRat (-k) d= -mkRat k d:=by
 rw[Rat.mkRat_eq_div,Rat.mkRat_eq_div,Rat.intCast_neg]
 grind
theorem zsg {b:Bool}{N D:Nat}(h0:0≤q)(h:D≠0∧qOf b N D=q):mkRat ((N:Nat):Int) D=q:=by
 obtain⟨hd,rfl⟩:=h
 unfold qOf at h0 ⊢
 cases b with
 |false=>rfl
 |true=>
  have h1:0≤mkRat ((N:Nat):Int) D:=Rat.num_nonneg.1 (by rw[(zb3 hd).1];exact Int.ediv_nonneg (by omega) (by omega))
  rw[show zOf true N= -((N:Nat):Int)from rfl,zif]at h0 ⊢
  grind
theorem zrh {N D:Nat}(h0:0≤q1)(hlt:q1<q2)(h:mkRat ((N:Nat):Int) D=q2):N≠0:=fun h1=>by
 subst h1
 have:q2=0:=by rw[←h];simp
 grind
theorem zs4 {N T:Nat}(h:N≠0):1≤N*2^T:=Nat.mul_pos (Nat.pos_of_ne_zero h) (zuI T)
theorem zpm {low high T:Nat}{b:Bool}{x y:Num}(hlt:low<high)(hb:b=false)(h1:x.N=low/2^(min (partN low high) T)+1)(h2:x.n=lenL (low/2^(min (partN low high) T)+1))(h3:y.N=1*2^(T - min (partN low high) T))(h4:y.n=lenL (1*2^(T - min (partN low high) T)))
  (hq:q=mkRat ((low/2^(min (partN low high) T)+1:Nat):Int) (2^(T - min (partN low high) T))):IsQ q b x y:=by
 obtain⟨p1,p2⟩:=zeZ hlt
 rw[Nat.one_mul]at h3 h4
 have hg:Nat.gcd (2^(T - min (partN low high) T)) (low/2^(min (partN low high) T)+1)=1:=by
  rcases zuG (partN low high) T with h5|h5
  ·rw[show min (partN low high) T=partN low high by omega]
   have h6:=zdZ (((low/2^partN low high+1:Nat):Int)) (T - partN low high) (by
    rw[Nat.pow_succ,←Nat.div_div_eq_div_mul,←Nat.div_div_eq_div_mul]at p2
    omega)
   rw[Int.natAbs_natCast]at h6
   exact h6
  ·rw[show T - min (partN low high) T=0 by omega];simp
 have hp:=zb3 (z:=((low/2^(min (partN low high) T)+1:Nat):Int)) (d:=2^(T - min (partN low high) T)) (Nat.ne_of_gt (zuI _))
 rw[Int.natAbs_natCast,Nat.gcd_comm,hg]at hp
 have e1:q.num=((low/2^(min (partN low high) T)+1:Nat):Int):=by rw[hq,hp.1];simp
 have e2:q.den=2^(T - min (partN low high) T):=by rw[hq,hp.2];simp
 refine⟨by rw[e1,hb,decide_eq_false (by omega)],by rw[e1,Int.natAbs_natCast];exact h1,by rw[h1];exact h2,by rw[e2];exact h3,by rw[h3];exact h4⟩
theorem zg8 {K K':Nat}{q1 q2:Rat}{v1 v2:Value}{V:World}(h1:QM K (q1) v1 V)(h2:QM K' (q2) v2 V)(h0:0≤q1)(hlt:q1<q2)(hK0:K≤5000)(hK1:K'≤5000):
  Calls Tryz.prog 103 #[v1,v2] V (zao V (QT (2*K+2*K'+3) (zba q1 q2))):=by
 obtain⟨b1,x1,y1,rfl,hq1,hk1,hk2,ok1,ok2⟩:=h1
 obtain⟨b2,x2,y2,rfl,hq2,hk3,hk4,ok3,ok4⟩:=h2
 have hb1:=zgD hk2 ok2
 have hb2:=zgD hk4 ok4
 have ha1:=zsg h0 hq1
 have ha2:=zsg (show 0≤q2 by grind) hq2
 have hY:=zrh h0 hlt ha2
 have hlt2:=hlt
 rw[←ha1,←ha2]at hlt2
 have hlh:=zpM hq1.1 hq2.1 hY hlt2
 have hup:=zs4 (T:=bitsN y1.N+bitsN y2.N) hY
 have hQ:=zkn hq1.1 hq2.1 hY (by rw[ha1];exact h0) hlt2 (zeZ hlh)
 rw[ha1,ha2]at hQ
 refine zaD (e:=[x2,y2,x1,y1]) Tryz.func103 rfl Tryz.ntmps103 (zuz rfl) [(0,(aG b1 x1 y1)),(1,(aG b2 x2 y2))] rfl (zak ok3 (zak ok4 (zak ok1 (zak ok2 zaW)))) (fun a S=>?_)
 refine wp_seq_k fun K1 hK1=>?_
 refine zaa ?_
 refine ti S (cs:=(aL b1 x1 y1)) (zaH rfl (S.at 0 rfl) rfl) (fun g1=>[⟨g1,75,(aL b1 x1 y1)⟩]) fun g1 a V1 hgg1 S=>?_
 refine ti S (cs:=(aL b2 x2 y2)) (zaH rfl (S.at 2 rfl) rfl) (fun g2=>[⟨g1,75,(aL b1 x1 y1)⟩,⟨g2,75,(aL b2 x2 y2)⟩]) fun g2 a V2 hgg2 S=>?_
 refine ti S (cs:=[.bool false,.slice none 0 0,.slice none 0 0]) (zap rfl (Tryz.zeroValue27 _) rfl) (fun g3=>[⟨g1,75,(aL b1 x1 y1)⟩,⟨g2,75,(aL b2 x2 y2)⟩,⟨g3,27,[.bool false,.slice none 0 0,.slice none 0 0]⟩]) fun g3 a V3 hgg3 S=>?_
 refine hK1 _ _ ?_
 refine wp_seq_k fun K2 hK2=>?_
 obtain⟨W1,hW1⟩:∃W,W=V3:=⟨_,rfl⟩
 rw[←hW1]at S ⊢
 have S0:=S
 refine fr 7 [13,14,15,16,17,18,19] [IsV (pT g1 2),IsV (aS y1),IsV (.int .i64 (((bitsN y1.N:Nat):Int))),IsV (pT g2 2),IsV (aS y2),IsV (.int .i64 (((bitsN y2.N:Nat):Int))),IsV (.int .i64 ((((bitsN y1.N)+(bitsN y2.N):Nat):Int)))] S ?_ ?_
 ·refine sc (fun _ _ S _ _=>sv rfl (zaf rfl (S.at 2 rfl) (zaN _))) ?_
  refine sc (fun _ _ S _ hd=>sv rfl (zar rfl (hd.v 0 rfl rfl) (S.bx 0 rfl) (Tryz.isAgg23 _) rfl)) ?_
  refine sc (fun _ _ S _ hd=>sl rfl (rc1 Tryz.func118 (hd.v 1 rfl rfl)) (zhh (show N1 K (y1.N) (aS y1) _ from⟨y1,rfl,rfl,hk2,(S.num 3 rfl)⟩))) ?_
  refine sc (fun _ _ S _ _=>sv rfl (zaf rfl (S.at 1 rfl) (zaN _))) ?_
  refine sc (fun _ _ S _ hd=>sv rfl (zar rfl (hd.v 3 rfl rfl) (S.bx 1 rfl) (Tryz.isAgg23 _) rfl)) ?_
  refine sc (fun _ _ S _ hd=>sl rfl (rc1 Tryz.func118 (hd.v 4 rfl rfl)) (zhh (show N1 K' (y2.N) (aS y2) _ from⟨y2,rfl,rfl,hk4,(S.num 1 rfl)⟩))) ?_
  refine sc (fun _ _ _ _ hd=>sv rfl (zdS (k:=bitsN y1.N) (m:=bitsN y2.N) rfl (hd.v 2 rfl rfl) (hd.v 5 rfl rfl) (by omega))) ?_
  exact sn
 ·intro a1 V4 S hB hf
  have S:=S.add (hf.v 6 rfl rfl)
  clear hf S0
  show wpList _ _ _ [_] _ _
  refine tv S (zam rfl (S.at 0 rfl)) fun a S=>?_
  refine hK2 _ _ ?_
  refine wp_seq_k fun K3 hK3=>?_
  obtain⟨W2,hW2⟩:∃W,W=V4:=⟨_,rfl⟩
  rw[←hW2]at S ⊢
  have S0:=S
  refine frs [] [some 21,some 22,some 23,some 24,some 25,some 26,some 27,some 28,some 29,some 20,some 30,some 31,some 32,some 6,some 7,some 8] [IsV (pT g1 0),IsV (pT g1 0),IsV (pT g1 1),IsV (aS x1),IsV (.int .i64 ((((bitsN y1.N)+(bitsN y2.N):Nat):Int))),N1 (K+(K+K'+1)) (x1.N*2^((bitsN y1.N)+(bitsN y2.N))),IsV (pT g1 2),IsV (aS y1),N2E (K+(K+K'+1)) (K+(K+K'+1)) ((x1.N*2^((bitsN y1.N)+(bitsN y2.N)))/y1.N) (zbv (x1.N*2^((bitsN y1.N)+(bitsN y2.N))) y1.N) (zbF y1.N),N2E (K+(K+K'+1)) (K+(K+K'+1)) ((x1.N*2^((bitsN y1.N)+(bitsN y2.N)))/y1.N) (zbv (x1.N*2^((bitsN y1.N)+(bitsN y2.N))) y1.N) (zbF y1.N),NT (K+(K+K'+1)) ((x1.N*2^((bitsN y1.N)+(bitsN y2.N)))/y1.N),NT (K+(K+K'+1)) (zbv (x1.N*2^((bitsN y1.N)+(bitsN y2.N))) y1.N),IsV (.int .i64 (zbF y1.N)),NT (K+(K+K'+1)) ((x1.N*2^((bitsN y1.N)+(bitsN y2.N)))/y1.N),NT (K+(K+K'+1)) (zbv (x1.N*2^((bitsN y1.N)+(bitsN y2.N))) y1.N),IsV (.int .i64 (zbF y1.N))] [] [] [] (lb:=[⟨g1,75,(aL b1 x1 y1)⟩,⟨g2,75,(aL b2 x2 y2)⟩,⟨g3,27,[.bool false,.slice none 0 0,.slice none 0 0]⟩]) S zat ?_ zat zat zat ?_
  ·refine va (fun _ _ S _ _ _=>sv rfl (zaf rfl (S.at 4 rfl) (zaw _))) ?_
   refine va (fun _ _ _ _ hd _=>sv rfl (zaf rfl (hd.v 0 rfl rfl) (zay _))) ?_
   refine va (fun _ _ _ _ hd _=>sv rfl (zaf rfl (hd.v 1 rfl rfl) (zbu _))) ?_
   refine va (fun _ _ S _ hd _=>sv rfl (zar rfl (hd.v 2 rfl rfl) (S.bx 0 rfl) (Tryz.isAgg23 _) rfl)) ?_
   refine va (fun _ _ S _ _ _=>sv rfl (zad rfl (S.at 0 rfl))) ?_
   refine va (fun _ _ S _ hd _=>sl rfl (rc2 Tryz.func136 (hd.v 3 rfl rfl) (hd.v 4 rfl rfl)) (zbn (zj6 (k:=(bitsN y1.N)+(bitsN y2.N)) (show N1 K (x1.N) (aS x1) _ from⟨x1,rfl,rfl,hk1,(S.num 2 rfl)⟩) (by omega) (by omega)) (fun v V2 h=>h.to rfl (by omega)))) ?_
   refine va (fun _ _ S _ _ _=>sv rfl (zaf rfl (S.at 4 rfl) (zaN _))) ?_
   refine va (fun _ _ S _ hd _=>sv rfl (zar rfl (hd.v 6 rfl rfl) (S.bx 0 rfl) (Tryz.isAgg23 _) rfl)) ?_
   refine va (fun _ _ S _ hd _=>sl rfl (rc2 Tryz.func135 rfl (hd.v 7 rfl rfl)) (zuc (hd.r 5 rfl rfl) (show N1 K (y1.N) (aS y1) _ from⟨y1,rfl,rfl,hk2,(S.num 3 rfl)⟩) (by omega) (by omega))) ?_
   refine va (fun _ _ _ _ hd _=>sv rfl (zad rfl rfl) (hd.r 8 rfl rfl)) ?_
   refine va (fun _ _ _ _ hd _=>by
    obtain⟨v0,v1,hv,f0,f1⟩:=(hd.r 9 rfl rfl)
    exact sv rfl (zaq rfl hv rfl) f0) ?_
   refine va (fun _ _ _ _ hd _=>by
    obtain⟨v0,v1,hv,f0,f1⟩:=(hd.r 9 rfl rfl)
    exact sv rfl (zaq rfl hv rfl) f1) ?_
   refine va (fun _ _ _ _ hd _=>by
    obtain⟨v0,v1,hv,f0,f1⟩:=(hd.r 9 rfl rfl)
    exact sv rfl (zaq rfl hv rfl)) ?_
   refine va (fun _ _ _ _ hd _=>sv rfl (zam rfl rfl) (hd.r 10 rfl rfl)) ?_
   refine va (fun _ _ _ _ hd _=>sv rfl (zam rfl rfl) (hd.r 11 rfl rfl)) ?_
   refine va (fun _ _ _ _ hd _=>sv rfl (zam rfl (hd.v 12 rfl rfl))) ?_
   exact vn
  ·intro a2 V5 S hB hf hl hdis hs hp
   obtain⟨x3,hv1,hN1,hn1,hk5,ok5⟩:=hf.r 13 rfl rfl
   have S:=S.add hv1
   have S:=S.know ok5
   have S:Frm 71 [(6,aS x3),(5,.int .i64 ((((bitsN y1.N)+(bitsN y2.N):Nat):Int))),(19,.int .i64 ((((bitsN y1.N)+(bitsN y2.N):Nat):Int))),(4,pT g3 0),(3,pT g2 0),(2,pT g1 0),(0,(aG b1 x1 y1)),(1,(aG b2 x2 y2))] [⟨g1,75,(aL b1 x1 y1)⟩,⟨g2,75,(aL b2 x2 y2)⟩,⟨g3,27,[.bool false,.slice none 0 0,.slice none 0 0]⟩] V _ _ _:=S
   clear hf hl hdis hs hp S0
   refine hK3 _ _ ?_
   refine wp_seq_k fun K4 hK4=>?_
   refine zaa ?_
   refine tv S (zaf rfl (S.at 4 rfl) (zaw _)) fun a S=>?_
   refine tv S (zaf rfl (S.at 0 rfl) (zay _)) fun a S=>?_
   refine tv S (zaf rfl (S.at 0 rfl) (zbu _)) fun a S=>?_
   refine tv S (zar rfl (S.at 0 rfl) (S.bx 1 rfl) (Tryz.isAgg23 _) rfl) fun a S=>?_
   refine tv S (zad rfl (S.at 5 rfl)) fun a S=>?_
   refine tc S (F:=N1 (K'+(K+K'+1)) (x2.N*2^((bitsN y1.N)+(bitsN y2.N)))) (rc2 Tryz.func136 (S.at 1 rfl) (S.at 0 rfl)) (zbn (zj6 (k:=(bitsN y1.N)+(bitsN y2.N)) (show N1 K' (x2.N) (aS x2) _ from⟨x2,rfl,rfl,hk3,(S.num 1 rfl)⟩) (by omega) (by omega)) (fun v V2 h=>h.to rfl (by omega))) fun v a V6 hF hb S=>?_
   obtain⟨x4,rfl,hN2,hk6,ok6⟩:=hF
   have S:=S.know ok6
   refine tc S (F:=NT 1 (1)) (rcc Tryz.func97) zpG fun v a V7 hF hb S=>?_
   obtain⟨x5,rfl,hN3,hn2,hk7,ok7⟩:=hF
   have S:=S.know ok7
   refine tc S (F:=NE (K'+(K+K'+1)) ((x2.N*2^((bitsN y1.N)+(bitsN y2.N))) - 1) (0)) (rc2 Tryz.func137 (S.at 1 rfl) (S.at 0 rfl)) (zuw (show N1 (K'+(K+K'+1)) (x2.N*2^((bitsN y1.N)+(bitsN y2.N))) (aS x4) _ from⟨x4,rfl,hN2,hk6,(S.num 1 rfl)⟩) (show NT 1 (1) (aS x5) _ from⟨x5,rfl,hN3,hn2,hk7,(S.num 0 rfl)⟩).any hup (by omega)) fun v a V8 hF hb S=>?_
   obtain⟨tv1,rfl,tf1⟩:=hF
   obtain⟨x6,rfl,hN4,hn3,hk8,ok8⟩:=tf1
   have S:=S.know ok8
   refine tv S (zad rfl (S.at 0 rfl)) fun a S=>?_
   refine tv S (zaq rfl (S.at 0 rfl) rfl) fun a S=>?_
   refine tv S (zaq rfl (S.at 1 rfl) rfl) fun a S=>?_
   refine tv S (zam rfl (S.at 1 rfl)) fun a S=>?_
   refine tv S (zam rfl (S.at 1 rfl)) fun a S=>?_
   refine hK4 _ _ ?_
   refine wp_seq_k fun K5 hK5=>?_
   have S:=S.keep [9,6,5,4,3] (ls':=[(9,aS x6),(6,aS x3),(5,.int .i64 ((((bitsN y1.N)+(bitsN y2.N):Nat):Int))),(4,pT g3 0),(3,pT g2 0)]) rfl
   refine zaa ?_
   refine tv S (zad rfl (S.at 0 rfl)) fun a S=>?_
   refine tv S (zaf rfl (S.at 5 rfl) (zaN _)) fun a S=>?_
   refine tv S (zar rfl (S.at 0 rfl) (S.bx 1 rfl) (Tryz.isAgg23 _) rfl) fun a S=>?_
   refine tc S (F:=N2E (K'+(K+K'+1)) (K'+(K+K'+1)) (((x2.N*2^((bitsN y1.N)+(bitsN y2.N))) - 1)/y2.N) (zbv ((x2.N*2^((bitsN y1.N)+(bitsN y2.N))) - 1) y2.N) (zbF y2.N)) (rc2 Tryz.func135 (S.at 2 rfl) (S.at 0 rfl)) (zuc (show NT (K'+(K+K'+1)) ((x2.N*2^((bitsN y1.N)+(bitsN y2.N))) - 1) (aS x6) _ from⟨x6,rfl,hN4,hn3,hk8,(S.num 0 rfl)⟩).any (show N1 K' (y2.N) (aS y2) _ from⟨y2,rfl,rfl,hk4,(S.num 5 rfl)⟩) (by omega) (by omega)) fun v a V9 hF hb S=>?_
   obtain⟨tv2,tv3,rfl,tf2,tf3⟩:=hF
   obtain⟨x7,rfl,hN5,hn4,hk9,ok9⟩:=tf2
   obtain⟨x8,rfl,hN6,hn5,hk10,ok10⟩:=tf3
   have S:=S.know ok10
   have S:=S.know ok9
   refine tv S (zad rfl (S.at 0 rfl)) fun a S=>?_
   refine tv S (zaq rfl (S.at 0 rfl) rfl) fun a S=>?_
   refine tv S (zaq rfl (S.at 1 rfl) rfl) fun a S=>?_
   refine tv S (zaq rfl (S.at 2 rfl) rfl) fun a S=>?_
   refine zbk S (v:=aS x7) (zam rfl (S.at 2 rfl)) rfl rfl (by decide) (ls':=[(51,.int .i64 (zbF y2.N)),(50,aS x8),(49,aS x7),(44,.tuple #[aS x7,aS x8,.int .i64 (zbF y2.N)]),(48,.tuple #[aS x7,aS x8,.int .i64 (zbF y2.N)]),(47,aS y2),(46,pT g2 2),(45,aS x6),(6,aS x3),(5,.int .i64 ((((bitsN y1.N)+(bitsN y2.N):Nat):Int))),(4,pT g3 0),(3,pT g2 0)]) rfl (fun a S=>?_)
   refine hK5 _ _ ?_
   refine wp_seq_k fun K6 hK6=>?_
   refine zaa ?_
   refine tv S (zad rfl (S.at 9 rfl)) fun a S=>?_
   refine tv S (zad rfl (S.at 1 rfl)) fun a S=>?_
   refine tc S (F:=(fun v _=>v= .int .i64 (((partN ((x1.N*2^((bitsN y1.N)+(bitsN y2.N)))/y1.N) (((x2.N*2^((bitsN y1.N)+(bitsN y2.N))) - 1)/y2.N):Nat):Int)))) (rc2 Tryz.func138 (S.at 1 rfl) (S.at 0 rfl)) (znm (K:=(K+K'+(K+K'+1))) (((show NT (K+(K+K'+1)) ((x1.N*2^((bitsN y1.N)+(bitsN y2.N)))/y1.N) (aS x3) _ from⟨x3,rfl,hN1,hn1,hk5,(S.num 5 rfl)⟩)).to rfl (by omega)) (((show NT (K'+(K+K'+1)) (((x2.N*2^((bitsN y1.N)+(bitsN y2.N))) - 1)/y2.N) (aS x7) _ from⟨x7,rfl,hN5,hn4,hk9,(S.num 0 rfl)⟩)).to rfl (by omega)) hlh (by omega)) fun v a V10 hF hb S=>?_
   subst hF
   refine tv S (zad rfl (S.at 13 rfl)) fun a S=>?_
   refine tv S (zpi (k:=partN ((x1.N*2^((bitsN y1.N)+(bitsN y2.N)))/y1.N) (((x2.N*2^((bitsN y1.N)+(bitsN y2.N))) - 1)/y2.N)) (m:=(bitsN y1.N)+(bitsN y2.N)) rfl rfl (S.at 1 rfl) (S.at 0 rfl)) fun a S=>?_
   refine tv S (zam rfl (S.at 0 rfl)) fun a S=>?_
   refine hK6 _ _ ?_
   refine wp_seq_k fun K7 hK7=>?_
   have S:=S.keep [11,6,5,4] (ls':=[(11,.int .i64 (((min (partN ((x1.N*2^((bitsN y1.N)+(bitsN y2.N)))/y1.N) (((x2.N*2^((bitsN y1.N)+(bitsN y2.N))) - 1)/y2.N)) ((bitsN y1.N)+(bitsN y2.N)):Nat):Int))),(6,aS x3),(5,.int .i64 ((((bitsN y1.N)+(bitsN y2.N):Nat):Int))),(4,pT g3 0)]) rfl
   refine zaa ?_
   refine tv S (zad rfl (S.at 1 rfl)) fun a S=>?_
   refine tv S (zad rfl (S.at 1 rfl)) fun a S=>?_
   refine tc S (F:=NT (K+(K+K'+1)) (((x1.N*2^((bitsN y1.N)+(bitsN y2.N)))/y1.N)/2^(min (partN ((x1.N*2^((bitsN y1.N)+(bitsN y2.N)))/y1.N) (((x2.N*2^((bitsN y1.N)+(bitsN y2.N))) - 1)/y2.N)) ((bitsN y1.N)+(bitsN y2.N))))) (rc2 Tryz.func140 (S.at 1 rfl) (S.at 0 rfl)) (zrd (k:=min (partN ((x1.N*2^((bitsN y1.N)+(bitsN y2.N)))/y1.N) (((x2.N*2^((bitsN y1.N)+(bitsN y2.N))) - 1)/y2.N)) ((bitsN y1.N)+(bitsN y2.N))) (show NT (K+(K+K'+1)) ((x1.N*2^((bitsN y1.N)+(bitsN y2.N)))/y1.N) (aS x3) _ from⟨x3,rfl,hN1,hn1,hk5,(S.num 5 rfl)⟩).any (by omega) (by omega)) fun v a V11 hF hb S=>?_
   obtain⟨x9,rfl,hN7,hn6,hk11,ok11⟩:=hF
   have S:=S.know ok11
   refine tc S (F:=NT 1 (1)) (rcc Tryz.func97) zpG fun v a V12 hF hb S=>?_
   obtain⟨x10,rfl,hN8,hn7,hk12,ok12⟩:=hF
   have S:=S.know ok12
   refine ty S (F:=NL (max (K+(K+K'+1)) 1) ([((x1.N*2^((bitsN y1.N)+(bitsN y2.N)))/y1.N)/2^(min (partN ((x1.N*2^((bitsN y1.N)+(bitsN y2.N)))/y1.N) (((x2.N*2^((bitsN y1.N)+(bitsN y2.N))) - 1)/y2.N)) ((bitsN y1.N)+(bitsN y2.N))),1])) (zpl rfl (S.at 1 rfl) (S.at 0 rfl) (((show NT (K+(K+K'+1)) (((x1.N*2^((bitsN y1.N)+(bitsN y2.N)))/y1.N)/2^(min (partN ((x1.N*2^((bitsN y1.N)+(bitsN y2.N)))/y1.N) (((x2.N*2^((bitsN y1.N)+(bitsN y2.N))) - 1)/y2.N)) ((bitsN y1.N)+(bitsN y2.N)))) (aS x9) _ from⟨x9,rfl,hN7,hn6,hk11,(S.num 1 rfl)⟩).any).to rfl (by omega)) (((show NT 1 (1) (aS x10) _ from⟨x10,rfl,hN8,hn7,hk12,(S.num 0 rfl)⟩).any).to rfl (by omega))) fun v a V13 hF hb S=>?_
   obtain⟨ov1,hov1⟩:∃z,z=v:=⟨_,rfl⟩
   rw[←hov1]at hF S
   have rov1:=hF
   refine tc S (F:=NT ((max (K+(K+K'+1)) 1)+1) ((((x1.N*2^((bitsN y1.N)+(bitsN y2.N)))/y1.N)/2^(min (partN ((x1.N*2^((bitsN y1.N)+(bitsN y2.N)))/y1.N) (((x2.N*2^((bitsN y1.N)+(bitsN y2.N))) - 1)/y2.N)) ((bitsN y1.N)+(bitsN y2.N))))+1)) (rc1 Tryz.func139 (S.at 0 rfl)) (ztX rov1 (by omega)) fun v a V14 hF hb S=>?_
   replace rov1:=rov1.keep hb
   obtain⟨x11,rfl,hN9,hn8,hk13,ok13⟩:=hF
   have S:=S.know ok13
   refine tv S (zam rfl (S.at 0 rfl)) fun a S=>?_
   refine hK7 _ _ ?_
   refine wp_seq_k fun K8 hK8=>?_
   have S:=S.keep [12,11,5,4] (ls':=[(12,aS x11),(11,.int .i64 (((min (partN ((x1.N*2^((bitsN y1.N)+(bitsN y2.N)))/y1.N) (((x2.N*2^((bitsN y1.N)+(bitsN y2.N))) - 1)/y2.N)) ((bitsN y1.N)+(bitsN y2.N)):Nat):Int))),(5,.int .i64 ((((bitsN y1.N)+(bitsN y2.N):Nat):Int))),(4,pT g3 0)]) rfl
   refine zaa ?_
   refine tv S (zad rfl (S.at 0 rfl)) fun a S=>?_
   refine tv S (zbp rfl (S.at 0 rfl) (zdQ _ _ _)) fun a S=>?_
   refine tc S (F:=NT 1 (1)) (rcc Tryz.func97) zpG fun v a V15 hF hb S=>?_
   obtain⟨x12,rfl,hN10,hn9,hk14,ok14⟩:=hF
   have S:=S.know ok14
   refine tv S (zad rfl (S.at 5 rfl)) fun a S=>?_
   refine tv S (zad rfl (S.at 5 rfl)) fun a S=>?_
   refine tv S (zeC (k:=(bitsN y1.N)+(bitsN y2.N)) (m:=min (partN ((x1.N*2^((bitsN y1.N)+(bitsN y2.N)))/y1.N) (((x2.N*2^((bitsN y1.N)+(bitsN y2.N))) - 1)/y2.N)) ((bitsN y1.N)+(bitsN y2.N))) (Nat.min_le_right _ _) rfl (S.at 1 rfl) (S.at 0 rfl) (by omega)) fun a S=>?_
   refine tc S (F:=NT ((K+K'+1)+1) (1*2^(((bitsN y1.N)+(bitsN y2.N)) - (min (partN ((x1.N*2^((bitsN y1.N)+(bitsN y2.N)))/y1.N) (((x2.N*2^((bitsN y1.N)+(bitsN y2.N))) - 1)/y2.N)) ((bitsN y1.N)+(bitsN y2.N)))))) (rc2 Tryz.func136 (S.at 3 rfl) (S.at 0 rfl)) (zbn (znk (k:=((bitsN y1.N)+(bitsN y2.N)) - (min (partN ((x1.N*2^((bitsN y1.N)+(bitsN y2.N)))/y1.N) (((x2.N*2^((bitsN y1.N)+(bitsN y2.N))) - 1)/y2.N)) ((bitsN y1.N)+(bitsN y2.N)))) (show NT 1 (1) (aS x12) _ from⟨x12,rfl,hN10,hn9,hk14,(S.num 0 rfl)⟩).any (by decide) (by omega) (by omega)) (fun v V2 h=>h.to rfl (by omega))) fun v a V16 hF hb S=>?_
   obtain⟨x13,rfl,hN11,hn10,hk15,ok15⟩:=hF
   have S:=S.know ok15
   refine tv S (zaL rfl (S.at 5 rfl) (S.at 0 rfl) (zcs _ _ _ _ _ _ _)) fun a S=>?_
   refine zal S (i:=2) (vs:=(aL false x11 x13)) rfl (fun ht=>zah rfl (S.at 11 rfl) (S.at 0 rfl) zae rfl (zuz rfl) ht) (zuz rfl) rfl rfl rfl (lb':=[⟨g1,75,(aL b1 x1 y1)⟩,⟨g2,75,(aL b2 x2 y2)⟩,⟨g3,27,(aL false x11 x13)⟩]) rfl (fun V17 S=>?_)
   refine hK8 _ _ ?_
   refine wp_ret ?_
   exact za1 rfl S (S.at 11 rfl) (i:=2) rfl Tryz.underlying27 rfl zae ⟨_,rfl,⟨false,x11,x13,rfl,zpm hlh rfl hN9 hn8 hN11 hn10 hQ,zuC hk13 (by omega),zuC hk15 (by omega),(S.num 2 rfl),(S.num 0 rfl)⟩,S.below⟩
theorem zig {s:Nat}:room lo hi s↔room (-hi) (-lo) s:=by
 rw[zdi,zdi]
 constructor
 ·rintro⟨k,h1,h2⟩
  exact⟨-k,by rw[Rat.intCast_neg];grind,by rw[Rat.intCast_neg];grind⟩
 ·rintro⟨k,h1,h2⟩
  exact⟨-k,by rw[Rat.intCast_neg];grind,by rw[Rat.intCast_neg];grind⟩
theorem znn (hlt:lo<hi)(h0: ¬0≤lo)(h1:hi≤0):zba lo hi= -zba (-hi) (-lo):=by
 obtain⟨s,h2,h3⟩:=zcc hlt
 rw[zc9 hlt h2 h3,zc9 (by grind) (zig.1 h2) (fun t ht h4=>h3 t ht (zig.2 h4))]
 unfold btw btwK
 rw[if_neg h0,if_pos h1,if_pos (by grind),zif]
theorem zj9 (hlt:lo<hi)(h0: ¬0≤lo)(h1: ¬hi≤0):zba lo hi=0:=by
 obtain⟨s,h2,h3⟩:=zcc hlt
 rw[zc9 hlt h2 h3]
 unfold btw btwK
 rw[if_neg h0,if_neg h1]
 simp
theorem zpn {b:Bool}{x y:Num}(h:IsQ q b x y)(h0:0<q)(hq:q'= -q):IsQ q' true x y:=by
 subst hq
 have h1:0<q.num:=by
  have h2:0≤q.num:=Rat.num_nonneg.2 (by grind)
  have h3:q.num≠0:=fun h=>by have:=Rat.num_eq_zero.1 h;grind
  omega
 obtain⟨-,g2,g3,g4,g5⟩:=h
 exact⟨by rw[show(-q).num= -q.num from rfl];exact(decide_eq_true (by omega)).symm,by rw[show(-q).num= -q.num from rfl,Int.natAbs_neg];exact g2,g3,g4,g5⟩
theorem zpo {a:Rat}(h:a≤0):0≤ -a:=by grind
theorem zmn {a b:Rat}(h:a<b): -b< -a:=by grind
theorem zri (h:q1<q2)(h0:q2≤0):0<zba (-q2) (-q1):=by
 obtain⟨s,-,h1,-⟩:=zmx (zmn h)
 have:=zpo h0
 grind
theorem zs5 {q:Rat}(h:decide (0≤zaK q 0)=true):0≤q:=Rat.not_lt.1 (zcp.1 h)
theorem zpp {q:Rat}(h:decide (0≤zaK q 0)=false): ¬0≤q:=fun h2=>by
 rw[zcp.2 (Rat.not_lt.2 h2)]at h;cases h
theorem zno (h:decide (0≤zaK q1 q2)=false):q1<q2:=by
 by_cases hc:q1<q2
 ·exact hc
 ·rw[zcp.2 hc]at h;cases h
theorem zfT {K K':Nat}{q1 q2:Rat}{v1 v2:Value}{V:World}(T:TT V)(h1:Q1 K (q1) v1 V)(h2:Q1 K' (q2) v2 V)(hK0:K≤1000)(hK1:K'≤1000):
  Calls Tryz.prog 32 #[v1,v2] V (zao V (QV (2*max K 1+2*max K' 1+3) (zba q1 q2) (.bool (decide (q1<q2))))):=by
 obtain⟨b1,x1,y1,rfl,hq1,hk1,hk2,ok1,ok2⟩:=h1
 obtain⟨b2,x2,y2,rfl,hq2,hk3,hk4,ok3,ok4⟩:=h2
 refine zaD (e:=[x2,y2,x1,y1]) Tryz.func32 rfl Tryz.ntmps32 (zuz rfl) [(0,(aG b1 x1 y1)),(1,(aG b2 x2 y2))] rfl (zak ok3 (zak ok4 (zak ok1 (zak ok2 zaW)))) (fun a S=>?_)
 refine wp_seq_k fun K1 hK1=>?_
 refine zaa ?_
 refine ti S (cs:=(aL b1 x1 y1)) (zaH rfl (S.at 0 rfl) rfl) (fun g1=>[⟨g1,27,(aL b1 x1 y1)⟩]) fun g1 a V1 hgg1 S=>?_
 refine ti S (cs:=(aL b2 x2 y2)) (zaH rfl (S.at 2 rfl) rfl) (fun g2=>[⟨g1,27,(aL b1 x1 y1)⟩,⟨g2,27,(aL b2 x2 y2)⟩]) fun g2 a V2 hgg2 S=>?_
 refine ti S (cs:=[.bool false,.slice none 0 0,.slice none 0 0]) (zap rfl (Tryz.zeroValue27 _) rfl) (fun g3=>[⟨g1,27,(aL b1 x1 y1)⟩,⟨g2,27,(aL b2 x2 y2)⟩,⟨g3,27,[.bool false,.slice none 0 0,.slice none 0 0]⟩]) fun g3 a V3 hgg3 S=>?_
 refine tv S (zau rfl) fun a S=>?_
 refine hK1 _ _ ?_
 refine wp_seq_k fun K2 hK2=>?_
 obtain⟨W1,hW1⟩:∃W,W=V3:=⟨_,rfl⟩
 rw[←hW1]at S ⊢
 have S0:=S
 refine frs [(75,3)] [some 8,some 9,some 10,some 11,some 6,some 7,none,none] [IsV ((aG b1 x1 y1)),QM (max K 1) (q1),IsV ((aG b2 x2 y2)),QM (max K' 1) (q2),zcQ,zcQ,zcQ,zcQ] [⟨4,6,75,[.bool false,.slice none 0 0,.slice none 0 0]⟩,⟨5,7,75,[.bool false,.slice none 0 0,.slice none 0 0]⟩] [⟨6,6,75,QM (max K 1) (q1)⟩,⟨7,7,75,QM (max K' 1) (q2)⟩] [] (lb:=[⟨g1,27,(aL b1 x1 y1)⟩,⟨g2,27,(aL b2 x2 y2)⟩,⟨g3,27,[.bool false,.slice none 0 0,.slice none 0 0]⟩]) S (all_cons (zc4 0 rfl rfl) (all_cons (zc4 1 rfl rfl) zat)) ?_ (all_cons ⟨rfl,_,rfl,rfl,rfl,fun _ _ _=>(zap rfl (Tryz.zeroValue75 _) rfl)⟩ (all_cons ⟨rfl,_,rfl,rfl,rfl,fun _ _ _=>(zap rfl (Tryz.zeroValue75 _) rfl)⟩ zat)) (all_cons ⟨_,3,rfl,rfl,rfl,List.mem_of_getElem? (i:=0) rfl,(all_cons (fun h=>⟨rfl,rfl⟩) (all_cons (fun h=>by cases h) zat)),zat,fun _ _ _ _ hg hd=>zcN (hd.r 1 rfl rfl) (hd.r 1 rfl rfl).parts rfl hg rfl zaF⟩ (all_cons ⟨_,3,rfl,rfl,rfl,List.mem_of_getElem? (i:=0) rfl,(all_cons (fun h=>by cases h) (all_cons (fun h=>⟨rfl,rfl⟩) zat)),zat,fun _ _ _ _ hg hd=>zcN (hd.r 3 rfl rfl) (hd.r 3 rfl rfl).parts rfl hg rfl zaF⟩ zat)) zat ?_
 ·refine va (fun _ _ S _ _ _=>sv rfl (zab rfl (S.at 3 rfl) (S.bx 0 rfl) Tryz.underlying27 rfl (vs:=(aL b1 x1 y1)) zae rfl)) ?_
  refine va (fun _ _ S _ hd _=>sl rfl (rc1 Tryz.func86 (hd.v 0 rfl rfl)) (zbA (show Q1 K (q1) ((aG b1 x1 y1)) _ from⟨b1,x1,y1,rfl,hq1,hk1,hk2,(S.num 2 rfl),(S.num 3 rfl)⟩) (by omega))) ?_
  refine va (fun _ _ S _ _ _=>sv rfl (zab rfl (S.at 2 rfl) (S.bx 1 rfl) Tryz.underlying27 rfl (vs:=(aL b2 x2 y2)) zae rfl)) ?_
  refine va (fun _ _ S _ hd _=>sl rfl (rc1 Tryz.func86 (hd.v 2 rfl rfl)) (zbA (show Q1 K' (q2) ((aG b2 x2 y2)) _ from⟨b2,x2,y2,rfl,hq2,hk3,hk4,(S.num 0 rfl),(S.num 1 rfl)⟩) (by omega))) ?_
  refine vb ?_
  refine vb ?_
  refine vs ?_
  refine vs ?_
  exact vn
 ·intro a1 V4 S hB hf hl hdis hs hp
  obtain⟨g4,csg4,hvg4,hgg4,hbg4,hlg4,hng4,hkg4⟩:=hl _ (List.mem_of_getElem? (i:=0) rfl)
  obtain⟨g5,csg5,hvg5,hgg5,hbg5,hlg5,hng5,hkg5⟩:=hl _ (List.mem_of_getElem? (i:=1) rfl)
  have hne_g4_g5:g4≠g5:=fun h=>hdis _ (List.mem_of_getElem? (i:=0) rfl) _ (List.mem_of_getElem? (i:=1) rfl) (by decide) (hvg4.trans (h▸hvg5.symm))
  obtain⟨gs1,vsgs1,hvgs1,-,hbgs1,hngs1,hPgs1⟩:=hs _ (List.mem_of_getElem? (i:=0) rfl)
  have hegs1:=zch ((hvg4).symm.trans hvgs1)
  subst hegs1
  obtain⟨b3,x3,y3,hv1,hq3,hk5,hk6,ok5,ok6⟩:=(show QM (max K 1) (q1) (.agg vsgs1.toArray) V4 from hPgs1)
  have hvsgs1:=zci (ws:=(aL b3 x3 y3)) hv1
  subst hvsgs1
  have S:=S.know ok5
  have S:=S.know ok6
  obtain⟨gs2,vsgs2,hvgs2,-,hbgs2,hngs2,hPgs2⟩:=hs _ (List.mem_of_getElem? (i:=1) rfl)
  have hegs2:=zch ((hvg5).symm.trans hvgs2)
  subst hegs2
  obtain⟨b4,x4,y4,hv2,hq4,hk7,hk8,ok7,ok8⟩:=(show QM (max K' 1) (q2) (.agg vsgs2.toArray) V4 from hPgs2)
  have hvsgs2:=zci (ws:=(aL b4 x4 y4)) hv2
  subst hvsgs2
  have S:=S.know ok7
  have S:=S.know ok8
  have S:=Frm.readd (S.add hvg4) (zuC S0.below.size hgg4) hbgs1 rfl (zaR (zax (S0.lt 0 rfl) hgg4) (zaR (zax (S0.lt 1 rfl) hgg4) (zaR (zax (S0.lt 2 rfl) hgg4) zcM)))
  have S:=Frm.readd (S.add hvg5) (zuC S0.below.size hgg5) hbgs2 rfl (zaR (zax (S0.lt 0 rfl) hgg5) (zaR (zax (S0.lt 1 rfl) hgg5) (zaR (zax (S0.lt 2 rfl) hgg5) (zaR hne_g4_g5 zcM))))
  have S:Frm 40 [(7,pT g5 0),(6,pT g4 0),(5,.bool false),(4,pT g3 0),(3,pT g2 0),(2,pT g1 0),(0,(aG b1 x1 y1)),(1,(aG b2 x2 y2))] [⟨g1,27,(aL b1 x1 y1)⟩,⟨g2,27,(aL b2 x2 y2)⟩,⟨g3,27,[.bool false,.slice none 0 0,.slice none 0 0]⟩,⟨g4,75,(aL b3 x3 y3)⟩,⟨g5,75,(aL b4 x4 y4)⟩] V _ _ _:=S
  clear hf hl hdis hs hp S0
  refine hK2 _ _ ?_
  refine wp_seq_k fun K3 hK3=>?_
  refine wp_block ?_
  refine wp_seq_k fun K4 hK4=>?_
  refine zaa ?_
  refine tv S (zab rfl (S.at 1 rfl) (S.bx 3 rfl) Tryz.underlying75 rfl (vs:=(aL b3 x3 y3)) zaF rfl) fun a S=>?_
  refine tv S (zab rfl (S.at 1 rfl) (S.bx 4 rfl) Tryz.underlying75 rfl (vs:=(aL b4 x4 y4)) zaF rfl) fun a S=>?_
  refine tc S (F:=(fun v _=>v= .int .i64 (zaK q1 q2))) (rc2 Tryz.func93 (S.at 1 rfl) (S.at 0 rfl)) (zid (T.keep S.below) (show QM (max K 1) (q1) ((aG b3 x3 y3)) _ from⟨b3,x3,y3,rfl,hq3,hk5,hk6,(S.num 3 rfl),(S.num 2 rfl)⟩) (show QM (max K' 1) (q2) ((aG b4 x4 y4)) _ from⟨b4,x4,y4,rfl,hq4,hk7,hk8,(S.num 1 rfl),(S.num 0 rfl)⟩) (by omega) (by omega)) fun v a V5 hF hb S=>?_
  subst hF
  refine tv S (zc3 rfl (S.at 0 rfl) rfl) fun a S=>?_
  refine tv S (zam rfl (S.at 0 rfl)) fun a S=>?_
  refine hK4 _ _ ?_
  rcases zuJ (decide (0≤zaK q1 q2))with hc12|hc12
  ·refine wp_cond_true ((S.at 0 rfl).trans (congrArg Value.bool hc12)) ?_
   have hno:=zcp.1 hc12
   refine wp_seq_k fun K5 hK5=>?_
   refine zaa ?_
   refine tc S (F:=QT 1 ((0:Rat))) (rcc Tryz.func22) zj5 fun v a V6 hF hb S=>?_
   obtain⟨b5,x5,y5,rfl,hq5,hk9,hk10,ok9,ok10⟩:=hF
   have S:=S.know ok9
   have S:=S.know ok10
   refine zal S (i:=2) (vs:=(aL b5 x5 y5)) rfl (fun ht=>zah rfl (S.at 9 rfl) (S.at 0 rfl) zae rfl (zuz rfl) ht) (zuz rfl) rfl rfl rfl (lb':=[⟨g1,27,(aL b1 x1 y1)⟩,⟨g2,27,(aL b2 x2 y2)⟩,⟨g3,27,(aL b5 x5 y5)⟩,⟨g4,75,(aL b3 x3 y3)⟩,⟨g5,75,(aL b4 x4 y4)⟩]) rfl (fun V7 S=>?_)
   refine zbk S (v:= .bool false) (zau rfl) rfl rfl (by decide) (ls':=[(17,(aG b5 x5 y5)),(12,.bool (decide (0≤zaK q1 q2))),(16,.bool (decide (0≤zaK q1 q2))),(15,.int .i64 (zaK q1 q2)),(14,(aG b4 x4 y4)),(13,(aG b3 x3 y3)),(7,pT g5 0),(6,pT g4 0),(4,pT g3 0),(3,pT g2 0),(2,pT g1 0),(0,(aG b1 x1 y1)),(1,(aG b2 x2 y2))]) rfl (fun a S=>?_)
   refine hK5 _ _ ?_
   refine wp_ret ?_
   exact zbD rfl S (S.at 9 rfl) (i:=2) rfl Tryz.underlying27 rfl zae (S.at 0 rfl) ⟨_,rfl,⟨b5,x5,y5,congrArg (fun z=>Value.tuple #[(aG b5 x5 y5),.bool z]) (show false=decide (q1<q2)from(decide_eq_false hno).symm),((zgG hno).symm)▸hq5,zuC hk9 (by omega),zuC hk10 (by omega),(S.num 1 rfl),(S.num 0 rfl)⟩,S.below⟩
  ·refine wp_cond_false ((S.at 0 rfl).trans (congrArg Value.bool hc12)) ?_
   have hlt:=zno hc12
   refine wp_seq_k fun K6 hK6=>?_
   refine zaa ?_
   refine tv S (zaf rfl (S.at 6 rfl) (zaw _)) fun a S=>?_
   refine tv S (zab rfl (S.at 0 rfl) (S.bx 3 rfl) Tryz.underlying73 rfl (vs:=[.bool b3,aS x3]) zbw rfl) fun a S=>?_
   refine tc S (F:=(fun v _=>v= .int .i64 (Int.sign (zOf b3 x3.N)))) (rc1 Tryz.func87 (S.at 0 rfl)) (ziY (T.keep S.below) (show Z1 (max K 1) (zOf b3 x3.N) ((aZ b3 x3)) _ from⟨b3,x3,rfl,rfl,hk5,(S.num 3 rfl)⟩) (by omega)) fun v a V8 hF hb S=>?_
   subst hF
   refine tv S (zc3 rfl (S.at 0 rfl) rfl) fun a S=>?_
   refine tv S (zam rfl (S.at 0 rfl)) fun a S=>?_
   refine hK6 _ _ ?_
   rcases zuJ (decide (0≤Int.sign (zOf b3 x3.N)))with hc18|hc18
   ·refine wp_cond_true ((S.at 0 rfl).trans (congrArg Value.bool hc18)) ?_
    rw[ze7 hq3]at hc18
    refine wp_seq_k fun K7 hK7=>?_
    have S:=S.keep [7,6,5,4] (ls':=[(7,pT g5 0),(6,pT g4 0),(5,.bool false),(4,pT g3 0)]) rfl
    refine zaa ?_
    refine tv S (zab rfl (S.at 1 rfl) (S.bx 3 rfl) Tryz.underlying75 rfl (vs:=(aL b3 x3 y3)) zaF rfl) fun a S=>?_
    refine tv S (zab rfl (S.at 1 rfl) (S.bx 4 rfl) Tryz.underlying75 rfl (vs:=(aL b4 x4 y4)) zaF rfl) fun a S=>?_
    refine tc S (F:=QT (2*max K 1+2*max K' 1+3) (zba q1 q2)) (rc2 Tryz.func103 (S.at 1 rfl) (S.at 0 rfl)) (zbn (zg8 (show QM (max K 1) (q1) ((aG b3 x3 y3)) _ from⟨b3,x3,y3,rfl,hq3,hk5,hk6,(S.num 3 rfl),(S.num 2 rfl)⟩) (show QM (max K' 1) (q2) ((aG b4 x4 y4)) _ from⟨b4,x4,y4,rfl,hq4,hk7,hk8,(S.num 1 rfl),(S.num 0 rfl)⟩) (zs5 hc18) hlt (by omega) (by omega)) (fun v V2 h=>h.to rfl (by omega))) fun v a V9 hF hb S=>?_
    obtain⟨b6,x6,y6,rfl,hq6,hk11,hk12,ok11,ok12⟩:=hF
    have S:=S.know ok11
    have S:=S.know ok12
    refine zal S (i:=2) (vs:=(aL b6 x6 y6)) rfl (fun ht=>zah rfl (S.at 6 rfl) (S.at 0 rfl) zae rfl (zuz rfl) ht) (zuz rfl) rfl rfl rfl (lb':=[⟨g1,27,(aL b1 x1 y1)⟩,⟨g2,27,(aL b2 x2 y2)⟩,⟨g3,27,(aL b6 x6 y6)⟩,⟨g4,75,(aL b3 x3 y3)⟩,⟨g5,75,(aL b4 x4 y4)⟩]) rfl (fun V10 S=>?_)
    refine zbk S (v:= .bool true) (zau rfl) rfl rfl (by decide) (ls':=[(25,(aG b6 x6 y6)),(24,(aG b4 x4 y4)),(23,(aG b3 x3 y3)),(7,pT g5 0),(6,pT g4 0),(4,pT g3 0)]) rfl (fun a S=>?_)
    refine hK7 _ _ ?_
    refine wp_ret ?_
    exact zbD rfl S (S.at 6 rfl) (i:=2) rfl Tryz.underlying27 rfl zae (S.at 0 rfl) ⟨_,rfl,⟨b6,x6,y6,congrArg (fun z=>Value.tuple #[(aG b6 x6 y6),.bool z]) (show true=decide (q1<q2)from(decide_eq_true hlt).symm),hq6,zuC hk11 (by omega),zuC hk12 (by omega),(S.num 1 rfl),(S.num 0 rfl)⟩,S.below⟩
   ·refine wp_cond_false ((S.at 0 rfl).trans (congrArg Value.bool hc18)) ?_
    rw[ze7 hq3]at hc18
    refine wp_seq_k fun K8 hK8=>?_
    have S:=S.keep [7,6,4] (ls':=[(7,pT g5 0),(6,pT g4 0),(4,pT g3 0)]) rfl
    refine zaa ?_
    refine tv S (zaf rfl (S.at 0 rfl) (zaw _)) fun a S=>?_
    refine tv S (zab rfl (S.at 0 rfl) (S.bx 4 rfl) Tryz.underlying73 rfl (vs:=[.bool b4,aS x4]) zbw rfl) fun a S=>?_
    refine tc S (F:=(fun v _=>v= .int .i64 (Int.sign (zOf b4 x4.N)))) (rc1 Tryz.func87 (S.at 0 rfl)) (ziY (T.keep S.below) (show Z1 (max K' 1) (zOf b4 x4.N) ((aZ b4 x4)) _ from⟨b4,x4,rfl,rfl,hk7,(S.num 1 rfl)⟩) (by omega)) fun v a V11 hF hb S=>?_
    subst hF
    refine tv S (zp3 rfl (S.at 0 rfl) rfl) fun a S=>?_
    refine tv S (zam rfl (S.at 0 rfl)) fun a S=>?_
    refine hK8 _ _ ?_
    rcases zuJ (decide (Int.sign (zOf b4 x4.N)≤0))with hc26|hc26
    ·refine wp_cond_true ((S.at 0 rfl).trans (congrArg Value.bool hc26)) ?_
     rw[ze7 hq4]at hc26
     have hle0:=zfJ.1 hc26
     refine wp_seq_k fun K9 hK9=>?_
     obtain⟨W2,hW2⟩:∃W,W=V11:=⟨_,rfl⟩
     rw[←hW2]at S ⊢
     have S0:=S
     refine fr 5 [31,32,33,34,35] [IsV ((aG b4 x4 y4)),QM (max K' 1) (-q2),IsV ((aG b3 x3 y3)),QM (max K 1) (-q1),QT (2*max K 1+2*max K' 1+3) (zba (-q2) (-q1))] S ?_ ?_
     ·refine sc (fun _ _ S _ _=>sv rfl (zab rfl (S.at 5 rfl) (S.bx 4 rfl) Tryz.underlying75 rfl (vs:=(aL b4 x4 y4)) zaF rfl)) ?_
      refine sc (fun _ _ S _ hd=>sl rfl (rc1 Tryz.func98 (hd.v 0 rfl rfl)) (zez (show QM (max K' 1) (q2) ((aG b4 x4 y4)) _ from⟨b4,x4,y4,rfl,hq4,hk7,hk8,(S.num 1 rfl),(S.num 0 rfl)⟩))) ?_
      refine sc (fun _ _ S _ _=>sv rfl (zab rfl (S.at 6 rfl) (S.bx 3 rfl) Tryz.underlying75 rfl (vs:=(aL b3 x3 y3)) zaF rfl)) ?_
      refine sc (fun _ _ S _ hd=>sl rfl (rc1 Tryz.func98 (hd.v 2 rfl rfl)) (zez (show QM (max K 1) (q1) ((aG b3 x3 y3)) _ from⟨b3,x3,y3,rfl,hq3,hk5,hk6,(S.num 3 rfl),(S.num 2 rfl)⟩))) ?_
      refine sc (fun _ _ _ _ hd=>sl rfl (rc2 Tryz.func103 rfl rfl) (zbn (zg8 (hd.r 1 rfl rfl) (hd.r 3 rfl rfl) (zpo hle0) (zmn hlt) (by omega) (by omega)) (fun v V2 h=>h.to rfl (by omega)))) ?_
      exact sn
     ·intro a2 V12 S hB hf
      obtain⟨b7,x7,y7,hv3,hq7,hk13,hk14,ok13,ok14⟩:=hf.r 4 rfl rfl
      have S:=S.add hv3
      have S:=S.know ok13
      have S:=S.know ok14
      clear hf S0
      show wpList _ _ _ [_] _ _
      refine zal S (i:=2) (vs:=(aL b7 x7 y7)) rfl (fun ht=>zah rfl (S.at 8 rfl) (S.at 0 rfl) zae rfl (zuz rfl) ht) (zuz rfl) rfl rfl rfl (lb':=[⟨g1,27,(aL b1 x1 y1)⟩,⟨g2,27,(aL b2 x2 y2)⟩,⟨g3,27,(aL b7 x7 y7)⟩,⟨g4,75,(aL b3 x3 y3)⟩,⟨g5,75,(aL b4 x4 y4)⟩]) rfl (fun V13 S=>?_)
      refine hK9 _ _ ?_
      refine wp_seq_k fun K10 hK10=>?_
      refine zaa ?_
      refine tv S (zaf rfl (S.at 8 rfl) (za6 _)) fun a S=>?_
      refine tv S (zaf rfl (S.at 0 rfl) (za9 _)) fun a S=>?_
      refine zal S (i:=2) (vs:=[.bool true]) rfl (fun ht=>zdF rfl (S.at 0 rfl) rfl (Tryz.sizeOf4 _) rfl rfl (zuz rfl) ht) (zuz rfl) rfl rfl rfl (lb':=[⟨g1,27,(aL b1 x1 y1)⟩,⟨g2,27,(aL b2 x2 y2)⟩,⟨g3,27,(aL true x7 y7)⟩,⟨g4,75,(aL b3 x3 y3)⟩,⟨g5,75,(aL b4 x4 y4)⟩]) rfl (fun V14 S=>?_)
      refine hK10 _ _ ?_
      refine wp_seq_k fun K11 hK11=>?_
      refine zaa ?_
      refine tv S (zab rfl (S.at 10 rfl) (S.bx 2 rfl) Tryz.underlying27 rfl (vs:=(aL true x7 y7)) zae rfl) fun a S=>?_
      refine zal S (i:=2) (vs:=(aL true x7 y7)) rfl (fun ht=>zah rfl (S.at 11 rfl) (S.at 0 rfl) zae rfl (zuz rfl) ht) (zuz rfl) rfl rfl rfl (lb':=[⟨g1,27,(aL b1 x1 y1)⟩,⟨g2,27,(aL b2 x2 y2)⟩,⟨g3,27,(aL true x7 y7)⟩,⟨g4,75,(aL b3 x3 y3)⟩,⟨g5,75,(aL b4 x4 y4)⟩]) rfl (fun V15 S=>?_)
      refine tv S (zau rfl) fun a S=>?_
      refine hK11 _ _ ?_
      refine wp_ret ?_
      exact zbD rfl S (S.at 12 rfl) (i:=2) rfl Tryz.underlying27 rfl zae (S.at 0 rfl) ⟨_,rfl,⟨true,x7,y7,congrArg (fun z=>Value.tuple #[(aG true x7 y7),.bool z]) (show true=decide (q1<q2)from(decide_eq_true hlt).symm),zpn hq7 (zri hlt hle0) (znn hlt (zpp hc18) hle0),zuC hk13 (by omega),zuC hk14 (by omega),(S.num 1 rfl),(S.num 0 rfl)⟩,S.below⟩
    ·refine wp_cond_false ((S.at 0 rfl).trans (congrArg Value.bool hc26)) ?_
     rw[ze7 hq4]at hc26
     refine wp_skip ?_
     refine hK3 _ _ ?_
     refine wp_seq_k fun K12 hK12=>?_
     refine zaa ?_
     refine tc S (F:=QT 1 ((0:Rat))) (rcc Tryz.func22) zj5 fun v a V16 hF hb S=>?_
     obtain⟨b8,x8,y8,rfl,hq8,hk15,hk16,ok15,ok16⟩:=hF
     have S:=S.know ok15
     have S:=S.know ok16
     refine zal S (i:=2) (vs:=(aL b8 x8 y8)) rfl (fun ht=>zah rfl (S.at 8 rfl) (S.at 0 rfl) zae rfl (zuz rfl) ht) (zuz rfl) rfl rfl rfl (lb':=[⟨g1,27,(aL b1 x1 y1)⟩,⟨g2,27,(aL b2 x2 y2)⟩,⟨g3,27,(aL b8 x8 y8)⟩,⟨g4,75,(aL b3 x3 y3)⟩,⟨g5,75,(aL b4 x4 y4)⟩]) rfl (fun V17 S=>?_)
     refine tv S (zau rfl) fun a S=>?_
     refine hK12 _ _ ?_
     refine wp_ret ?_
     exact zbD rfl S (S.at 9 rfl) (i:=2) rfl Tryz.underlying27 rfl zae (S.at 0 rfl) ⟨_,rfl,⟨b8,x8,y8,congrArg (fun z=>Value.tuple #[(aG b8 x8 y8),.bool z]) (show true=decide (q1<q2)from(decide_eq_true hlt).symm),((zj9 hlt (zpp hc18) (fun h=>by rw[zfJ.2 h]at hc26;cases hc26)).symm)▸hq8,zuC hk15 (by omega),zuC hk16 (by omega),(S.num 1 rfl),(S.num 0 rfl)⟩,S.below⟩
end
end Go.Proofs.YtafokgknenienaaGreatDoor
