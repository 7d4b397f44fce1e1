/- Contracts of gcd's twos, halve, double, isOne. -/
import Derived.Deep.AppendSrc
import Derived.Deep.LoopGhost
import Derived.Test.YtipckjmgdghkiaaGreatDoorGGcdA
import Derived.Test.YtipckjmgdghkiaaGreatDoorGProdB
import Derived.Test.YtipckjmgdghkiaaGreatDoorGRefH
set_option maxHeartbeats 16000000
set_option maxRecDepth 100000
namespace Go.Proofs.YtipckjmgdghkiaaGreatDoor
open Go Go.RowKit
theorem zj6 {M q:Nat}(h:M≠0):lenL (M*Bw^q)=q+lenL M:=by
 have h1:∀k,lenL (M*Bw^q)<=k+q↔lenL M<=k:=fun k=>by
  rw[zai,zai,zaY]
  exact Nat.mul_lt_mul_right (zag q)
 have h2:=(h1 (lenL M)).2 zv0
 have h3:=zcd h
 have h4:q<=lenL (M*Bw^q):=by
  rcases zv6 (lenL (M*Bw^q)) q with h'|h'
  ·exfalso
   have h5:M*Bw^q<Bw^q:=zv3 (zaF _) (zv5 zb9 (by omega))
   have h6:=Nat.le_mul_of_pos_left (Bw^q) (Nat.pos_of_ne_zero h)
   omega
  ·exact h'
 have h5:=(h1 (lenL (M*Bw^q) - q)).1 (by omega)
 omega
theorem zpn {M q:Nat}:List.replicate q (.int .u32 0)++limbs M (lenL M)=limbs (M*Bw^q) (q+lenL M):=by
 apply List.ext_getElem?
 intro j
 by_cases h1:j<q
 ·rw[List.getElem?_append_left (by rw[List.length_replicate];exact h1),List.getElem?_replicate,if_pos h1,zci (by omega),zft,if_pos h1]
  rfl
 ·rw[List.getElem?_append_right (by rw[List.length_replicate];omega),List.length_replicate]
  by_cases h2:j<q+lenL M
  ·rw[zci (by omega),zci h2,zft,if_neg h1]
  ·rw[List.getElem?_eq_none (by rw[zat];omega),List.getElem?_eq_none (by rw[zat];omega)]
def zbR (n:Nat):Array Value:=(List.replicate n (Value.int .u32 0)).toArray
theorem zmF (n:Nat)(hn:n<=35184372087808)(W:World):(Instr.makeSlice 23 (.int .i64 (n:Int)) (.int .i64 (n:Int))).run Tryz.prog W= .ok (.slice (some ⟨W.heap.size,0,none⟩) n n) (W.alloc (.cells (zbR n) 92)):=by
 obtain⟨i0,hi,hz0,hz1,hz2⟩:=info_parts zbJ
 have h:=run_make (P:=Tryz.prog) W 23 92 i0 (.int .u32 0) Tryz.underlying23 hi hz0 .i64 .i64 n n (by omega) (Int.le_refl _) (by rw[hz2];omega) (by omega)
 simp only[Int.toNat_natCast]at h
 have e:(Value.int .u32 0).cells= #[.int .u32 0]:=rfl
 have e2:=toList_madeCells_one (.int .u32 0) (n*i0.size)
 rw[hz1,Nat.mul_one]at e2
 have e3:madeCells (Value.int .u32 0).cells (n*i0.size)=zbR n:=by
  rw[e,hz1,Nat.mul_one]
  apply Array.ext'
  rw[e2,zbR]
 rw[e3]at h
 exact h
theorem zgB (W:World)(base n:Nat)(hb:base<=W.heap.size)(hn:n<=maxLen):(W.alloc (.cells (zbR n) 92)).ownsRow base 92 1 (.slice (some ⟨W.heap.size,0,none⟩) n n) n (List.replicate n (.int .u32 0)):=
 ⟨by simp,.inr ⟨W.heap.size,n,zbR n,rfl,hb,heap_alloc_new W _,Nat.le_refl _,hn,by simp[zbR],by simp[zbR]⟩⟩
theorem zj7 (W:World)(n:Nat):Buf (W.alloc (.cells (zbR n) 92)) W.heap.size n 0:=fun j hj=>by
 have h:=World.alloc_heap_new' W (.cells (zbR n) 92)
 constructor
 ·simp only[World.cell?,h]
  simp[zbR,hj,zbI]
 ·unfold World.frozen?
  rw[h]
  simp
theorem zdr {P:Program}{ops:Array Oper}{o:Oper}{a:Act}{w w':World}{K:Act->World->Prop}{Q:Exit->Act->World->Prop}{E:Prop}
  (hg:o.guard=none) (s x:Operand) (t:TypeId) (hop:o.op=Op.call { callee:=Callee.builtin Builtin.append,args:= #[s,x],argTypes:= #[t,t] }) {v vx v':Value}
  (hs:a.eval s=v) (hx:a.eval x=vx) (hrun:(Builtin.append_ #[t,t] o.type #[v,vx]).run P w= .ok v' w') (hK:K (a.put o.dst v') w'):
  if Region.wanted o (yielded ops a.tmps)=true then Oper.wp P o a w K Q else E:=by
 have hw:Region.wanted o (yielded ops a.tmps)=true:=by simp[Region.wanted,hg]
 rw[if_pos hw]
 unfold Oper.wp
 simp[execOp,hop,resolve,invoke,builtin,hs,hx,hrun,Result.andThen]
 exact hK
theorem zil {w W:World}{g q c2 M:Nat}{A2:Option Addr}(hb:Below w.heap.size w W)(hown:W.ownsRow w.heap.size 92 1 (.slice (some ⟨g,0,none⟩) q q) q (List.replicate q (.int .u32 0)))
  (hR:Rd W W.heap.size A2 (lenL M) M) (hM:M≠0) (hq:q<=1000000) (hl:lenL M<=2000000):
  ∃v' w',(Builtin.append_ #[23,23] 23 #[.slice (some ⟨g,0,none⟩) q q,.slice A2 (lenL M) c2]).run Tryz.prog W= .ok v' w'/\Gives w (M*Bw^q) (.returned v') w':=by
 obtain⟨i0,hi,hz0,hz1,hz2⟩:=info_parts zbJ
 obtain⟨v',w',hrun,ho,hg,_⟩:=zeA (P:=Tryz.prog) W w.heap.size 23 23 92 i0 (.int .u32 0) 4 Tryz.underlying23 hi hz0 hz1 hz2 rfl _ q _ hown A2 (lenL M) c2 (limbs M (lenL M)) (zat _ _)
  (fun j u hu=>by
   obtain⟨hj,rfl⟩:=zd0 hu
   obtain⟨ad,e,_,hc⟩:=hR.at_ hj
   exact⟨ad,e,hc⟩) zcg (by simp only[maxLen];omega) (by omega) hb.size
 refine⟨v',w',hrun,?_⟩
 rw[zpn]at ho
 rw[<-zj6 hM]at ho
 obtain⟨A',c',rfl,h1,h2,h3⟩:=Fr.of_own ho (zaF _) (fun j hj=>zci hj)
 exact⟨A',c',rfl,h1,h2,h3,hb.grown hg hb.size (fun k hk=>(hown.lt k hk).1)⟩
theorem zlv (w:World)(A:Option Addr)(n c N k q r:Nat)(h:Rd w w.heap.size A n N)(hnc:n<=c)(hcb:c<=maxLen)(hn:n<=1000000)(hk:k=32*q+r)(hr:r<32)(hq:q<=1000000)(h0:N≠0):
  Calls Tryz.prog 219 #[.slice A n c,.int .i64 k] w (Gives w (N*2^k)):=by
 have HG:N*2^k=N*2^r*Bw^q:=by rw[hk,Nat.add_comm,Nat.pow_add,zbo,Nat.mul_assoc]
 have hM:N*2^r≠0:=Nat.mul_ne_zero h0 (Nat.ne_of_gt (zv8 r))
 have hlM:lenL (N*2^r)<=2000000:=by
  rw[zai]
  calc N*2^r<Bw^n*2^r:=Nat.mul_lt_mul_of_pos_right h.1 (zv8 r)
   _<=Bw^n*2^32:=Nat.mul_le_mul_left _ (zv5 (by omega) (by omega))
   _=Bw^(n+1):=by rw[Nat.pow_succ];rfl
   _<=_:=zv5 zb9 (by omega)
 have hmin:min (((r:Nat):Int)).toNat 65536=r:=by rw[Int.toNat_natCast];omega
 have EU:=zvY (fun(W:World) (hB:Below w.heap.size w W)=>zjv W A n c N (r:Nat) ((h.below hB).more hB.size) hnc hcb (by omega) (by omega))
 simp only[hmin]at EU
 have HMK:=zmF q (by omega)
 rw[HG]
 generalize hMv:N*2^r=M at*
 have HH:=zvY h
 have HB1:=zvY ((Below.refl w.heap.size w).alloc zv0 (.cells (zbR q) 92)).drew
 have h1:(k:Int)/32=(q:Nat):=by omega
 have h2:(k:Int)%32=(r:Nat):=by omega
 have h3:IntKind.i64.wrap (q:Int)=(q:Int):=by rw[IntKind.wrap_i64];omega
 have h4:(k:Int).tmod 32=(r:Nat):=by rw[Int.tmod_eq_emod_of_nonneg (by omega)];omega
 clear h hk HG hMv h0
 go_enter Tryz.func219,Tryz.ntmps219
 go_wp2
 go_region_law (first
  |(refine zdr rfl (.tmp 7) (.tmp 11) _ rfl rfl rfl hap ?_)
  |(go_simp;go_at_call 224;(with_reducible refine(EU.out _ HB1.out).mono ?_);rintro e wa ⟨A2,c2,rfl,g1,g2,g3,g4⟩;obtain⟨v',w',hap,hres⟩:=zil (c2:=c2) (HB1.out.trans (g4.mono (by simp))) (((zgB w w.heap.size q zv0 (by simp only[maxLen];omega)).drew).kept (zcn (r:=none) g4) (.inr (by simp[Value.ownBlock]))) g3.rd hM hq hlM)
  |(go_simp;go_at_call 224;(with_reducible refine(EU.out _ (Below.drew (Below.refl _ w))).mono ?_);rintro e wa ⟨A2,c2,rfl,g1,g2,g3,g4⟩;obtain⟨v',w',hap,hres⟩:=zil (c2:=c2) (((Below.refl w.heap.size w).drew.trans g4).alloc (g4.size) (.cells (zbR q) 92)) (zgB wa w.heap.size q g4.size (by simp only[maxLen];omega)) ((g3.rd.below ((Below.refl _ wa).alloc zv0 _)).more (by simp)) hM hq hlM))
 all_goals
  have HR:=zvY hres
  clear g1 g2 g3 g4 hres hap
  go_wp2
  go_ret
  exact HR.out
theorem znD (w:World)(hi:Nat)(A:Option Addr)(n c N:Nat)(h:Rd w hi A n N)(hn:n<=c)(hc:c<=9223372036854775807):
  Calls Tryz.prog 154 #[.slice A n c] w fun e w'=>e= .returned (.bool (decide (N=1)))/\w=w':=by
 by_cases hN:N<18446744073709551616
 ·have E:=zvY (zcW w hi A n c N h hn hc hN)
  have hd:((N:Int)==1)=decide (N=1):=by rw[Bool.eq_iff_iff,beq_iff_eq,decide_eq_true_eq];omega
  clear h
  go_enter Tryz.func154,Tryz.ntmps154
  go_wp2_with (go_at_call 192;refine E.out.mono ?_;rintro e w' ⟨rfl,rfl⟩)
  go_ret
  exact⟨rfl,rfl⟩
 ·have E:=zvY (zeL w hi A n c N h hn hc hN)
  have hd:decide (N=1)=false:=by rw[decide_eq_false_iff_not];omega
  rw[hd]
  clear h
  go_enter Tryz.func154,Tryz.ntmps154
  go_wp2_with (go_at_call 192;refine E.out.mono ?_;rintro e w' ⟨rfl,rfl⟩)
  go_ret
  exact⟨rfl,rfl⟩
theorem znE (w:World)(A:Option Addr)(n c N k q r:Nat)(h:Rd w w.heap.size A n N)(hnc:n<=c)(hcb:c<=maxLen)(hn:n<=1000000)(hk:k=32*q+r)(hr:r<32)(hq:q<n):
  Calls Tryz.prog 221 #[.slice A n c,.int .i64 k] w (Gives w (N/2^k)):=by
 have HG:N/Bw^q/2^r=N/2^k:=by rw[Nat.div_div_eq_div_mul,hk,Nat.pow_add,zbo]
 obtain⟨ad,rfl,_,_⟩:=h.at_ hq
 have hmin:min (((r:Nat):Int)).toNat 65536=r:=by rw[Int.toNat_natCast];omega
 have hcb':c<=9223372036854775807:=by simpa[maxLen]using hcb
 have EU:=zvY (ziH w (some (ad.add q)) (n - q) (c - q) (N/Bw^q) (r:Nat) (h.high (by omega)) (by omega) (by simp only[maxLen];omega) (by omega) (by omega))
 rw[hmin,HG]at EU
 have h1:(k:Int)/32=(q:Nat):=by omega
 have h2:(k:Int)%32=(r:Nat):=by omega
 clear h hk HG
 go_enter Tryz.func221,Tryz.ntmps221
 go_wp2_with fail
 refine EU.out.mono ?_
 rintro e w2 ⟨A2,c2,rfl,g1,g2,g3,g4⟩
 go_wp2
 go_ret
 exact⟨A2,c2,rfl,g1,g2,g3,g4⟩
theorem zim (w:World)(A:Option Addr)(n c N:Nat)(h:Rd w w.heap.size A n N)(hn:n<=1000000)(h0:N≠0)(hT:Tabs w):
  Calls Tryz.prog 217 #[.slice A n c] w fun e w'=>∃k:Nat,e= .returned (.int .i64 k)/\zjo N k/\k<32*n/\w=w':=by
 have HX:=zvY h.1
 have H0:=zvY h0
 clear h0
 go_enter Tryz.func217,Tryz.ntmps217
 go_wp2
 go_loop [3] (fun iv=>∃j:Nat,j<=n/\iv= .int .i64 j/\Hid (N%Bw^j=0)) (fun iv=>n - (intOf iv).toNat)
 case atStart=>exact⟨0,Nat.zero_le _,rfl,zvY (by simp[Nat.mod_one])⟩
 case round=>
  obtain⟨j,hj,rfl,hm⟩:=hrel
  have hlt:j<n:=by
   rcases zv6 j n with h1|h1
   ·exact h1
   ·obtain rfl:j=n:=by omega
    exact absurd (by rw[<-zbV HX.out];exact hm.out) H0.out
  obtain⟨ad,rfl,_,hc⟩:=h.at_ hlt
  by_cases hd:dig N j=0
  ·rw[hd]at hc
   have HM:=zvY (show N%Bw^(j+1)=0 by rw[zaQ,hm.out,hd,Nat.mul_zero])
   clear hd
   go_wp2
   go_round
   case rel=>exact⟨j+1,by omega,by go_num,HM⟩
   case measure=>simp[intOf];omega
  ·have hb:((dig N j:Int)==0)=false:=by rw[beq_eq_false_iff_ne];omega
   have hdl:=zav N j
   obtain⟨m,e,hk⟩:=zdV (n:=32) hd hdl
   have E:=zvY (zpe w (dig N j) hdl hd hT)
   generalize hcz:Lib.ctz 32 (dig N j)=s at*
   have HD:=zvY (show zjo N (32*j+s)from zky hm.out (q:=2*m+1) (Nat.div_eq_of_eq_mul_right (zv8 _) e) (by rw[e,Nat.mul_mod_right]) (by omega))
   clear hd e hcz
   generalize dig N j=d at*
   go_wp2_with fail
   refine E.out.mono ?_
   rintro e' w' ⟨rfl,rfl⟩
   go_wp2
   go_ret
   exact⟨32*j+s,by congr 1;refine zfR ?_;omega,HD.out,by omega,rfl⟩
theorem zj8 {N n j:Nat}(hj:j<n):dig (N%Bw^n) j=dig N j:=by
 have h:=ziw (N:=N) (s:=0) (k:=n) hj
 rwa [Nat.pow_zero,Nat.div_one,Nat.zero_add]at h
theorem zgC (g n:Nat):∀(vs:List Value) (o:Nat) (W:World) (o0:Nat),o0<=o->o+vs.length<=o0+n->Wrote g o0 n W (W.setCells g o vs)
 |[],_,_,_,_,_=>Wrote.refl
 |v::r,o,W,o0,h1,h2=>by
  have hl:(v::r).length=r.length+1:=rfl
  have e:o0+(o - o0)=o:=by omega
  have h:=(Wrote.refl (g:=g) (o:=o0) (n:=n) (W:=W)).set (p:=o - o0) (by omega) v
  rw[e]at h
  exact h.trans (zgC g n r (o+1) _ o0 (by omega) (by omega))
theorem zgD {W:World}{g o n L n' c sc N hi:Nat}{A:Option Addr}(hb:Part W g o L 0)(hL:n<=L)(h:Rd W hi A n' N)(hn:n'<=n)(hsc:n'<=sc):
  ∃W',(Builtin.append_ #[23,23] 23 #[.slice (some ⟨g,o,none⟩) 0 sc,.slice A n' c]).run Tryz.prog W= .ok (.slice (some ⟨g,o,none⟩) n' sc) W'/\
   Wrote g o n W W'/\Part W' g o n N/\W'=W.setCells g o (limbs N n'):=by
 obtain⟨i0,hi0,hz0,hz1,hz2⟩:=info_parts zbJ
 have hsrc:Go.Src Tryz.prog i0.size 23 (.slice A n' c) n' (limbs N n') W:=by
  rcases zv7 n' with h0|h0
  ·subst h0
   have e:limbs N 0=[]:=List.eq_nil_of_length_eq_zero (zat _ _)
   rw[e]
   rcases A with _|ad
   ·exact Go.Src.ofNil W Tryz.underlying23 c
   ·exact Go.Src.ofSlice W Tryz.underlying23 ad 0 c [] (by simp) (fun j u hu=>by simp at hu) (fun u hu=>by simp at hu)
  ·obtain⟨ad,rfl,_,hc⟩:=h.2 h0
   exact Go.Src.ofSlice W Tryz.underlying23 ad n' c (limbs N n') (by rw[zat,hz1,Nat.mul_one]) (fun j u hu=>by
    obtain⟨hj,rfl⟩:=zd0 hu
    exact hc j hj) zcg
 have hrun:=run_append_room_src W 23 23 23 92 i0 Tryz.underlying23 hi0 g o 0 sc (.slice A n' c) n' (limbs N n') hsrc (by omega)
  (fun j hj=>by
   rw[zat]at hj
   rw[Nat.zero_mul,Nat.add_zero,(hb j (by omega)).1];rfl)
  (fun j hj=>by
   rw[zat]at hj
   rw[Nat.zero_mul,Nat.add_zero];exact(hb j (by omega)).2)
 rw[Nat.zero_mul,Nat.add_zero,Nat.zero_add]at hrun
 refine⟨_,hrun,zgC g n _ o W o zv0 (by rw[zat];omega),fun j hj=>?_,rfl⟩
 refine⟨?_,by rw[World.frozen?_setCells];exact(hb j (by omega)).2⟩
 by_cases e1:j<n'
 ·have:=World.cell?_setCells_in g (limbs N n') o W (fun q hq=>by rw[zat]at hq;rw[(hb q (by omega)).1];rfl) j (by rw[zat];omega)
  rw[this]
  have h5:=zci (N:=N) e1
  rw[List.getElem?_eq_getElem (by rw[zat];omega)]at h5
  exact h5
 ·rw[World.cell?_setCells_out _ _ _ _ _ (fun _ _=> .inr (by rw[zat];simp only;omega)),(hb j (by omega)).1,zbI,zbN h.1 (by omega)]
def apart (a b:Nat):Nat:=(a - b)+(b - a)
theorem zdn {a b c:Nat}(h:a<=c)(h':b<=c):apart a b<=c:=by unfold apart;omega
theorem zin {a b:Nat}:(((a:Int) - b).natAbs)=apart a b:=by unfold apart;omega
def zhg (T A X:Nat):Prop:=A<T*X+T*2147483648/\T*X<A+T*2147483648/\(T*9223372036854775808<=A->9223372036854775808<=X)/\(A<T*2147483648->X<2147483648)/\X%2147483648=A%2147483648
theorem zj9 {p q L:Nat}(hp:p<=L)(hq:q<=L)(hne: ¬(p=L/\q=L))(hL:0<L):p*q<L*L:=by
 rcases zv6 p L with h|h
 ·exact zv4 (Nat.mul_le_mul_left p hq) (Nat.mul_lt_mul_of_pos_right h hL)
 ·have:q<L:=by omega
  exact zv4 (Nat.mul_le_mul_right q hp) (Nat.mul_lt_mul_of_pos_left this hL)
theorem zka {T A B X Y x y p1 q1 p2 q2:Nat}(hA:zhg T A X)(hB:zhg T B Y)(h:Core X Y 31 x y p1 q1 p2 q2)(h1:p1+q1<=2147483648)(h2:p2+q2<=2147483648)(hle:B<=A)(hbig:T*9223372036854775808<=A)(hB0:0<B)(hT:0<T):
  apart (p1*A) (q1*B)*apart (q2*B) (p2*A)<2147483648*2147483648*(A*B):=by
 obtain⟨d1,d2,d3⟩:=h
 rw[show(2:Nat)^31=2147483648 from rfl]at d1 d2 d3
 obtain⟨L,hL⟩:∃L,2147483648=L:=⟨_,rfl⟩
 have hL2:2<=L:=by omega
 have hAB:0<A*B:=Nat.mul_pos (by omega) hB0
 have hfirst:apart (p1*A) (q1*B)<=L*A:=zdn (Nat.mul_le_mul_right _ (by omega)) (zv2 (Nat.mul_le_mul_left _ hle) (Nat.mul_le_mul_right _ (by omega)))
 rcases zv6 (q2*B) (p2*A)with hc|hc
 ·have hp2:0<p2:=by
   rcases zv7 p2 with e|e
   ·subst e;omega
   ·exact e
  have hsecond:apart (q2*B) (p2*A)<L*(T*L):=by
   have e1:p2*A<p2*(T*X+T*L):=Nat.mul_lt_mul_of_pos_left (by rw[<-hL];exact hA.1) hp2
   have e2:q2*(T*Y)<=q2*(B+T*L):=Nat.mul_le_mul_left _ (by rw[<-hL];exact Nat.le_of_lt hB.2.1)
   have e3:q2*(T*Y)=T*(p2*X+L*y):=by rw[hL]at d3;rw[<-d3];ac_rfl
   have e4:T*(p2*X+L*y)=p2*(T*X)+T*(L*y):=by rw[Nat.mul_add];congr 1;ac_rfl
   have e5:(p2+q2)*(T*L)<=L*(T*L):=Nat.mul_le_mul_right _ (by omega)
   rw[Nat.mul_add]at e1 e2
   rw[Nat.add_mul]at e5
   unfold apart
   omega
  rcases zv6 B (T*L)with hb|hb
  ·exfalso
   have hY:=hB.2.2.2.1 (by rw[hL];exact hb)
   have hX:=hA.2.2.1 hbig
   have e1:q2*Y<=2147483648*2147483648:=Nat.mul_le_mul (by omega) (by omega)
   have e2:X<=p2*X:=Nat.le_mul_of_pos_left _ hp2
   omega
  ·rw[hL]
   calc apart (p1*A) (q1*B)*apart (q2*B) (p2*A)<=L*A*apart (q2*B) (p2*A):=Nat.mul_le_mul_right _ hfirst
    _<L*A*(L*(T*L)):=Nat.mul_lt_mul_of_pos_left hsecond (Nat.mul_pos (by omega) (by omega))
    _=L*L*(A*(T*L)):=by ac_rfl
    _<=L*L*(A*B):=Nat.mul_le_mul_left _ (Nat.mul_le_mul_left _ hb)
 ·have hsecond:apart (q2*B) (p2*A)<=q2*B:=zdn zv0 hc
  rw[hL]at d1 h1 h2 ⊢
  rcases zv6 (p1*A) (q1*B)with hd|hd
  ·have hf:apart (p1*A) (q1*B)<=q1*A:=zdn (zv2 (Nat.le_of_lt hd) (Nat.mul_le_mul_left _ hle)) (Nat.mul_le_mul_left _ hle)
   calc apart (p1*A) (q1*B)*apart (q2*B) (p2*A)<=q1*A*(q2*B):=Nat.mul_le_mul hf hsecond
    _=q1*q2*(A*B):=by ac_rfl
    _<L*L*(A*B):=Nat.mul_lt_mul_of_pos_right (zj9 (by omega) (by omega) (fun⟨e1,e2⟩=>by
     have:p1=0:=by omega
     subst this
     rw[Nat.zero_mul]at d1
     omega) (by omega)) hAB
  ·have hf:apart (p1*A) (q1*B)<=p1*A:=zdn zv0 hd
   calc apart (p1*A) (q1*B)*apart (q2*B) (p2*A)<=p1*A*(q2*B):=Nat.mul_le_mul hf hsecond
    _=p1*q2*(A*B):=by ac_rfl
    _<L*L*(A*B):=Nat.mul_lt_mul_of_pos_right (zj9 (by omega) (by omega) (fun⟨e1,e2⟩=>by
     have:q1=0:=by omega
     subst this
     rw[e1,e2,Nat.zero_mul,Nat.zero_add]at d1
     have:=Nat.mul_le_mul_right L hL2
     omega) (by omega)) hAB
structure Batch (A B:Nat) (fa fb sa sb:Int) (A' B':Nat):Prop where
 one:fa*A+fb*B=2147483648*(A':Int)\/fa*A+fb*B= -(2147483648*(A':Int))
 two:sa*A+sb*B=2147483648*(B':Int)\/sa*A+sb*B= -(2147483648*(B':Int))
 less:A'*B'<A*B
 small:A'<=max A B/\B'<=max A B
 odd:B'%2=1
 gcd:Nat.gcd A' B'=Nat.gcd A B
theorem zkb {A X:Nat}(h:X%2147483648=A%2147483648):∃α:Int,(A:Int)=X+2147483648*α:=⟨((A:Int) - X)/2147483648,by omega⟩
theorem zhh {T A B X Y x y p1 q1 p2 q2:Nat}(hA:zhg T A X)(hB:zhg T B Y)(h:Core X Y 31 x y p1 q1 p2 q2)(h1:p1+q1<=2147483648)(h2:p2+q2<=2147483648)(hbig:T*9223372036854775808<=A\/T*9223372036854775808<=B)(hA0:0<A)(hB0:0<B)(hT:0<T)(hy:y%2=1)(hp2:p2%2=0)(hq2:q2%2=0)(hD:Nat.gcd A B%2=1):
  ∃A' B',Batch A B (p1:Int) (-(q1:Int)) (-(p2:Int)) (q2:Int) A' B':=by
 have hless:apart (p1*A) (q1*B)*apart (q2*B) (p2*A)<2147483648*2147483648*(A*B):=by
  rcases Nat.le_total B A with hle|hle
  ·exact zka hA hB h h1 h2 hle (by omega) hB0 hT
  ·have:=zka hB hA h.swap (by omega) (by omega) hle (by omega) hA0 hT
   rw[Nat.mul_comm,Nat.mul_comm A B]
   exact this
 obtain⟨d1,d2,d3⟩:=h
 rw[show(2:Nat)^31=2147483648 from rfl]at d1 d2 d3
 obtain⟨α,hα⟩:=zkb hA.2.2.2.2
 obtain⟨β,hβ⟩:=zkb hB.2.2.2.2
 have i2:(p1:Int)*X=q1*Y+2147483648*x:=by have:=congrArg (fun z:Nat=>(z:Int)) d2;simpa using this
 have i3:(q2:Int)*Y=p2*X+2147483648*y:=by have:=congrArg (fun z:Nat=>(z:Int)) d3;simpa using this
 have z1:(p1:Int)*A+ -(q1:Int)*B=2147483648*(x+p1*α - q1*β):=by
  rw[hα,hβ,Int.mul_add,Int.mul_add,Int.mul_sub,Int.mul_add,i2,Int.neg_mul,Int.neg_mul]
  have e1:(p1:Int)*(2147483648*α)=2147483648*(p1*α):=by ac_rfl
  have e2:(q1:Int)*(2147483648*β)=2147483648*(q1*β):=by ac_rfl
  omega
 have z2: -(p2:Int)*A+(q2:Int)*B=2147483648*(y+q2*β - p2*α):=by
  rw[hα,hβ,Int.mul_add,Int.mul_add,Int.mul_sub,Int.mul_add,i3,Int.neg_mul,Int.neg_mul]
  have e1:(p2:Int)*(2147483648*α)=2147483648*(p2*α):=by ac_rfl
  have e2:(q2:Int)*(2147483648*β)=2147483648*(q2*β):=by ac_rfl
  omega
 obtain⟨u,hu⟩:∃u:Int,x+p1*α - q1*β=u:=⟨_,rfl⟩
 obtain⟨v,hv⟩:∃v:Int,y+q2*β - p2*α=v:=⟨_,rfl⟩
 rw[hu]at z1
 rw[hv]at z2
 have n1:2147483648*u.natAbs=apart (p1*A) (q1*B):=by
  rw[<-zin,Int.natCast_mul,Int.natCast_mul,<-show(p1:Int)*A+ -(q1:Int)*B=p1*A - q1*B by rw[Int.neg_mul];omega,z1,Int.natAbs_mul]
  rfl
 have n2:2147483648*v.natAbs=apart (q2*B) (p2*A):=by
  rw[<-zin,Int.natCast_mul,Int.natCast_mul,<-show -(p2:Int)*A+(q2:Int)*B=q2*B - p2*A by rw[Int.neg_mul];omega,z2,Int.natAbs_mul]
  rfl
 refine⟨u.natAbs,v.natAbs,⟨?_,?_,?_,⟨?_,?_⟩,?_,?_⟩⟩
 ·rw[z1];omega
 ·rw[z2];omega
 ·rw[<-n1,<-n2]at hless
  have e:2147483648*u.natAbs*(2147483648*v.natAbs)=2147483648*2147483648*(u.natAbs*v.natAbs):=by ac_rfl
  rw[e]at hless
  exact Nat.lt_of_mul_lt_mul_left hless
 ·have:=zdn (a:=p1*A) (b:=q1*B) (c:=2147483648*max A B) (Nat.mul_le_mul (by omega) (by omega)) (Nat.mul_le_mul (by omega) (by omega))
  omega
 ·have:=zdn (a:=q2*B) (b:=p2*A) (c:=2147483648*max A B) (Nat.mul_le_mul (by omega) (by omega)) (Nat.mul_le_mul (by omega) (by omega))
  omega
 ·obtain⟨a,ha⟩:∃a:Nat,p2=2*a:=⟨p2/2,by omega⟩
  obtain⟨b,hb⟩:∃b:Nat,q2=2*b:=⟨q2/2,by omega⟩
  have e1:(q2:Int)*β=2*(b*β):=by rw[hb,Int.natCast_mul,Int.mul_assoc];rfl
  have e2:(p2:Int)*α=2*(a*α):=by rw[ha,Int.natCast_mul,Int.mul_assoc];rfl
  omega
 ·apply Nat.dvd_antisymm
  ·have g1:((Nat.gcd u.natAbs v.natAbs:Nat):Int)∣u:=Int.dvd_natAbs.1 (Int.natCast_dvd_natCast.2 (Nat.gcd_dvd_left _ _))
   have g2:((Nat.gcd u.natAbs v.natAbs:Nat):Int)∣v:=Int.dvd_natAbs.1 (Int.natCast_dvd_natCast.2 (Nat.gcd_dvd_right _ _))
   have idet:(p1:Int)*q2=q1*p2+2147483648:=by have:=congrArg (fun z:Nat=>(z:Int)) d1;simpa using this
   have hs:∀z w:Int,z*(p1*A+ -(q1:Int)*B)+w*(-(p2:Int)*A+q2*B)=2147483648*(z*u+w*v):=fun z w=>by
    rw[z1,z2,Int.mul_add]
    congr 1 <;> ac_rfl
   have k1:(A:Int)=q2*u+q1*v:=by
    have:=hs q2 q1
    have e:(q2:Int)*(p1*A+ -(q1:Int)*B)+q1*(-(p2:Int)*A+q2*B)=(p1*q2 - q1*p2)*A:=by
     simp only[Int.mul_add,Int.sub_mul,Int.neg_mul,Int.mul_neg]
     have:(q2:Int)*(p1*A)=p1*q2*A:=by ac_rfl
     have:(q2:Int)*(q1*B)=q1*(q2*B):=by ac_rfl
     have:(q1:Int)*(p2*A)=q1*p2*A:=by ac_rfl
     omega
    rw[e,idet,show(q1:Int)*p2+2147483648 - q1*p2=2147483648 by omega]at this
    omega
   have k2:(B:Int)=p2*u+p1*v:=by
    have:=hs p2 p1
    have e:(p2:Int)*(p1*A+ -(q1:Int)*B)+p1*(-(p2:Int)*A+q2*B)=(p1*q2 - q1*p2)*B:=by
     simp only[Int.mul_add,Int.sub_mul,Int.neg_mul,Int.mul_neg]
     have:(p2:Int)*(p1*A)=p1*(p2*A):=by ac_rfl
     have:(p2:Int)*(q1*B)=q1*p2*B:=by ac_rfl
     have:(p1:Int)*(q2*B)=p1*q2*B:=by ac_rfl
     omega
    rw[e,idet,show(q1:Int)*p2+2147483648 - q1*p2=2147483648 by omega]at this
    omega
   apply Nat.dvd_gcd
   ·apply Int.natCast_dvd_natCast.1
    rw[k1]
    exact Int.dvd_add (Int.dvd_trans g1 (Int.dvd_mul_left _ _)) (Int.dvd_trans g2 (Int.dvd_mul_left _ _))
   ·apply Int.natCast_dvd_natCast.1
    rw[k2]
    exact Int.dvd_add (Int.dvd_trans g1 (Int.dvd_mul_left _ _)) (Int.dvd_trans g2 (Int.dvd_mul_left _ _))
  ·have hA':(Nat.gcd A B)∣2147483648*u.natAbs:=by
    apply Int.natCast_dvd_natCast.1
    rw[Int.natCast_mul]
    have:((Nat.gcd A B:Nat):Int)∣p1*A+ -(q1:Int)*B:=
     Int.dvd_add (Int.dvd_trans (Int.natCast_dvd_natCast.2 (Nat.gcd_dvd_left _ _)) (Int.dvd_mul_left _ _)) (Int.dvd_trans (Int.natCast_dvd_natCast.2 (Nat.gcd_dvd_right _ _)) (Int.dvd_mul_left _ _))
    rw[z1]at this
    have h3:=Int.dvd_natAbs.2 this
    rw[Int.natAbs_mul]at h3
    exact h3
   have hB':(Nat.gcd A B)∣2147483648*v.natAbs:=by
    apply Int.natCast_dvd_natCast.1
    rw[Int.natCast_mul]
    have:((Nat.gcd A B:Nat):Int)∣ -(p2:Int)*A+q2*B:=
     Int.dvd_add (Int.dvd_trans (Int.natCast_dvd_natCast.2 (Nat.gcd_dvd_left _ _)) (Int.dvd_mul_left _ _)) (Int.dvd_trans (Int.natCast_dvd_natCast.2 (Nat.gcd_dvd_right _ _)) (Int.dvd_mul_left _ _))
    rw[z2]at this
    have h3:=Int.dvd_natAbs.2 this
    rw[Int.natAbs_mul]at h3
    exact h3
   exact Nat.dvd_gcd ((zeV (k:=31) hD).1 hA') ((zeV (k:=31) hD).1 hB')
theorem zgE {A s:Nat}(hs:64<s):zhg (2^(s - 64)) A (A/2^(s - 33)*2147483648+A%2147483648):=by
 have e:2^(s - 33)=2^(s - 64)*2147483648:=by rw[show(2147483648:Nat)=2^31 from rfl,<-Nat.pow_add];congr 1;omega
 rw[e]
 obtain⟨T,hT⟩:∃T,2^(s - 64)=T:=⟨_,rfl⟩
 have hT0:0<T:=by rw[<-hT];exact zv8 _
 rw[hT]
 have h1:=Nat.mod_add_div A (T*2147483648)
 have h2:=Nat.mod_lt A (Nat.mul_pos hT0 (show 0<2147483648 by omega))
 obtain⟨h,hh⟩:∃h,A/(T*2147483648)=h:=⟨_,rfl⟩
 rw[hh]at h1 ⊢
 obtain⟨r,hr⟩:∃r,A%(T*2147483648)=r:=⟨_,rfl⟩
 rw[hr]at h1 h2
 obtain⟨l,hl⟩:∃l,A%2147483648=l:=⟨_,rfl⟩
 have hlb:l<2147483648:=by omega
 have hTl:T*l+T<=T*2147483648:=by rw[<-Nat.mul_succ];exact Nat.mul_le_mul_left _ hlb
 have hX:T*(h*2147483648+l)=T*2147483648*h+T*l:=by rw[Nat.mul_add];congr 1;ac_rfl
 rw[hl]
 refine⟨by omega,by omega,?_,?_,by omega⟩
 ·intro hb
  have:4294967296<=h:=by
   rw[<-hh,Nat.le_div_iff_mul_le (Nat.mul_pos hT0 (by omega))]
   have:4294967296*(T*2147483648)=T*9223372036854775808:=by rw[Nat.mul_left_comm]
   omega
  omega
 ·intro hb
  have:h=0:=by rw[<-hh];exact Nat.div_eq_of_lt hb
  subst this
  omega
theorem zlw {A B s x y:Nat}{fa fb sa sb:Int}(hs:64<s)(hbig:2^(s - 1)<=A\/2^(s - 1)<=B)(hA0:0<A)(hBo:B%2=1)
  (h:zh2 (A/2^(s - 33)*2147483648+A%2147483648) (B/2^(s - 33)*2147483648+B%2147483648) 31 x y fa fb sa sb (2^31)) (hsa:sa%2=0) (hsb:sb%2=0):
  ∃A' B' p q p' q',Batch A B fa fb sa sb A' B'/\((fa=(p:Nat)/\fb= -((q:Nat):Int))\/(fa= -(q:Int)/\fb=p))/\p<=2147483648/\q<=2147483648/\((sa=(p':Nat)/\sb= -((q':Nat):Int))\/(sa= -(q':Int)/\sb=p'))/\p'<=2147483648/\q'<=2147483648:=by
 obtain⟨hy,_,p1,q1,p2,q2,b1,b2,b3⟩:=h
 have hT0:0<2^(s - 64):=zv8 _
 have e63:2^(s - 1)=2^(s - 64)*9223372036854775808:=by rw[show(9223372036854775808:Nat)=2^63 from rfl,<-Nat.pow_add];congr 1;omega
 rw[e63]at hbig
 have hAs:=zgE (A:=A) hs
 have hBs:=zgE (A:=B) hs
 rw[show(2:Nat)^31=2147483648 from rfl]at b1 b2
 have hD:Nat.gcd A B%2=1:=by rw[Nat.gcd_comm];exact zjp hBo
 rcases b3 with⟨rfl,rfl,rfl,rfl,c⟩|⟨rfl,rfl,rfl,rfl,c⟩
 ·obtain⟨A',B',h⟩:=zhh hAs hBs c b1 b2 hbig hA0 (by omega) hT0 hy (by omega) (by omega) hD
  exact⟨A',B',p1,q1,q2,p2,h,.inl ⟨rfl,rfl⟩,by omega,by omega,.inr ⟨rfl,rfl⟩,by omega,by omega⟩
 ·obtain⟨A',B',h1,h2,h3,h4,h5,h6⟩:=zhh hBs hAs c b1 b2 (by omega) (by omega) hA0 hT0 hy (by omega) (by omega) (by rw[Nat.gcd_comm];exact hD)
  exact⟨A',B',p1,q1,q2,p2,⟨by rw[Int.add_comm];exact h1,by rw[Int.add_comm];exact h2,by rw[Nat.mul_comm A B];exact h3,by rw[Nat.max_comm];exact h4,h5,by rw[h6,Nat.gcd_comm]⟩,.inr ⟨rfl,rfl⟩,by omega,by omega,.inl ⟨rfl,rfl⟩,by omega,by omega⟩
section
attribute [local go_sem] Oper.semAt_some
def OddI (w W:World)(g n oa ona ob onb A X B Y:Nat):Prop:=(Part W g oa n A/\Part W g ona n X/\Part W g ob n B/\Part W g onb n Y)/\Below g w W/\g<W.heap.size
theorem OddI.drew {w W:World}{g n oa ona ob onb A X B Y:Nat}(h:OddI w W g n oa ona ob onb A X B Y)(q:Nat):OddI w (W.drewN q) g n oa ona ob onb A X B Y:=
 ⟨h.1,⟨h.2.1.os,h.2.1.tape,h.2.1.output,h.2.1.size,h.2.1.block⟩,h.2.2⟩
theorem OddI.below {w W W':World}{g n oa ona ob onb A X B Y:Nat}(h:OddI w W g n oa ona ob onb A X B Y)(hb:Below W.heap.size W W'):OddI w W' g n oa ona ob onb A X B Y:=
 ⟨⟨h.1.1.below hb h.2.2,h.1.2.1.below hb h.2.2,h.1.2.2.1.below hb h.2.2,h.1.2.2.2.below hb h.2.2⟩,h.2.1.trans (hb.mono (Nat.le_of_lt h.2.2)),zv3 h.2.2 hb.size⟩
theorem znF (w:World)(A1 A2:Option Addr)(n1 n2 c1 c2 N M m0:Nat)(h1:Rd w w.heap.size A1 n1 N)(h2:Rd w w.heap.size A2 n2 M)(_hc1:n1<=c1)(_hc2:n2<=c2)(hm1:c1<=maxLen)(hm2:c2<=maxLen)(hb1:n1<=1000000)(hb2:n2<=1000000)
  (ho:M%2=1) (hT:Tabs w) (hmax:(n1<n2/\m0=n2)\/(¬n1<n2/\m0=n1)) (hm0:0<m0):
  Calls Tryz.prog 220 #[.slice A1 n1 c1,.slice A2 n2 c2] w (Gives w (Nat.gcd N M)):=by
 have hc1':c1<=9223372036854775807:=by simpa[maxLen]using hm1
 have hc2':c2<=9223372036854775807:=by simpa[maxLen]using hm2
 have l1:n1<=m0:=by omega
 have l2:n2<=m0:=by omega
 have hmb:m0<=1000000:=by omega
 obtain⟨n4,h4⟩:∃n4,4*m0=n4:=⟨_,rfl⟩
 obtain⟨n3,h3⟩:∃n3,3*m0=n3:=⟨_,rfl⟩
 obtain⟨nn,h22⟩:∃nn,2*m0=nn:=⟨_,rfl⟩
 have i4:4*(m0:Int)=(n4:Int):=by omega
 have i3:3*(m0:Int)=(n3:Int):=by omega
 have i2:2*(m0:Int)=(nn:Int):=by omega
 have hmx:max (n1:Int) (n2:Int)=(m0:Int):=by omega
 have j1:n4<=4000000/\n3<=n4/\nn<=n3/\m0<=nn/\m0<=n4/\nn<=n4:=by omega
 obtain⟨j1,j2,j3,j4,j5,j6⟩:=j1
 have v2:IntKind.i64.wrap (nn:Int)=(nn:Int):=by rw[IntKind.wrap_i64];omega
 have v3:IntKind.i64.wrap (n3:Int)=(n3:Int):=by rw[IntKind.wrap_i64];omega
 have q1: ¬n4=m0:=by omega
 have q2: ¬n4=nn:=by omega
 have q3: ¬n4=n3:=by omega
 have q4:m0<=n4 - nn:=by omega
 have k1:nn - m0=m0:=by omega
 have k2:n4 - n3=m0:=by omega
 have k3:n3<=n4:=by omega
 have j7:nn<=4000000:=by omega
 have j8:n3<=4000000:=by omega
 have HMK:=zmF n4 (by omega) w
 have hb0:=zj7 w n4
 generalize hw1:w.alloc (.cells (zbR n4) 92)=w1 at*
 have HB1:Hid (Below w.heap.size w w1):=by rw[<-hw1];exact zvY ((Below.refl _ w).alloc zv0 _)
 have hsz:w.heap.size<w1.heap.size:=by rw[<-hw1];simp
 obtain⟨g,hg⟩:∃g,w.heap.size=g:=⟨_,rfl⟩
 rw[hg]at HMK hb0 hsz HB1
 have P1:Part w1 g 0 (nn) 0:=Part.of_buf hb0 (by omega) (fun j _=>by rw[zbI,zbI])
 have P2:Part w1 g nn (n4 - nn) 0:=Part.of_buf hb0 (by omega) (fun j _=>by rw[zbI,zbI])
 have HR1:=h1.below (hg▸HB1.out)
 have HR2:=h2.below (hg▸HB1.out)
 obtain⟨w2,hrun1,hW1,hP1,-⟩:=zgD (W:=w1.drew) (c:=c1) (n:=m0) P1 (by omega) HR1 l1 (sc:=n4) (by omega)
 have hQ1:=P1
 have HP2:Part w2 g nn (n4 - nn) 0:=Part.wrote (W:=w1.drew) P2 hW1 (by omega)
 have HX:Part w2 g m0 m0 0:=Part.wrote (W:=w1.drew) (Part.of_buf (n:=m0) (o:=m0) (N:=0) hb0 (by omega) (fun j _=>by rw[zbI,zbI])) hW1 (by omega)
 have HR2':Rd w2 w.heap.size A2 n2 M:=Rd.below (W:=w1.drew) HR2 (hg▸hW1.below zv0)
 obtain⟨w3,hrun2,hW2,hP2,-⟩:=zgD (W:=w2.drew) (c:=c2) (n:=m0) HP2 (by omega) HR2' l2 (sc:=n4 - nn) (by omega)
 have HA3:Part w3 g 0 m0 N:=Part.wrote (W:=w2.drew) hP1 hW2 (by omega)
 have HX3:Part w3 g m0 m0 0:=Part.wrote (W:=w2.drew) HX hW2 (by omega)
 have HY1:Part w1 g n3 m0 0:=Part.of_buf hb0 (by omega) (fun j _=>by rw[zbI,zbI])
 have HY2:Part w2 g n3 m0 0:=Part.wrote (W:=w1.drew) HY1 hW1 (by omega)
 have HY3:Part w3 g n3 m0 0:=Part.wrote (W:=w2.drew) HY2 hW2 (by omega)
 have HB3:Hid (Below g w w3):=zvY (((HB1.out.drew).trans (hW1.below zv0)).drew.trans (hW2.below zv0))
 have K1:=zvY HA3
 have K2:=zvY HX3
 have K3:=zvY hP2
 have K4:=zvY HY3
 have KR1:=zvY hrun1
 have KR2:=zvY hrun2
 have KN:=zvY h1.1
 have KM:=zvY h2.1
 have KO:=zvY ho
 have KG:=zvY hg
 clear HA3 HX3 hP2 HY3 HY1 HY2 hrun1 hrun2 h1 h2 ho hb0 P1 P2 HR1 HR2 HR2' hW1 hW2 hP1 hQ1 HP2 HX HB1 hw1 h4 h3 h22 hmax hm1 hm2
 go_enter Tryz.func220,Tryz.ntmps220
 go_wp2
 refine wp_region_any (by kernel_rfl) ?_
 change wpAny _ _ _ _ _ _ _ (World.drew _)
 refine wpAny_take (i:=0) (v:=_) rfl (by kernel_rfl) (by kernel_rfl) (by kernel_rfl) (fun _ _ _ h=>h) (Or.inl ⟨by rfl,fun w=>BigFrame.run_move (.tmp 6) rfl w⟩) ?_
 simp only[Act.eval,List.getElem_toArray,List.getElem_cons_zero,Act.put,List.setIfInBounds_toArray,List.set_cons_zero,List.set_cons_succ]
 refine wpAny_take (i:=1) (v:= .slice (some ⟨g,0,none⟩) 0 n4) rfl (by kernel_rfl) (by kernel_rfl) (by kernel_rfl) (fun _ _ _ h=>h) (Or.inl ⟨by rfl,fun w=>by go_simp⟩) ?_
 simp only[List.getElem_toArray,List.getElem_cons_succ,List.getElem_cons_zero,Act.put,List.setIfInBounds_toArray,List.set_cons_zero,List.set_cons_succ]
 refine wpAny_take (i:=2) (v:=_) rfl (by kernel_rfl) (by kernel_rfl) (by kernel_rfl) (fun _ _ _ h=>h) (Or.inl ⟨by rfl,fun w=>BigFrame.run_move (.tmp 0) rfl w⟩) ?_
 simp only[Act.eval,List.getElem_toArray,List.getElem_cons_succ,List.getElem_cons_zero,Act.put,List.setIfInBounds_toArray,List.set_cons_zero,List.set_cons_succ]
 refine wpAny_take (i:=4) (v:=_) rfl (by kernel_rfl) (by kernel_rfl) (by kernel_rfl) (fun _ _ _ h=>h) (Or.inl ⟨by rfl,fun w=>BigFrame.run_move (.tmp 5) rfl w⟩) ?_
 simp only[Act.eval,List.getElem_toArray,List.getElem_cons_succ,List.getElem_cons_zero,Act.put,List.setIfInBounds_toArray,List.set_cons_zero,List.set_cons_succ]
 refine wpAny_take (i:=6) (v:=_) rfl (by kernel_rfl) (by kernel_rfl) (by kernel_rfl) (fun _ _ _ h=>h) (Or.inl ⟨by rfl,fun w=>BigFrame.run_move (.tmp 6) rfl w⟩) ?_
 simp only[Act.eval,List.getElem_toArray,List.getElem_cons_succ,List.getElem_cons_zero,Act.put,List.setIfInBounds_toArray,List.set_cons_zero,List.set_cons_succ]
 refine wpAny_take (i:=7) (v:=_) rfl (by kernel_rfl) (by kernel_rfl) (by kernel_rfl) (fun _ _ _ h=>h) (Or.inl ⟨by rfl,fun w=>BigFrame.run_move (.tmp 5) rfl w⟩) ?_
 simp only[Act.eval,List.getElem_toArray,List.getElem_cons_succ,List.getElem_cons_zero,Act.put,List.setIfInBounds_toArray,List.set_cons_zero,List.set_cons_succ]
 refine wpAny_take (i:=8) (v:=_) rfl (by kernel_rfl) (by kernel_rfl) (by kernel_rfl) (fun _ _ _ h=>h) (Or.inl ⟨by rfl,fun w=>BigFrame.run_move (.tmp 5) rfl w⟩) ?_
 simp only[Act.eval,List.getElem_toArray,List.getElem_cons_succ,List.getElem_cons_zero,Act.put,List.setIfInBounds_toArray,List.set_cons_zero,List.set_cons_succ]
 refine wpAny_take (i:=9) (v:= .int .i64 (nn:Nat)) rfl (by kernel_rfl) (by kernel_rfl) (by kernel_rfl) (fun _ _ _ h=>h) (Or.inl ⟨by rfl,fun w=>by go_simp⟩) ?_
 simp only[List.getElem_toArray,List.getElem_cons_succ,List.getElem_cons_zero,Act.put,List.setIfInBounds_toArray,List.set_cons_zero,List.set_cons_succ]
 refine wpAny_take (i:=10) (v:= .slice (some ⟨g,m0,none⟩) m0 (n4 - m0)) rfl (by kernel_rfl) (by kernel_rfl) (by kernel_rfl) (fun _ _ _ h=>h) (Or.inl ⟨by rfl,fun w=>by go_simp⟩) ?_
 simp only[List.getElem_toArray,List.getElem_cons_succ,List.getElem_cons_zero,Act.put,List.setIfInBounds_toArray,List.set_cons_zero,List.set_cons_succ]
 refine wpAny_ready (rs:=[3]) (by kernel_rfl) (by simp) (AllReady.cons rfl (fun K hK=>?_) AllReady.nil)
 refine zdr rfl (.tmp 27) (.tmp 28) _ rfl rfl rfl KR1.out ?_
 refine hK _ _ ?_
 clear hK K
 try simp only[Act.put,List.setIfInBounds_toArray]
 refine wpAny_take (i:=5) (v:= .slice (some ⟨g,0,none⟩) m0 n4) rfl (by kernel_rfl) (by kernel_rfl) (by kernel_rfl) (fun _ _ _ h=>h) (Or.inl ⟨by rfl,fun w=>by go_simp⟩) ?_
 simp only[List.getElem_toArray,List.getElem_cons_succ,List.getElem_cons_zero,Act.put,List.setIfInBounds_toArray,List.set_cons_zero,List.set_cons_succ]
 refine wpAny_take (i:=11) (v:=_) rfl (by kernel_rfl) (by kernel_rfl) (by kernel_rfl) (fun _ _ _ h=>h) (Or.inl ⟨by rfl,fun w=>BigFrame.run_assign (.tmp 31) rfl w⟩) ?_
 simp only[Act.eval,List.getElem_toArray,List.getElem_cons_succ,List.getElem_cons_zero,Act.put,List.setIfInBounds_toArray,List.set_cons_zero]
 refine wpAny_take (i:=12) (v:=_) rfl (by kernel_rfl) (by kernel_rfl) (by kernel_rfl) (fun _ _ _ h=>h) (Or.inl ⟨by rfl,fun w=>BigFrame.run_assign (.tmp 36) rfl w⟩) ?_
 simp only[Act.eval,List.getElem_toArray,List.getElem_cons_succ,List.getElem_cons_zero,Act.put,List.setIfInBounds_toArray,List.set_cons_zero,List.set_cons_succ]
 refine wpAny_done (by kernel_rfl) ?_ _
 go_wp2
 refine wp_region_any (by kernel_rfl) ?_
 change wpAny _ _ _ _ _ _ _ (World.drew _)
 refine wpAny_take (i:=0) (v:=_) rfl (by kernel_rfl) (by kernel_rfl) (by kernel_rfl) (fun _ _ _ h=>h) (Or.inl ⟨by rfl,fun w=>BigFrame.run_move (.tmp 6) rfl w⟩) ?_
 simp only[Act.eval,List.getElem_toArray,List.getElem_cons_zero,Act.put,List.setIfInBounds_toArray,List.set_cons_zero,List.set_cons_succ]
 refine wpAny_take (i:=1) (v:=_) rfl (by kernel_rfl) (by kernel_rfl) (by kernel_rfl) (fun _ _ _ h=>h) (Or.inl ⟨by rfl,fun w=>BigFrame.run_move (.tmp 5) rfl w⟩) ?_
 simp only[Act.eval,List.getElem_toArray,List.getElem_cons_succ,List.getElem_cons_zero,Act.put,List.setIfInBounds_toArray,List.set_cons_zero,List.set_cons_succ]
 refine wpAny_take (i:=2) (v:= .int .i64 (nn:Nat)) rfl (by kernel_rfl) (by kernel_rfl) (by kernel_rfl) (fun _ _ _ h=>h) (Or.inl ⟨by rfl,fun w=>by go_simp⟩) ?_
 simp only[List.getElem_toArray,List.getElem_cons_succ,List.getElem_cons_zero,Act.put,List.setIfInBounds_toArray,List.set_cons_zero,List.set_cons_succ]
 refine wpAny_take (i:=3) (v:=_) rfl (by kernel_rfl) (by kernel_rfl) (by kernel_rfl) (fun _ _ _ h=>h) (Or.inl ⟨by rfl,fun w=>BigFrame.run_move (.tmp 5) rfl w⟩) ?_
 simp only[Act.eval,List.getElem_toArray,List.getElem_cons_succ,List.getElem_cons_zero,Act.put,List.setIfInBounds_toArray,List.set_cons_zero,List.set_cons_succ]
 refine wpAny_take (i:=4) (v:= .int .i64 (nn:Nat)) rfl (by kernel_rfl) (by kernel_rfl) (by kernel_rfl) (fun _ _ _ h=>h) (Or.inl ⟨by rfl,fun w=>by go_simp⟩) ?_
 simp only[List.getElem_toArray,List.getElem_cons_succ,List.getElem_cons_zero,Act.put,List.setIfInBounds_toArray,List.set_cons_zero,List.set_cons_succ]
 refine wpAny_take (i:=5) (v:= .slice (some ⟨g,nn,none⟩) 0 (n4 - nn)) rfl (by kernel_rfl) (by kernel_rfl) (by kernel_rfl) (fun _ _ _ h=>h) (Or.inl ⟨by rfl,fun w=>by go_simp⟩) ?_
 simp only[List.getElem_toArray,List.getElem_cons_succ,List.getElem_cons_zero,Act.put,List.setIfInBounds_toArray,List.set_cons_zero,List.set_cons_succ]
 refine wpAny_take (i:=6) (v:=_) rfl (by kernel_rfl) (by kernel_rfl) (by kernel_rfl) (fun _ _ _ h=>h) (Or.inl ⟨by rfl,fun w=>BigFrame.run_move (.tmp 1) rfl w⟩) ?_
 simp only[Act.eval,List.getElem_toArray,List.getElem_cons_succ,List.getElem_cons_zero,Act.put,List.setIfInBounds_toArray,List.set_cons_zero,List.set_cons_succ]
 refine wpAny_take (i:=8) (v:=_) rfl (by kernel_rfl) (by kernel_rfl) (by kernel_rfl) (fun _ _ _ h=>h) (Or.inl ⟨by rfl,fun w=>BigFrame.run_move (.tmp 5) rfl w⟩) ?_
 simp only[Act.eval,List.getElem_toArray,List.getElem_cons_succ,List.getElem_cons_zero,Act.put,List.setIfInBounds_toArray,List.set_cons_zero,List.set_cons_succ]
 refine wpAny_take (i:=10) (v:=_) rfl (by kernel_rfl) (by kernel_rfl) (by kernel_rfl) (fun _ _ _ h=>h) (Or.inl ⟨by rfl,fun w=>BigFrame.run_move (.tmp 6) rfl w⟩) ?_
 simp only[Act.eval,List.getElem_toArray,List.getElem_cons_succ,List.getElem_cons_zero,Act.put,List.setIfInBounds_toArray,List.set_cons_zero,List.set_cons_succ]
 refine wpAny_take (i:=11) (v:=_) rfl (by kernel_rfl) (by kernel_rfl) (by kernel_rfl) (fun _ _ _ h=>h) (Or.inl ⟨by rfl,fun w=>BigFrame.run_move (.tmp 5) rfl w⟩) ?_
 simp only[Act.eval,List.getElem_toArray,List.getElem_cons_succ,List.getElem_cons_zero,Act.put,List.setIfInBounds_toArray,List.set_cons_zero,List.set_cons_succ]
 refine wpAny_take (i:=12) (v:= .int .i64 (n3:Nat)) rfl (by kernel_rfl) (by kernel_rfl) (by kernel_rfl) (fun _ _ _ h=>h) (Or.inl ⟨by rfl,fun w=>by go_simp⟩) ?_
 simp only[List.getElem_toArray,List.getElem_cons_succ,List.getElem_cons_zero,Act.put,List.setIfInBounds_toArray,List.set_cons_zero,List.set_cons_succ]
 refine wpAny_take (i:=13) (v:= .slice (some ⟨g,n3,none⟩) m0 m0) rfl (by kernel_rfl) (by kernel_rfl) (by kernel_rfl) (fun _ _ _ h=>h) (Or.inl ⟨by rfl,fun w=>by go_simp⟩) ?_
 simp only[List.getElem_toArray,List.getElem_cons_succ,List.getElem_cons_zero,Act.put,List.setIfInBounds_toArray,List.set_cons_zero,List.set_cons_succ]
 refine wpAny_ready (rs:=[7]) (by kernel_rfl) (by simp) (AllReady.cons rfl (fun K hK=>?_) AllReady.nil)
 refine zdr rfl (.tmp 42) (.tmp 43) _ rfl rfl rfl KR2.out ?_
 refine hK _ _ ?_
 clear hK K
 try simp only[Act.put,List.setIfInBounds_toArray]
 refine wpAny_take (i:=9) (v:= .slice (some ⟨g,nn,none⟩) m0 (n4 - nn)) rfl (by kernel_rfl) (by kernel_rfl) (by kernel_rfl) (fun _ _ _ h=>h) (Or.inl ⟨by rfl,fun w=>by go_simp⟩) ?_
 simp only[List.getElem_toArray,List.getElem_cons_succ,List.getElem_cons_zero,Act.put,List.setIfInBounds_toArray,List.set_cons_zero,List.set_cons_succ]
 refine wpAny_take (i:=14) (v:=_) rfl (by kernel_rfl) (by kernel_rfl) (by kernel_rfl) (fun _ _ _ h=>h) (Or.inl ⟨by rfl,fun w=>BigFrame.run_assign (.tmp 46) rfl w⟩) ?_
 simp only[Act.eval,List.getElem_toArray,List.getElem_cons_succ,List.getElem_cons_zero,Act.put,List.setIfInBounds_toArray,List.set_cons_zero,List.set_cons_succ]
 refine wpAny_take (i:=15) (v:=_) rfl (by kernel_rfl) (by kernel_rfl) (by kernel_rfl) (fun _ _ _ h=>h) (Or.inl ⟨by rfl,fun w=>BigFrame.run_assign (.tmp 50) rfl w⟩) ?_
 simp only[Act.eval,List.getElem_toArray,List.getElem_cons_succ,List.getElem_cons_zero,Act.put,List.setIfInBounds_toArray,List.set_cons_zero,List.set_cons_succ]
 refine wpAny_done (by kernel_rfl) ?_ _
 go_wp2
 go_loopg [0,1,5,7,8] (N*M) (fun k av bv nv xv yv wr=>∃(n A B X Y oa ona ob onb ca cna cb cnb:Nat),av= .slice (some ⟨g,oa,none⟩) n ca/\bv= .slice (some ⟨g,ob,none⟩) n cb/\nv= .int .i64 n/\xv= .slice (some ⟨g,ona,none⟩) n cna/\yv= .slice (some ⟨g,onb,none⟩) n cnb/\
  (0<n/\n<=m0)/\(n<=ca/\ca<=n4)/\(n<=cna/\cna<=n4)/\(n<=cb/\cb<=n4)/\(n<=cnb/\cnb<=n4)/\Hid ((oa=0/\ona=m0)\/(oa=m0/\ona=0))/\Hid ((ob=nn/\onb=n3)\/(ob=n3/\onb=nn))/\
  Hid (Part wr g oa n A/\Part wr g ona n X/\Part wr g ob n B/\Part wr g onb n Y)/\Hid (A<Bw^n/\X<Bw^n/\B<Bw^n/\Y<Bw^n)/\Hid (B%2=1/\Nat.gcd A B=Nat.gcd N M/\A*B=k)/\Hid (Below g w wr))
 case atStart=>
  exact⟨m0,N,M,0,0,0,m0,nn,n3,n4,n4 - m0,n4 - nn,m0,rfl,rfl,rfl,rfl,rfl,⟨hm0,Nat.le_refl _⟩,⟨j5,Nat.le_refl _⟩,⟨by omega,by omega⟩,⟨q4,by omega⟩,⟨Nat.le_refl _,by omega⟩,zvY (.inl ⟨rfl,rfl⟩),zvY (.inl ⟨rfl,rfl⟩),
   zvY ⟨K1.out,K2.out,K3.out,K4.out⟩,zvY ⟨zv3 KN.out (zv5 zb9 l1),zag _,zv3 KM.out (zv5 zb9 l2),zag _⟩,zvY ⟨KO.out,rfl,rfl⟩,HB3⟩
 case round=>
  clear K1 K2 K3 K4 KR1 KR2 HB3 HMK
  obtain⟨n,A,B,X,Y,oa,ona,ob,onb,ca,cna,cb,cnb,rfl,rfl,rfl,rfl,rfl,⟨n0,nm⟩,⟨ca1,ca2⟩,⟨cna1,cna2⟩,⟨cb1,cb2⟩,⟨cnb1,cnb2⟩,HOA,HOB,HP,HL,HI,HB⟩:=hrel
  have hgw:g<wr.heap.size:=HP.out.1.lt n0
  have RA:=HP.out.1.rd (p:=wr.heap.size) HL.out.1 hgw
  have RB:=HP.out.2.2.1.rd (p:=wr.heap.size) HL.out.2.2.1 hgw
  have cam:ca<=maxLen:=by simp only[maxLen];omega
  have cbm:cb<=maxLen:=by simp only[maxLen];omega
  have EBA:=zvY (zcF wr _ _ n ca A RA ca1 cam)
  have EBB:=zvY (zcF wr _ _ n cb B RB cb1 cbm)
  obtain⟨bA,hbA⟩:∃bA,bitsN A=bA:=⟨_,rfl⟩
  obtain⟨bB,hbB⟩:∃bB,bitsN B=bB:=⟨_,rfl⟩
  rw[hbA]at EBA
  rw[hbB]at EBB
  have hbA2:bA<=32*n:=by rw[<-hbA,zaH,<-zbo];exact HL.out.1
  have hbB2:bB<=32*n:=by rw[<-hbB,zaH,<-zbo];exact HL.out.2.2.1
  obtain⟨sz,hsz2⟩:∃sz,max bA bB=sz:=⟨_,rfl⟩
  have hmx2:max (bA:Int) (bB:Int)=(sz:Int):=by omega
  have hszb:sz<=32*n:=by omega
  have RA:=zvY RA
  have RB:=zvY RB
  by_cases hA0:A=0
  ·have hb0:bA=0:=by rw[<-hbA,hA0];rfl
   have hD:=zvY (show B=Nat.gcd N M by have:=HI.out.2.1;rw[hA0,Nat.gcd_zero_left]at this;exact this)
   have ET:=zvY (zc1 wr _ n cb B RB.out cb1 cbm)
   subst hb0
   clear hbA hbB hsz2
   go_wp2_with (first
    |(go_at_call 119;(with_reducible refine EBA.out.mono ?_);rintro e' w' ⟨rfl,rfl⟩)
    |(go_at_call 119;(with_reducible refine EBB.out.mono ?_);rintro e' w' ⟨rfl,rfl⟩)
    |(go_at_call 155;refine ET.out.mono ?_;rintro e' w' ⟨A9,c9,rfl,g1,g2,g3,g4⟩;replace g3:=zvY g3;replace g4:=zvY g4))
   go_ret
   have hB9:Below w.heap.size w w':=by rw[KG.out];exact HB.out.trans (g4.out.mono (by omega))
   rw[<-hD.out]
   exact⟨A9,c9,rfl,g1,g2,g3.out.from (by rw[KG.out];omega),hB9⟩
  by_cases hs64:sz<=64
  ·have hAs:A<18446744073709551616:=by
    have:=(zaH (N:=A) (k:=64)).1 (by omega)
    exact this
   have hBs:B<18446744073709551616:=by
    have:=(zaH (N:=B) (k:=64)).1 (by omega)
    exact this
   have ca3:ca<=9223372036854775807:=by omega
   have cb3:cb<=9223372036854775807:=by omega
   have ESA:=zvY (zcW wr _ _ n ca A RA.out ca1 ca3 hAs)
   have ESB:=zvY (zcW wr _ _ n cb B RB.out cb1 cb3 hBs)
   have hTw:=zvY (hT.keep (by rw[KG.out];exact HB.out))
   have EW:=zvY (zex wr A B hAs hBs hTw.out)
   rw[HI.out.2.1]at EW
   have hDs:Nat.gcd N M<18446744073709551616:=by rw[<-HI.out.2.1];exact zv4 (Nat.gcd_le_left B (by omega)) hAs
   have EO:=zvY (zgf wr (Nat.gcd N M) hDs)
   have hbA0: ¬bA=0:=by
    intro h
    rw[h]at hbA
    have:=(zaH (N:=A) (k:=0)).1 (by omega)
    omega
   obtain⟨D,hD⟩:∃D,Nat.gcd N M=D:=⟨_,rfl⟩
   rw[hD]at EW EO hDs ⊢
   clear hbA hbB hsz2 hA0
   go_wp2_with (first
    |(go_at_call 119;(with_reducible refine EBA.out.mono ?_);rintro e' w' ⟨rfl,rfl⟩)
    |(go_at_call 119;(with_reducible refine EBB.out.mono ?_);rintro e' w' ⟨rfl,rfl⟩)
    |(go_at_call 192;(with_reducible refine ESA.out.mono ?_);rintro e' w' ⟨rfl,rfl⟩)
    |(go_at_call 192;(with_reducible refine ESB.out.mono ?_);rintro e' w' ⟨rfl,rfl⟩)
    |(go_at_call 193;(with_reducible refine EW.out.mono ?_);rintro e' w' ⟨rfl,rfl⟩)
    |(go_at_call 85;refine EO.out.mono ?_;rintro e' w' ⟨A9,c9,rfl,g1,g2,g3,g4⟩;replace g3:=zvY g3;replace g4:=zvY g4))
   go_ret
   have hB9:Below w.heap.size w w':=by rw[KG.out];exact HB.out.trans (g4.out.mono (by omega))
   exact⟨A9,c9,rfl,g1,g2,g3.out.from (by rw[KG.out];omega),hB9⟩
  obtain⟨n',hn'⟩:∃n',(sz+31)/32=n':=⟨_,rfl⟩
  have hd1:((sz:Int)+31)/32=(n':Int):=by omega
  have hd2:((sz:Int)+32 - 1)/32=(n':Int):=by omega
  have hnn:n'<=n/\0<n'/\sz<=32*n':=by omega
  obtain⟨hn1,hn2,hn3⟩:=hnn
  have hAz:A<2^sz:=zaH.1 (by omega)
  have hBz:B<2^sz:=zaH.1 (by omega)
  have hbig:2^(sz - 1)<=A\/2^(sz - 1)<=B:=by
   rcases zv6 A (2^(sz - 1))with h1|h1
   ·rcases zv6 B (2^(sz - 1))with h2|h2
    ·have e1:=zaH.2 h1
     have e2:=zaH.2 h2
     omega
    ·exact .inr h2
   ·exact .inl h1
  have hpw:2^sz<=Bw^n':=by rw[zbo];exact zv5 (by omega) hn3
  have hbA0: ¬bA=0:=by
   intro h
   rw[h]at hbA
   have:=(zaH (N:=A) (k:=0)).1 (by omega)
   omega
  have HS:=zvY (show 64<sz/\A<2^sz/\B<2^sz/\(2^(sz - 1)<=A\/2^(sz - 1)<=B)/\2^sz<=Bw^n' from⟨by omega,hAz,hBz,hbig,hpw⟩)
  obtain⟨X',XL,PX⟩:∃X',X'<Bw^n'/\Part wr g ona n' X':=⟨X%Bw^n',Nat.mod_lt _ (zag n'),(HP.out.2.1.down hn1).eqv fun j hj=>zj8 hj⟩
  obtain⟨Y',YL,PY⟩:∃Y',Y'<Bw^n'/\Part wr g onb n' Y':=⟨Y%Bw^n',Nat.mod_lt _ (zag n'),(HP.out.2.2.2.down hn1).eqv fun j hj=>zj8 hj⟩
  have HO:=zvY (show OddI w wr g n' oa ona ob onb A X' B Y' from⟨⟨HP.out.1.down hn1,PX,HP.out.2.2.1.down hn1,PY⟩,HB.out,hgw⟩)
  have hA0':0<A:=by omega
  have XY:=zvY (And.intro XL YL)
  clear hbA hbB hsz2 hA0 hAz hBz hbig hpw HP HL HB RA RB XL YL PX PY hn'
  refine wp_block ?_
  refine wp_seq_k fun K5 h5=>?_
  replace h5:=zvY h5
  go_wp2_with (first
   |(go_at_call 119;(with_reducible refine EBA.out.mono ?_);rintro e' w' ⟨rfl,rfl⟩)
   |(go_at_call 119;(with_reducible refine EBB.out.mono ?_);rintro e' w' ⟨rfl,rfl⟩))
  refine h5.out _ _ ?_
  clear h5
  refine wp_seq_k fun K6 h6=>?_
  replace h6:=zvY h6
  go_wp2_with (fail)
  refine h6.out _ _ ?_
  clear h6
  refine wp_seq_k fun K7 h7=>?_
  replace h7:=zvY h7
  go_wp2_with (fail)
  refine h7.out _ _ ?_
  clear h7
  refine wp_seq_k fun K13 h13=>?_
  replace h13:=zvY h13
  go_wp2_with (fail)
  refine h13.out _ _ ?_
  clear h13
  refine wp_seq_k fun K14 h14=>?_
  replace h14:=zvY h14
  go_quiet (fail)
  go_wp2_with fail
  refine h14.out _ _ ?_
  clear h14
  have HO1:=zvY (HO.out.drew nq)
  have n1b:n'<=1000000000:=by omega
  have ca4:n'<=ca:=by omega
  have cb4:n'<=cb:=by omega
  have cna4:n'<=cna:=by omega
  have cnb4:n'<=cnb:=by omega
  have cnam:cna<=maxLen:=by simp only[maxLen];omega
  have cnbm:cnb<=maxLen:=by simp only[maxLen];omega
  have hAn:A<Bw^n':=zv3 HS.out.2.1 HS.out.2.2.2.2
  have hBn:B<Bw^n':=zv3 HS.out.2.2.1 HS.out.2.2.2.2
  have EWA:=zvY (fun(W:World) (h:OddI w W g n' oa ona ob onb A X' B Y')=>zj5 W (g+1) g oa n' ca A sz (h.1.1.rd hAn (by omega)) ca4 cam HS.out.1 hn3 HS.out.2.1 n1b)
  have EWB:=zvY (fun(W:World) (h:OddI w W g n' oa ona ob onb A X' B Y')=>zj5 W (g+1) g ob n' cb B sz (h.1.2.2.1.rd hBn (by omega)) cb4 cbm HS.out.1 hn3 HS.out.2.2.1 n1b)
  have wlt:∀N,N<2^sz->wordN N sz<18446744073709551616:=fun N h=>by
   have:N/2^(sz - 33)<8589934592:=by
    rw[Nat.div_lt_iff_lt_mul (zv8 _),show(8589934592:Nat)=2^33 from rfl,<-Nat.pow_add]
    exact zv3 h (zv5 (by omega) (by omega))
   unfold wordN
   omega
  have wodd:wordN B sz%2=1:=by
   have:=HI.out.1
   unfold wordN
   omega
  have EH:=zvY (fun(W:World) (h:OddI w W g n' oa ona ob onb A X' B Y')=>zi2 W (wordN A sz) (wordN B sz) (wlt A HS.out.2.1) (wlt B HS.out.2.2.1) wodd (hT.keep (by rw[KG.out];exact h.2.1)))
  generalize wr.drewN nq=W1 at*
  clear HO hAn hBn wlt wodd
  refine wp_seq_k fun K15 h15=>?_
  replace h15:=zvY h15
  go_wp2_with fail
  refine(EWA.out _ HO1.out).mono ?_
  rintro e' w' ⟨rfl,q5,rfl⟩
  have HO2:=zvY (HO1.out.drew q5)
  generalize W1.drewN q5=W2 at*
  go_wp2_with fail
  refine(EWB.out _ HO2.out).mono ?_
  rintro e' w' ⟨rfl,q6,rfl⟩
  have HO3:=zvY (HO2.out.drew q6)
  generalize W2.drewN q6=W3 at*
  go_wp2_with fail
  refine(EH.out _ HO3.out).mono ?_
  rintro e' W4 ⟨x,y,fa,fb,sa,sb,rfl,hHf,hsa,hsb,hb4⟩
  have HO4:=zvY (HO3.out.below hb4)
  have HHF:=zvY (And.intro hHf (And.intro hsa hsb))
  clear hHf hsa hsb hb4
  go_wp2_with fail
  refine h15.out _ _ ?_
  clear h15
  have P1:=zvY ((Pair.new (W:=W4) (a:=fa) (b:=fb) 220 rfl).alloc (by simp) (.cells #[.int .i64 sa,.int .i64 sb] 220))
  have P2:=zvY (Pair.new (W:=W4.alloc (.cells #[.int .i64 fa,.int .i64 fb] 220)) (g:=W4.heap.size+1) (a:=sa) (b:=sb) 220 (by simp))
  have HO5:=zvY ((HO4.out.below ((Below.refl _ W4).alloc zv0 (.cells #[.int .i64 fa,.int .i64 fb] 220))).below (zv1.alloc zv0 (.cells #[.int .i64 sa,.int .i64 sb] 220)))
  have hs5:W4.heap.size+2<=((W4.alloc (.cells #[.int .i64 fa,.int .i64 fb] 220)).alloc (.cells #[.int .i64 sa,.int .i64 sb] 220)).heap.size:=by simp
  have hg4:=HO4.out.2.2
  generalize hW5:(W4.alloc _).alloc _=W5 at*
  clear hW5
  obtain⟨bx,hbx⟩:∃bx,W4.heap.size=bx:=⟨_,rfl⟩
  rw[hbx]at P1 P2 hs5 hg4
  obtain⟨A',B',p,q,p',q',hBt,s1,s2,s3,s4,s5,s6⟩:=zlw HS.out.1 HS.out.2.2.2.1 hA0' HI.out.1 HHF.out.1 HHF.out.2.1 HHF.out.2.2
  have hlA:A'<Bw^n'/\B'<Bw^n':=by
   have h1:=hBt.small
   have h2:=HS.out.2.1
   have h3:=HS.out.2.2.1
   have h4:=HS.out.2.2.2.2
   omega
  have hAn:A<Bw^n':=zv3 HS.out.2.1 HS.out.2.2.2.2
  have hBn:B<Bw^n':=zv3 HS.out.2.2.1 HS.out.2.2.2.2
  have dis:(ona+n'<=oa\/oa+n'<=ona)/\(ona+n'<=ob\/ob+n'<=ona)/\(onb+n'<=oa\/oa+n'<=onb)/\(onb+n'<=ob\/ob+n'<=onb)/\(ona+n'<=onb\/onb+n'<=ona):=by
   have h1:=HOA.out
   have h2:=HOB.out
   omega
  obtain⟨dis1,dis2,dis3,dis4,dis5⟩:=dis
  have c1:=P1.out.1
  have c2:=P1.out.2.1
  have EM1:=zvY (zmE W5 g ona oa ob n' cna ca cb A B X' A' p q fa fb HO5.out.1.2.1 HO5.out.1.1 HO5.out.1.2.2.1 XY.out.1 hAn hBn dis1 dis2 hn2 cna4 cnam ca4 cam cb4 cbm ⟨s1,s2,s3⟩ hlA.1 hBt.one n' n' n' zv0 cna4 zv0 cb4)
  refine wp_seq_k fun K16 h16=>?_
  replace h16:=zvY h16
  go_wp2_with fail
  refine EM1.out.mono ?_
  rintro e' W6 ⟨rfl,hw6,hp6⟩
  have Q1:=hp6
  have Q2:=HO5.out.1.1.wrote hw6 (by omega)
  have Q3:=HO5.out.1.2.2.1.wrote hw6 (by omega)
  have Q4:=HO5.out.1.2.2.2.wrote hw6 (by omega)
  have c3:W6.cell? ⟨bx+1,0,none⟩=some (.int .i64 sa):=(hw6.cell (a:=⟨bx+1,0,none⟩) (by simp;omega) (by simp;omega)).trans P2.out.1
  have c4:W6.cell? ⟨bx+1,1,none⟩=some (.int .i64 sb):=(hw6.cell (a:=⟨bx+1,1,none⟩) (by simp;omega) (by simp;omega)).trans P2.out.2.1
  have EM2:=zvY (zmE W6 g onb oa ob n' cnb ca cb A B Y' B' p' q' sa sb Q4 Q2 Q3 XY.out.2 hAn hBn dis3 dis4 hn2 cnb4 cnbm ca4 cam cb4 cbm ⟨s4,s5,s6⟩ hlA.2 hBt.two n' n' n' zv0 cnb4 zv0 cb4)
  have HQ:=zvY (And.intro Q1 (And.intro Q2 Q3))
  have HB6:=zvY (HO5.out.2.1.trans (hw6.below zv0))
  have HBT:=zvY hBt
  have HLA:=zvY hlA
  have HAB:=zvY (And.intro hAn hBn)
  clear Q1 Q2 Q3 Q4 hw6 hp6 hBt hlA hAn hBn EM1 s1 s4 c1 c2
  go_wp2_with fail
  refine h16.out _ _ ?_
  clear h16
  refine wp_seq_k fun K17 h17=>?_
  replace h17:=zvY h17
  go_wp2_with fail
  refine EM2.out.mono ?_
  rintro e' W7 ⟨rfl,hw7,hp7⟩
  have HQ7:=zvY (show Part W7 g ona n' A'/\Part W7 g oa n' A/\Part W7 g onb n' B'/\Part W7 g ob n' B from⟨HQ.out.1.wrote hw7 (by omega),HQ.out.2.1.wrote hw7 (by omega),hp7,HQ.out.2.2.wrote hw7 (by omega)⟩)
  have HB7:=zvY (HB6.out.trans (hw7.below zv0))
  clear hw7 hp7 c3 c4 EM2
  go_wp2_with fail
  refine h17.out _ _ ?_
  clear h17
  go_wp2_with fail
  have HN:=zvY (show B'%2=1/\Nat.gcd A' B'=Nat.gcd N M/\A'*B'=A'*B' from⟨HBT.out.odd,HBT.out.gcd.trans HI.out.2.1,rfl⟩)
  go_roundg (A'*B')
  case rel=>exact⟨n',A',B',A,B,ona,oa,onb,ob,cna,ca,cnb,cb,rfl,rfl,rfl,rfl,rfl,⟨hn2,by omega⟩,⟨cna4,cna2⟩,⟨ca4,ca2⟩,⟨cnb4,cnb2⟩,⟨cb4,cb2⟩,zvY (HOA.out.symm.imp And.symm And.symm),zvY (HOB.out.symm.imp And.symm And.symm),HQ7,zvY ⟨HLA.out.1,HAB.out.1,HLA.out.2,HAB.out.2⟩,HN,HB7⟩
  case measure=>have h1:=HI.out.2.2;have h2:=HBT.out.less;omega
end
end Go.Proofs.YtipckjmgdghkiaaGreatDoor
