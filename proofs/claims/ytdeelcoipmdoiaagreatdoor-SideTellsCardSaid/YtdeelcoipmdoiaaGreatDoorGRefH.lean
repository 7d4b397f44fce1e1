/- Contract of nat.Small. -/
import Derived.Test.YtdeelcoipmdoiaaGreatDoorGNatA
import Derived.Test.YtdeelcoipmdoiaaGreatDoorGRefC
import Derived.Test.YtdeelcoipmdoiaaGreatDoorGRefB
set_option maxHeartbeats 8000000
set_option maxRecDepth 100000
namespace Go.Proofs.YtdeelcoipmdoiaaGreatDoor
open Go Go.RowKit
theorem zew (w:World)(hi:Nat)(A:Option Addr)(n c N:Nat)(h:Rd w hi A n N)(hn:n≤c)(hc:c≤9223372036854775807)(hN: ¬N<18446744073709551616):
  Calls Tryz.prog 142 #[.slice A n c] w fun e w'=>e= .returned (.tuple #[.int .u64 0,.bool false])∧w=w':=by
 have hl:=zai.2 h.1
 have h2:2<lenL N:=by rw[←zbP]at hN;omega
 clear hN
 go_enter Tryz.func142,Tryz.ntmps142
 go_wp2_with (go_at_call 100;refine(zdv _ _ A n c N h hn (by omega)).mono ?_;rintro e w' ⟨rfl,rfl⟩)
 go_ret2
 exact⟨rfl,rfl⟩
theorem zcU (w:World)(hi:Nat)(A:Option Addr)(n c N:Nat)(h:Rd w hi A n N)(hn:n≤c)(hc:c≤9223372036854775807)(hN:N<18446744073709551616):
  Calls Tryz.prog 142 #[.slice A n c] w fun e w'=>e= .returned (.tuple #[.int .u64 N,.bool true])∧w=w':=by
 have hl:=zai.2 h.1
 have h2:lenL N≤2:=zbP.2 hN
 have hd0:=zau N 0
 have hd1:=zau N 1
 have hv:=zuZ (znl (zai.1 h2))
 clear hN
 go_enter Tryz.func142,Tryz.ntmps142
 go_wp2_with (first
  |(go_at_call 100;refine(zdv _ _ A n c N h hn (by omega)).mono ?_;rintro e w' ⟨rfl,rfl⟩)
  |(go_at_call 131;refine(zdX _ _ _ _ _ _ h.cut _ (by omega)).mono ?_;rintro e w' ⟨rfl,rfl⟩;simp only[Int.toNat_one,Int.toNat_zero]))
 rw[zpg hd1 hd0,hv.out]
 go_ret2
 exact⟨rfl,rfl⟩
theorem zjv (w:World)(N:Nat)(h:N<18446744073709551616):
  Calls Tryz.prog 79 #[.int .u64 N] w (Gives w N):=by
 have H:=zuZ (zhb h)
 go_enter Tryz.func79,Tryz.ntmps79
 go_wp2_with fail
 have hF:Fr (w.alloc (Obj.cells #[Value.int IntKind.u32 (↑N%4294967296),Value.int IntKind.u32 (↑N/4294967296)] 77)) w.heap.size (w.heap.size+1) (some ⟨w.heap.size,0,none⟩) 2 N:=
  Fr.lit zu1 H.out.1 H.out.2
 refine(zbp _ _ 2 2 N (by simpa using hF.rd) (by omega) (by simp[maxLen]) (by omega)).mono ?_
 intro e w' hgv
 obtain⟨A,c,rfl,h1,h2,h3,h4⟩:=hgv.alloc
 go_wp2
 go_ret
 exact⟨A,c,rfl,h1,h2,h3,h4⟩
def hiN (N s:Nat):Nat:=N/Bw^s
theorem zqx (N:Nat):hiN N 0=N:=by simp[hiN]
theorem zrZ (N:Nat):hiN N (lenL N)=0:=Nat.div_eq_of_lt (zaE N)
theorem ztv (N s:Nat):hiN N s≤N:=Nat.div_le_self _ _
theorem zqy {N j:Nat}:hiN N (j+1)*4294967296+dig N j=hiN N j:=by
 unfold dig hiN
 rw[Nat.pow_succ,←Nat.div_div_eq_div_mul,←za2,Nat.mul_comm]
 exact Nat.div_add_mod _ _
theorem zog (w:World)(A:Option Addr)(n c N:Nat)(h:Rd w w.heap.size A n N)(hn:n≤c)(hcm:c≤maxLen)(hb:n≤35184372087808)(hN: ¬N<18446744073709551616):
  Calls Tryz.prog 94 #[.slice A n c] w fun e w'=>e= .returned (.tuple #[.int .u64 0,.bool false])∧Below w.heap.size w w':=by
 have h2:2<lenL N:=by rw[←zbP]at hN;omega
 have hl:=zai.2 h.1
 clear hN
 go_enter Tryz.func94,Tryz.ntmps94
 go_wp2_with fail
 refine(zbp w A n c N h hn hcm hb).mono ?_
 rintro e w' ⟨A1,c1,rfl,g1,g2,hF,hBl⟩
 go_wp2
 go_ret2
 exact⟨rfl,hBl⟩
theorem zl5 (w:World)(A:Option Addr)(n c N:Nat)(h:Rd w w.heap.size A n N)(hn:n≤c)(hcm:c≤maxLen)(hb:n≤35184372087808)(hN:N<18446744073709551616):
  Calls Tryz.prog 94 #[.slice A n c] w fun e w'=>e= .returned (.tuple #[.int .u64 N,.bool true])∧Below w.heap.size w w':=by
 have h2:lenL N≤2:=zbP.2 hN
 have hl:=zai.2 h.1
 have HN:=zuZ hN
 clear hN
 go_enter Tryz.func94,Tryz.ntmps94
 go_wp2_with fail
 refine(zbp w A n c N h hn hcm hb).mono ?_
 rintro e w' ⟨A1,c1,rfl,g1,g2,hF,hBl⟩
 go_wp2
 go_loop [5,6] (fun v i=>∃s:Nat,s≤lenL N∧v= .int .u64 (hiN N s:Nat)∧zi2 (fun s'=>s'=s) i) (fun _ i=>(intOf i+1).toNat)
 case atStart=>exact⟨lenL N,Nat.le_refl _,by rw[zrZ];rfl,zdB (lenL N) (by omega) rfl⟩
 case round=>
  obtain⟨s,hs,rfl,hD⟩:=hrel
  rcases hD with⟨rfl,h0⟩|⟨j,hj,rfl,h0⟩
  ·have H0:=zuZ (show hiN N s=N by rw[←h0];exact zqx N)
   clear h0
   go_wp2
   go_ret2
   exact⟨by rw[H0.out];rfl,hBl⟩
  ·subst h0
   obtain⟨ad,rfl,_,hc⟩:=hF.rd.at_ (k:=j) (by omega)
   have hsh:=zqy (N:=N) (j:=j)
   have hle:=ztv N j
   have hd:=zau N j
   obtain⟨q,hq⟩:∃q,hiN N (j+1)=q:=⟨_,rfl⟩
   have hN':=HN.out
   rw[hq]at hsh ⊢
   have hqb:q<4294967296:=by omega
   have hqd:q*4294967296+dig N j<18446744073709551616:=by omega
   have HSh:=zuZ hsh
   clear hsh hq hle hN'
   go_wp2
   go_round
   case rel=>exact⟨j,by omega,by rw[←HSh.out];go_num,zdB j (by omega) rfl⟩
   case measure=>simp[intOf]
theorem Buf.below {W W':World}{g n O:Nat}(h:Buf W g n O)(hg:g<W.heap.size)(hb:Below W.heap.size W W'):Buf W' g n O:=fun j hj=>
 ⟨(hb.cell (p:=⟨g,j,none⟩) hg).trans (h j hj).1,(hb.frozen (p:=⟨g,j,none⟩) hg).trans (h j hj).2⟩
def zjw (w:World)(N M:Nat)(e:Ending)(w':World):Prop:=
 ∃A c A' c',e= .returned (.tuple #[.slice A (lenL (N/M)) c,.slice A' (lenL (zcg N M)) c',.int .i64 (zfw M)])∧lenL (N/M)≤c∧c≤maxLen∧lenL (zcg N M)≤c'∧c'≤maxLen∧
  Fr w' w.heap.size w'.heap.size A (lenL (N/M)) (N/M)∧Fr w' w.heap.size w'.heap.size A' (lenL (zcg N M)) (zcg N M)∧Below w.heap.size w w'
theorem zoh (w:World)(A A':Option Addr)(n n' c c' N M:Nat)(h':Rd w w.heap.size A' n' M)(hnc':n'≤c')(hcm':c'≤maxLen)(hn':n'≤900)(hz:M=0):
  Calls Tryz.prog 97 #[.slice A n c,.slice A' n' c'] w (zjw w N M):=by
 subst hz
 go_enter Tryz.func97,Tryz.ntmps97
 go_wp2_with fail
 refine(zbp w _ _ _ _ h' hnc' hcm' (by omega)).mono ?_
 rintro e W1 ⟨tA,tc,rfl,t1,t2,t3,t4⟩
 rw[zaS]
 go_wp2
 go_ret3
 refine⟨none,0,none,0,?_,?_,?_,?_,?_,?_,?_,t4⟩
 ·rw[Nat.div_zero,zcP,zfd];rfl
 ·rw[Nat.div_zero];simp[zaS]
 ·simp[maxLen]
 ·rw[zcP];simp[zaS]
 ·simp[maxLen]
 ·rw[Nat.div_zero];exact Fr.nil
 ·rw[zcP];exact Fr.nil
theorem Env.put {w wr W:World}{x y d r:Num}{l:List Num}{g p lo:Nat}(hx:x.ok w w.heap.size)(hy:y.ok w w.heap.size)(h:Env w [r,x,y] wr)(hE:Env wr (d::l) W)(hF:Fr W lo W.heap.size d.A d.n d.N)(hg:w.heap.size≤g)(hlo:g<lo)(v:Value):
  Env w [d,x,y] (W.setCell ⟨g,p,none⟩ v):=by
 have hb:=(h.1.trans (hE.1.mono h.1.size)).setCell (p:=⟨g,p,none⟩) hg v
 refine⟨hb,fun z hz=>?_⟩
 simp only[List.mem_cons,List.not_mem_nil,or_false]at hz
 rcases hz with rfl|rfl|rfl
 ·obtain⟨_,h2,h3,h4⟩:=hE.2 z (by simp)
  exact⟨((hF.setCell hlo v).rd).more (by simp),h2,h3,h4⟩
 ·exact hx.later hb
 ·exact hy.later hb
theorem Env.next {w wr W:World}{x y d r:Num}{l:List Num}(h:Env w [r,x,y] wr)(hE:Env wr (d::l) W)(hx:x∈d::l)(hy:y∈d::l):Env w [d,x,y] W:=by
 refine⟨h.1.trans (hE.1.mono h.1.size),fun z hz=>?_⟩
 simp only[List.mem_cons,List.not_mem_nil,or_false]at hz
 rcases hz with rfl|rfl|rfl
 ·exact hE.2 z (by simp)
 ·exact hE.2 z hx
 ·exact hE.2 z hy
theorem zf6 {w W':World}{N m:Nat}{v':Value}
  (hown:W'.ownsRow w.heap.size 77 1 v' (0+m) ([]++limbs N m)) (hg:(w.alloc (.cells #[] 77)).grownBy W' (some w.heap.size)):W'.ownsRow w.heap.size 77 1 v' m (limbs N m)∧Below w.heap.size w W':=by
 rw[Nat.zero_add,List.nil_append]at hown
 exact⟨hown,((Below.refl _ w).alloc zu1 _).grown hg (by simp) (fun k e=>by cases e;exact Nat.le_refl _)⟩
theorem zr0 {N n F:Nat}(h:N<Bw^n)(hF:F≤n):N/Bw^F<Bw^(n - F):=by
 rw[Nat.div_lt_iff_lt_mul (zah F),←zaV,show n - F+F=n by omega]
 exact h
theorem zoi (w:World)(ad:Addr)(xn xc xN:Nat)(y:Num)(hx:(Num.mk (some ad) xn xc xN).ok w w.heap.size)(hy:y.ok w w.heap.size)(hn:xn≤800)(hn':y.n≤800)(hz:y.N≠0)(hl:lenL y.N≤xn):
  Calls Tryz.prog 97 #[.slice (some ad) xn xc,.slice y.A y.n y.c] w (zjw w xN y.N):=by
 have hM:0<y.N:=by omega
 have HL:=zuZ (zb2 hz)
 have HLy:=zuZ (zai.2 hy.1.1)
 have HM:=zuZ hM
 have HX:=zuZ hx.1.1
 have hxc:xn≤xc:=hx.2.1
 have hE0:Env w [⟨some ad,xn,xc,xN⟩,y] w:=Env.start (by simp;exact⟨hx,hy⟩)
 obtain⟨F,hFe⟩:∃F,xn+1 - lenL y.N=F:=⟨_,rfl⟩
 have hFn:F≤xn:=by have:=HL.out;omega
 have hF0:0<F:=by omega
 have HS:=zuZ (show xN/Bw^F<y.N by rw[←hFe];exact zie hx.1.1 hM)
 have HF:=zuZ hFe
 obtain⟨i0,hi,hz0,hz1,hz2⟩:=info_parts zbD
 have HX0:=zuZ hx
 have HY0:=zuZ hy
 clear hz hM hx hy hl hFe
 go_enter Tryz.func97,Tryz.ntmps97
 go_wp2_with fail
 refine(zbS (x:=y) hE0 (by simp)).mono ?_
 rintro e W1 ⟨t,rfl,tN,tn,hE1,-⟩
 have t0:0<t.n:=by rw[tn];exact HL.out
 have t1:((t.n:Int)==0)=false:=by rw[beq_eq_false_iff_ne];omega
 replace tn:=zuZ tn
 replace tN:=zuZ tN
 obtain⟨W2,hmk,hF1,hb1,hs1⟩:=zbV W1 xn (by omega)
 have hE2:=hE1.step hb1
 have HW1:=zuZ hE1.1.size
 have hE3:Env W2 [⟨some ad,xn,xc,xN⟩,y] W2:=Env.start (fun z hz=>hE2.2 z (by simp at hz ⊢;rcases hz with rfl|rfl <;> simp))
 have HW2:=zuZ hE2.1
 have HF1:=zuZ (Buf.of_fr hF1)
 clear hE0 hE1 hE2 hb1 hF1
 go_wp2_with fail
 refine(zbS (x:=y) hE3 (by simp)).mono ?_
 rintro e W3 ⟨u,rfl,uN,un,hE4,-⟩
 have u0:0<u.n:=by rw[un];exact HL.out
 have ub:u.n≤800:=by rw[un];have:=HLy.out;omega
 have e1:(xn:Int) - (u.n:Int)+1=(F:Int):=by rw[un];have:=HF.out;have:=HLy.out;omega
 replace un:=zuZ un
 replace uN:=zuZ uN
 clear hmk
 have HR:=zuZ (zcf (k:=xn - F) ((hE4.2 ⟨some ad,xn,xc,xN⟩ (by simp)).1.high hFn) zu1)
 have HR':=zuZ (fun e:xc=F=>zcf (k:=xn - F) (((hE4.2 ⟨some ad,xn,xc,xN⟩ (by simp)).1.high hFn).empty (A':=some ad) (show xn - F=0 by omega)) zu1)
 have HN0:=zuZ (hE4.2 ⟨some ad,xn,xc,xN⟩ (by simp)).1.1
 by_cases hxF:xc=F
 all_goals
  go_wp2_with (at_builtin;refine zaA _ rfl (.tmp 28) (.tmp 31) _ rfl W3.heap.size 77 i0 (.int .u32 0) 4 Tryz.underlying23 hi hz0 hz1 hz2 rfl (.slice (some ⟨W3.heap.size,0,none⟩) 0 0) 0 [] rfl (World.ownsRow_lit W3 #[] 0 zu1 (by simp) rfl) _ (xn - F) _ (limbs (xN/Bw^F) (xn - F)) rfl (zat _ _) (by first|exact HR.out|exact HR'.out hxF|exact HR'.out rfl) zb4 (by simp only[maxLen];omega) (by omega) (by simp) ?_;intro v1 W4 hown1 hg1 _;have HT:=zuZ (zf6 hown1 hg1);clear hown1 hg1)
  refine(zc5 HT.out.2 HT.out.1 (zr0 HX.out hFn) (by omega)).mono ?_
  intro e W5 hg
  obtain⟨r,rfl,rN,rn,hE5,-⟩:=zbg hE4 hg (by have:=zaH (Nat.div_le_self xN (Bw^F));have:=zai.2 HX.out;omega)
  clear hg HT HR HR'
  have hgw:w.heap.size≤W1.heap.size:=HW1.out
  have hsz:W1.heap.size<W5.heap.size:=by have:=hE5.1.size;omega
  have hb5:=(HW2.out.trans (hE5.1.mono HW2.out.size))
  have HB5:=zuZ (HF1.out.below (by omega) hE5.1)
  replace rn:=zuZ rn
  replace rN:=zuZ rN
  go_wp2
  go_loopw [9,10] (fun rv i wr=>zi2 (fun s=>∃r:Num,rv= .slice r.A r.n r.c∧s≤32*F∧r.n≤800∧Hid (r.N=xN/2^s%y.N)∧Hid (Env w [r,⟨some ad,xn,xc,xN⟩,y] wr)∧W1.heap.size<wr.heap.size∧Hid (∃O,Buf wr W1.heap.size xn O∧O<Bw^xn∧O=2^s*(xN/2^s/y.N))) i) (fun _ i _=>(intOf i+1).toNat)
  case atStart=>
   have h:=zdB (P:=fun s=>∃r':Num,Value.slice r.A r.n r.c= .slice r'.A r'.n r'.c∧s≤32*F∧r'.n≤800∧Hid (r'.N=xN/2^s%y.N)∧Hid (Env w [r',⟨some ad,xn,xc,xN⟩,y] W5)∧W1.heap.size<W5.heap.size∧Hid (∃O,Buf W5 W1.heap.size xn O∧O<Bw^xn∧O=2^s*(xN/2^s/y.N))) (32*F) (by omega)
    ⟨r,rfl,Nat.le_refl _,by rw[rn.out];have:=zaH (Nat.div_le_self xN (Bw^F));have:=zai.2 HX.out;omega,zuZ (by rw[rN.out,←zbm,Nat.mod_eq_of_lt HS.out]),zuZ ⟨hb5,fun z hz=>hE5.2 z (by simp at hz ⊢;rcases hz with rfl|rfl|rfl <;> simp)⟩,hsz,zuZ ⟨0,HB5.out,zah _,by rw[←zbm,Nat.div_eq_of_lt HS.out,Nat.mul_zero]⟩⟩
   rwa [show((32*F:Nat):Int) - 1=32*(F:Int) - 1 by omega]at h
  case round=>
   clear hE5 hb5 HB5 hsz rn rN
   rcases hrel with⟨rfl,r',rfl,hs,hrb,hrN,henv,hsz,hbuf⟩|⟨σ,hσ,rfl,r',rfl,hs,hrb,hrN,henv,hsz,hbuf⟩
   ·obtain⟨O,o1,o2,o3⟩:=hbuf.out
    rw[Nat.pow_zero,Nat.one_mul,Nat.div_one]at o3
    have hrN':r'.N=zcg xN y.N:=by rw[hrN.out,Nat.pow_zero,Nat.div_one,zcB (by have:=HM.out;omega)]
    have E:=zuZ (zbp wr _ xn xn O (o1.rd o2 (fun _=>hsz)) zu1 (by simp only[maxLen];omega) (by omega))
    rw[o3]at E
    have HRN:=zuZ hrN'
    clear o1 o2 o3 hrN'
    go_wp2_with fail
    refine E.out.mono ?_
    rintro e W8 ⟨A2,c2,rfl,g1,g2,g3,g4⟩
    obtain⟨k1,k2,k3,k4⟩:=(henv.out.2 r' (by simp)).later g4
    have E2:=zuZ (zbp W8 _ _ _ _ k1 k2 k3 k4)
    rw[HRN.out]at E2
    clear k1 k2 k3 k4
    go_wp2_with fail
    refine E2.out.mono ?_
    rintro e W9 ⟨A3,c3,rfl,f1,f2,f3,f4⟩
    go_wp2
    go_ret3
    refine⟨A2,c2,A3,c3,by rw[zeG (by have:=HM.out;omega)];rfl,g1,g2,f1,f2,((g3.from henv.out.1.size).keep f4).more f4.size,f3.from (zu3 henv.out.1.size g4.size),henv.out.1.trans ((g4.trans (f4.mono g4.size)).mono henv.out.1.size)⟩
   ·obtain⟨p,t,ht,hp⟩:∃p t,t<32∧σ=32*p+t:=⟨σ/32,σ%32,by omega,by omega⟩
    have hq:(σ:Int)/32=(p:Int):=by omega
    have hr:(σ:Int)%32=(t:Int):=by omega
    have hpn:p<xn:=by omega
    have HP:=zuZ hp
    clear hp
    have hE6:Env wr [r',⟨some ad,xn,xc,xN⟩,y] wr:=Env.start henv.out.2
    go_wp2_with fail
    refine(zsD (x:=r') (k:=1) hE6 (by simp) (by omega) (by omega)).mono ?_
    rintro e W6 ⟨r1,rfl,r1N,r1n,hE7,-⟩
    obtain⟨ad',e',hadb,hcx⟩:=(hE7.2 ⟨some ad,xn,xc,xN⟩ (by simp)).1.at_ hpn
    cases e'
    replace r1N:=zuZ r1N
    replace r1n:=zuZ r1n
    have hRM:r'.N<y.N:=by rw[hrN.out];exact Nat.mod_lt _ HM.out
    have hr1:r1.N=2*r'.N:=by rw[r1N.out,show min (1:Int).toNat 65536=1 from rfl];omega
    have hr1b:r1.n≤801:=by
     rw[r1n.out]
     have h1:=zaH (show r'.N*2^min (1:Int).toNat 65536≤y.N+y.N by rw[show min (1:Int).toNat 65536=1 from rfl];omega)
     have h2:=zc0 (zaE y.N) (zaE y.N)
     have h3:=HLy.out
     omega
    have HR1:=zuZ hr1
    have HRM:=zuZ hRM
    clear hr1 hRM
    have hbit:=zpv (N:=xN) (p:=p) ht
    rw[←HP.out]at hbit
    rcases(show zdZ xN σ=0∨zdZ xN σ=1 by have:=zmA xN σ;omega)with hb|hb
    ·rw[hb]at hbit
     have hb2:(bits BinOp.and IntKind.u32 ((dig xN p:Int)/2^t) 1==1)=false:=by rw[hbit];rfl
     have HB:=zuZ hb
     clear hbit hb
     go_wp2_with fail
     by_cases hle:y.N≤r1.N
     ·refine(zf5 (x:=r1) (y:=y) hE7 (by simp) (by simp) (by omega) (by omega) hle).mono ?_
      rintro e W7 ⟨d,rfl,dN,dn,hE8,hFd⟩
      obtain⟨O,o1,o2,o3⟩:=hbuf.out
      obtain⟨hc3,hc4⟩:=(o1.below hsz hE8.1) p hpn
      have HO:=zuZ o1
      have HO2:=zuZ o2
      have HO3:=zuZ o3
      replace dN:=zuZ dN
      replace dn:=zuZ dn
      clear o1 o2 o3
      have d3:=zau O p
      go_wp2
      go_roundw
      case rel=>
       have h3:=zkh HM.out rfl rfl (show y.N≤2*(xN/2^(σ+1)%y.N)+zdZ xN σ by rw[HB.out,←hrN.out];have:=HR1.out;omega)
       have hO':=HO3.out
       rw[HP.out]at hO'
       obtain⟨O',q1,q2,q3⟩:=zmB (p:=p) ht hpn (HO.out.below hsz hE8.1) HO2.out hO'
       rw[←HP.out]at q3
       refine zdB σ (by omega) ⟨d,rfl,by omega,?_,zuZ ?_,zuZ (Env.put HX0.out HY0.out henv.out hE8 hFd hgw (by have:=hE7.1.size;simp at this ⊢;omega) _),by have:=hE8.1.size;simp;omega,zuZ ⟨O',q1,q2,?_⟩⟩
       ·rw[dn.out]
        have h4:=zaH (show r1.N - y.N≤y.N by have h5:=HR1.out;have h6:=HRM.out;omega)
        have h5:=HLy.out
        omega
       ·rw[dN.out,h3.2,HB.out]
        have h4:=HR1.out
        have h5:=hrN.out
        omega
       ·rw[q3,h3.1]
      case measure=>simp[intOf]
     ·refine(zjt _ _ _ _ _ _ _ _ _ (hE7.2 r1 (by simp)).1 (hE7.2 y (by simp)).1 (by omega) (by omega) (by omega)).mono ?_
      rintro e W7 ⟨rfl,rfl⟩
      obtain⟨O,o1,o2,o3⟩:=hbuf.out
      have HO:=zuZ (o1.below hsz hE7.1)
      have HO2:=zuZ o2
      have HO3:=zuZ o3
      clear o1 o2 o3
      go_wp2
      go_roundw
      case rel=>
       have h3:=zkg HM.out rfl rfl (show 2*(xN/2^(σ+1)%y.N)+zdZ xN σ<y.N by rw[HB.out,←hrN.out];have:=HR1.out;omega)
       refine zdB σ (by omega) ⟨r1,rfl,by omega,?_,zuZ ?_,zuZ (henv.out.next hE7 (by simp) (by simp)),by have:=hE7.1.size;simp at this ⊢;omega,zuZ ⟨O,HO.out,HO2.out,?_⟩⟩
       ·have h4:=zaH (show r1.N≤y.N by omega)
        have h5:=HLy.out
        have h6:=(show r1.n=lenL r1.N by rw[r1n.out,r1N.out])
        omega
       ·rw[h3.2,HB.out]
        have h4:=HR1.out
        have h5:=hrN.out
        omega
       ·rw[HO3.out,h3.1,Nat.pow_succ,Nat.mul_assoc]
      case measure=>simp[intOf]
    ·rw[hb]at hbit
     have hb2:(bits BinOp.and IntKind.u32 ((dig xN p:Int)/2^t) 1==1)=true:=by rw[hbit];rfl
     have HB:=zuZ hb
     clear hbit hb
     go_wp2_with fail
     have hE8:=hE7.lit (N:=1) (v:=1) rfl rfl (by omega)
     refine(zjs (x:=r1) (y:=⟨some ⟨W6.heap.size,0,none⟩,1,1,1⟩) hE8 (by simp) (by simp) (by simp) (by omega) (by simp)).mono ?_
     rintro e W8 ⟨r2,rfl,r2N,r2n,hE9,-⟩
     replace r2N:r2.N=r1.N+1:=r2N
     replace r2n:r2.n=lenL (r1.N+1):=r2n
     have hr2b:r2.n≤801:=by
      rw[r2n]
      have h1:=zaH (show r1.N+1≤y.N+y.N by have h5:=HR1.out;have h6:=HRM.out;omega)
      have h2:=zc0 (zaE y.N) (zaE y.N)
      have h3:=HLy.out
      omega
     replace r2N:=zuZ r2N
     replace r2n:=zuZ r2n
     go_wp2_with fail
     by_cases hle:y.N≤r2.N
     ·refine(zf5 (x:=r2) (y:=y) hE9 (by simp) (by simp) (by omega) (by omega) hle).mono ?_
      rintro e W7 ⟨d,rfl,dN,dn,hE10,hFd⟩
      obtain⟨O,o1,o2,o3⟩:=hbuf.out
      obtain⟨hc3,hc4⟩:=(o1.below hsz hE10.1) p hpn
      have HO:=zuZ o1
      have HO2:=zuZ o2
      have HO3:=zuZ o3
      replace dN:=zuZ dN
      replace dn:=zuZ dn
      clear o1 o2 o3
      have d3:=zau O p
      go_wp2
      go_roundw
      case rel=>
       have h3:=zkh HM.out rfl rfl (show y.N≤2*(xN/2^(σ+1)%y.N)+zdZ xN σ by rw[HB.out,←hrN.out];have:=HR1.out;have h9:=r2N.out;omega)
       have hO':=HO3.out
       rw[HP.out]at hO'
       obtain⟨O',q1,q2,q3⟩:=zmB (p:=p) ht hpn (HO.out.below hsz hE10.1) HO2.out hO'
       rw[←HP.out]at q3
       refine zdB σ (by omega) ⟨d,rfl,by omega,?_,zuZ ?_,zuZ (Env.put HX0.out HY0.out henv.out hE10 hFd hgw (by have:=hE9.1.size;simp at this ⊢;omega) _),by have:=hE10.1.size;simp;omega,zuZ ⟨O',q1,q2,?_⟩⟩
       ·rw[dn.out]
        have h4:=zaH (show r2.N - y.N≤y.N by have h5:=HR1.out;have h6:=HRM.out;have h9:=r2N.out;omega)
        have h5:=HLy.out
        omega
       ·rw[dN.out,h3.2,HB.out]
        have h4:=HR1.out
        have h5:=hrN.out
        have h9:=r2N.out;omega
       ·rw[q3,h3.1]
      case measure=>simp[intOf]
     ·refine(zjt _ _ _ _ _ _ _ _ _ (hE9.2 r2 (by simp)).1 (hE9.2 y (by simp)).1 (by omega) (by omega) (by omega)).mono ?_
      rintro e W7 ⟨rfl,rfl⟩
      obtain⟨O,o1,o2,o3⟩:=hbuf.out
      have HO:=zuZ (o1.below hsz hE9.1)
      have HO2:=zuZ o2
      have HO3:=zuZ o3
      clear o1 o2 o3
      go_wp2
      go_roundw
      case rel=>
       have h3:=zkg HM.out rfl rfl (show 2*(xN/2^(σ+1)%y.N)+zdZ xN σ<y.N by rw[HB.out,←hrN.out];have:=HR1.out;have h9:=r2N.out;omega)
       refine zdB σ (by omega) ⟨r2,rfl,by omega,?_,zuZ ?_,zuZ (henv.out.next hE9 (by simp) (by simp)),by have:=hE9.1.size;simp at this ⊢;omega,zuZ ⟨O,HO.out,HO2.out,?_⟩⟩
       ·have h4:=zaH (show r2.N≤y.N by omega)
        have h5:=HLy.out
        have h6:=(show r2.n=lenL r2.N by rw[r2n.out,r2N.out])
        omega
       ·rw[h3.2,HB.out]
        have h4:=HR1.out
        have h5:=hrN.out
        have h9:=r2N.out;omega
       ·rw[HO3.out,h3.1,Nat.pow_succ,Nat.mul_assoc]
      case measure=>simp[intOf]
theorem zl6 (w:World)(x y:Num)(hx:x.ok w w.heap.size)(hy:y.ok w w.heap.size)(hn:x.n≤800)(hn':y.n≤800)(hz:y.N≠0)(hl:x.n+1≤lenL y.N):
  Calls Tryz.prog 97 #[.slice x.A x.n x.c,.slice y.A y.n y.c] w (zjw w x.N y.N):=by
 have hM:0<y.N:=by omega
 have HL:=zuZ (zb2 hz)
 have HLy:=zuZ (zai.2 hy.1.1)
 have HM:=zuZ hM
 have hE0:Env w [x,y] w:=Env.start (by simp;exact⟨hx,hy⟩)
 have hlt:x.N<y.N:=by
  have:=zie hx.1.1 hM
  rwa [show x.n+1 - lenL y.N=0 by omega,Nat.pow_zero,Nat.div_one]at this
 have HLT:=zuZ hlt
 have HXY:=zuZ hl
 obtain⟨i0,hi,hz0,hz1,hz2⟩:=info_parts zbD
 clear hz hM hy hl hlt
 obtain⟨xA,xn,xc,xN⟩:=x
 have hxc:xn≤xc:=hx.2.1
 have hxm:xc≤maxLen:=hx.2.2.1
 have HX0:=zuZ (show xA=none→xn=0 from fun e=>by
  rcases zu8 xn with h|h
  ·exact h
  ·obtain⟨ad,e2,_⟩:=hx.1.2 h
   have e3:xA=some ad:=e2
   rw[e]at e3
   cases e3)
 have hn:xn≤800:=hn
 have HX:=zuZ hx.1.1
 clear hx
 cases xA with
 |none=>
  obtain rfl:xn=0:=HX0.out rfl
  go_enter Tryz.func97,Tryz.ntmps97
  go_wp2_with fail
  refine(zbS (x:=y) hE0 (by simp)).mono ?_
  rintro e W1 ⟨t,rfl,tN,tn,hE1,-⟩
  have t0:0<t.n:=by rw[tn];exact HL.out
  have t1:((t.n:Int)==0)=false:=by rw[beq_eq_false_iff_ne];omega
  replace tn:=zuZ tn
  replace tN:=zuZ tN
  obtain⟨W2,hmk,hF1,hb1,hs1⟩:=zbV W1 0 (by omega)
  rw[show((0:Nat):Int)=(0:Int)from rfl]at hmk
  have hE2:=hE1.step hb1
  have hE3:Env W2 [⟨none,0,xc,xN⟩,y] W2:=⟨Below.refl _ _,fun z hz=>hE2.2 z (List.mem_cons_of_mem _ hz)⟩
  have HW1:=zuZ hE1.1.size
  have HW2:=zuZ hE2.1
  have HF1:=zuZ (Buf.of_fr hF1)
  clear hE0 hE1 hE2 hb1 hF1
  go_wp2_with fail
  refine(zbS (x:=y) hE3 (by simp)).mono ?_
  rintro e W3 ⟨u,rfl,uN,un,hE4,-⟩
  have u0:0<u.n:=by rw[un];exact HL.out
  have ub:u.n≤800:=by rw[un];have:=HLy.out;omega
  have e1:(0:Int) - (u.n:Int)+1≤0:=by rw[un];have h1:=HXY.out;omega
  replace un:=zuZ un
  replace uN:=zuZ uN
  have HR:=zuZ (zcf (k:=0) (hE4.2 ⟨none,0,xc,xN⟩ (by simp)).1 zu1)
  clear hmk
  rcases(show(0:Int) - (u.n:Int)+1=0∨(0:Int) - (u.n:Int)+1<0 by omega)with e2|e2
  all_goals
   clear e1
   go_wp2_with (at_builtin;refine zaA _ rfl (.tmp 28) (.tmp 31) _ rfl W3.heap.size 77 i0 (.int .u32 0) 4 Tryz.underlying23 hi hz0 hz1 hz2 rfl (.slice (some ⟨W3.heap.size,0,none⟩) 0 0) 0 [] rfl (World.ownsRow_lit W3 #[] 0 zu1 (by simp) rfl) _ 0 _ (limbs xN 0) rfl (zat _ _) HR.out zb4 (by simp only[maxLen];omega) (by omega) (by simp) ?_;intro v1 W4 hown1 hg1 _;have HT:=zuZ (zf6 hown1 hg1);clear hown1 hg1)
   all_goals
    refine(zc5 HT.out.2 HT.out.1 HX.out (by omega)).mono ?_
    intro e W5 hg
    obtain⟨r,rfl,rN,rn,hE5,hrF⟩:=zbg hE4 hg (by have:=zai.2 HX.out;omega)
    have h35:Below W3.heap.size W3 W5:=by
     obtain⟨_,_,_,_,_,_,hb⟩:=hg
     exact hb
    have hsz:W1.heap.size<W5.heap.size:=by have:=hE5.1.size;omega
    have hb5:=zuZ (HW2.out.trans (hE5.1.mono HW2.out.size))
    have HB5:=HF1.out.below (by omega) hE5.1
    have HRF:=zuZ hrF
    have H35:=zuZ h35
    have H53:=zuZ hE4.1.size
    replace rn:=zuZ rn
    replace rN:=zuZ rN
    have E:=zuZ (zbp W5 _ 0 0 0 (HB5.rd (zah _) (fun _=>hsz)) zu1 (by simp only[maxLen];omega) (by omega))
    clear HT HR hg hrF h35 HB5
    go_wp2
    go_loopw [9,10] (fun rv i wr=>rv= .slice r.A r.n r.c∧i= .int .i64 (-1)∧wr=W5) (fun _ _ _=>0)
    case atStart=>exact⟨rfl,rfl,rfl⟩
    case round=>
     obtain⟨rfl,rfl,rfl⟩:=hrel
     go_wp2_with fail
     refine E.out.mono ?_
     rintro e W8 ⟨A2,c2,rfl,g1,g2,g3,g4⟩
     obtain⟨k1,k2,k3,k4⟩:=(hE5.2 r (by simp)).later g4
     have E2:=zuZ (zbp W8 _ _ _ _ k1 k2 k3 k4)
     rw[rN.out]at E2
     clear k1 k2 k3 k4
     go_wp2_with fail
     refine E2.out.mono ?_
     rintro e W9 ⟨A3,c3,rfl,f1,f2,f3,f4⟩
     go_wp2
     go_ret3
     have q0:xN/y.N=0:=Nat.div_eq_of_lt HLT.out
     have q1:zcg xN y.N=xN:=by rw[zcB (by have:=HM.out;omega),Nat.mod_eq_of_lt HLT.out]
     have hsw:w.heap.size≤wr.heap.size:=hb5.out.size
     refine⟨A2,c2,A3,c3,by rw[q0,q1,zeG (by have:=HM.out;omega)];rfl,by rw[q0];exact g1,g2,by rw[q1];exact f1,f2,by rw[q0];exact((g3.from hsw).keep f4).more f4.size,by rw[q1];exact f3.from (zu3 hsw g4.size),hb5.out.trans ((g4.trans (f4.mono g4.size)).mono hsw)⟩
 |some ad=>
  go_enter Tryz.func97,Tryz.ntmps97
  go_wp2_with fail
  refine(zbS (x:=y) hE0 (by simp)).mono ?_
  rintro e W1 ⟨t,rfl,tN,tn,hE1,-⟩
  have t0:0<t.n:=by rw[tn];exact HL.out
  have t1:((t.n:Int)==0)=false:=by rw[beq_eq_false_iff_ne];omega
  replace tn:=zuZ tn
  replace tN:=zuZ tN
  obtain⟨W2,hmk,hF1,hb1,hs1⟩:=zbV W1 xn (by omega)
  have hE2:=hE1.step hb1
  have hE3:Env W2 [⟨some ad,xn,xc,xN⟩,y] W2:=⟨Below.refl _ _,fun z hz=>hE2.2 z (List.mem_cons_of_mem _ hz)⟩
  have HW1:=zuZ hE1.1.size
  have HW2:=zuZ hE2.1
  have HF1:=zuZ (Buf.of_fr hF1)
  clear hE0 hE1 hE2 hb1 hF1
  go_wp2_with fail
  refine(zbS (x:=y) hE3 (by simp)).mono ?_
  rintro e W3 ⟨u,rfl,uN,un,hE4,-⟩
  have u0:0<u.n:=by rw[un];exact HL.out
  have ub:u.n≤800:=by rw[un];have:=HLy.out;omega
  have e1:(xn:Int) - (u.n:Int)+1≤0:=by rw[un];have h1:=HXY.out;omega
  replace un:=zuZ un
  replace uN:=zuZ uN
  have HR:=zuZ (zcf (k:=xn) (hE4.2 ⟨some ad,xn,xc,xN⟩ (by simp)).1 zu1)
  clear hmk
  rcases(show(xn:Int) - (u.n:Int)+1=0∨(xn:Int) - (u.n:Int)+1<0 by omega)with e2|e2
  all_goals
   clear e1
   go_wp2_with (at_builtin;refine zaA _ rfl (.tmp 28) (.tmp 31) _ rfl W3.heap.size 77 i0 (.int .u32 0) 4 Tryz.underlying23 hi hz0 hz1 hz2 rfl (.slice (some ⟨W3.heap.size,0,none⟩) 0 0) 0 [] rfl (World.ownsRow_lit W3 #[] 0 zu1 (by simp) rfl) _ xn _ (limbs xN xn) rfl (zat _ _) HR.out zb4 (by simp only[maxLen];omega) (by omega) (by simp) ?_;intro v1 W4 hown1 hg1 _;have HT:=zuZ (zf6 hown1 hg1);clear hown1 hg1)
   all_goals
    refine(zc5 HT.out.2 HT.out.1 HX.out (by omega)).mono ?_
    intro e W5 hg
    obtain⟨r,rfl,rN,rn,hE5,hrF⟩:=zbg hE4 hg (by have:=zai.2 HX.out;omega)
    have h35:Below W3.heap.size W3 W5:=by
     obtain⟨_,_,_,_,_,_,hb⟩:=hg
     exact hb
    have hsz:W1.heap.size<W5.heap.size:=by have:=hE5.1.size;omega
    have hb5:=zuZ (HW2.out.trans (hE5.1.mono HW2.out.size))
    have HB5:=HF1.out.below (by omega) hE5.1
    have HRF:=zuZ hrF
    have H35:=zuZ h35
    have H53:=zuZ hE4.1.size
    replace rn:=zuZ rn
    replace rN:=zuZ rN
    have E:=zuZ (zbp W5 _ xn xn 0 (HB5.rd (zah _) (fun _=>hsz)) zu1 (by simp only[maxLen];omega) (by omega))
    clear HT HR hg hrF h35 HB5
    go_wp2
    go_loopw [9,10] (fun rv i wr=>rv= .slice r.A r.n r.c∧i= .int .i64 (-1)∧wr=W5) (fun _ _ _=>0)
    case atStart=>exact⟨rfl,rfl,rfl⟩
    case round=>
     obtain⟨rfl,rfl,rfl⟩:=hrel
     go_wp2_with fail
     refine E.out.mono ?_
     rintro e W8 ⟨A2,c2,rfl,g1,g2,g3,g4⟩
     obtain⟨k1,k2,k3,k4⟩:=(hE5.2 r (by simp)).later g4
     have E2:=zuZ (zbp W8 _ _ _ _ k1 k2 k3 k4)
     rw[rN.out]at E2
     clear k1 k2 k3 k4
     go_wp2_with fail
     refine E2.out.mono ?_
     rintro e W9 ⟨A3,c3,rfl,f1,f2,f3,f4⟩
     go_wp2
     go_ret3
     have q0:xN/y.N=0:=Nat.div_eq_of_lt HLT.out
     have q1:zcg xN y.N=xN:=by rw[zcB (by have:=HM.out;omega),Nat.mod_eq_of_lt HLT.out]
     have hsw:w.heap.size≤wr.heap.size:=hb5.out.size
     refine⟨A2,c2,A3,c3,by rw[q0,q1,zeG (by have:=HM.out;omega)];rfl,by rw[q0];exact g1,g2,by rw[q1];exact f1,f2,by rw[q0];exact((g3.from hsw).keep f4).more f4.size,by rw[q1];exact f3.from (zu3 hsw g4.size),hb5.out.trans ((g4.trans (f4.mono g4.size)).mono hsw)⟩
theorem zqz (w:World)(x y:Num)(hx:x.ok w w.heap.size)(hy:y.ok w w.heap.size)(hn:x.n≤800)(hn':y.n≤800):
  Calls Tryz.prog 97 #[.slice x.A x.n x.c,.slice y.A y.n y.c] w (zjw w x.N y.N):=by
 by_cases hz:y.N=0
 ·obtain⟨h1,h2,h3,h4⟩:=hy
  have:=zoh w x.A y.A x.n y.n x.c y.c x.N y.N h1 h2 h3 (by omega) hz
  exact this
 ·rcases zu7 x.n (lenL y.N)with h|h
  ·exact zl6 w x y hx hy hn hn' hz h
  ·obtain⟨xA,xn,xc,xN⟩:=x
   have h0:0<xn:=zu4 (zb2 hz) h
   obtain⟨ad,e,_⟩:=hx.1.2 h0
   have e2:xA=some ad:=e
   subst e2
   exact zoi w ad xn xc xN y hx hy hn hn' hz h
theorem zqA {w W:World}{e:List Num}{x y:Num}(h:Env w e W)(hx:x∈e)(hy:y∈e)(bx:x.n≤800)(by':y.n≤800):
  Calls Tryz.prog 97 #[.slice x.A x.n x.c,.slice y.A y.n y.c] W fun e' W'=>
   ∃q r:Num,e'= .returned (.tuple #[.slice q.A q.n q.c,.slice r.A r.n r.c,.int .i64 (zfw y.N)])∧q.N=x.N/y.N∧q.n=lenL (x.N/y.N)∧r.N=zcg x.N y.N∧r.n=lenL (zcg x.N y.N)∧Env w (q::r::e) W':=by
 have hl:∀M,M≤x.N→lenL M≤35184372087808:=fun M hM=>by
  have h1:=zaH hM
  have h2:=zai.2 (h.2 x hx).1.1
  omega
 refine(zqz W x y (h.2 x hx) (h.2 y hy) bx by').mono ?_
 rintro e' W' ⟨A,c,A',c',he,g1,g2,g3,g4,g5,g6,g7⟩
 have hE:=h.step g7
 have hr:(Num.mk A' (lenL (zcg x.N y.N)) c' (zcg x.N y.N)).ok W' W'.heap.size:=g6.ok g3 g4 (hl _ (zkc _ _))
 have hq:(Num.mk A (lenL (x.N/y.N)) c (x.N/y.N)).ok W' W'.heap.size:=g5.ok g1 g2 (hl _ (Nat.div_le_self _ _))
 exact⟨_,_,he,rfl,rfl,rfl,rfl,(hE.add hr).add hq⟩
end Go.Proofs.YtdeelcoipmdoiaaGreatDoor
