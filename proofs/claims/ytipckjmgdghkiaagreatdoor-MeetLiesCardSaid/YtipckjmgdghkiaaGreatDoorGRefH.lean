/- Contract of nat.Small. -/
import Derived.Test.YtipckjmgdghkiaaGreatDoorGNatA
import Derived.Test.YtipckjmgdghkiaaGreatDoorGRefC
import Derived.Test.YtipckjmgdghkiaaGreatDoorGRefB
set_option maxHeartbeats 8000000
set_option maxRecDepth 100000
namespace Go.Proofs.YtipckjmgdghkiaaGreatDoor
open Go Go.RowKit
theorem zeL (w:World)(hi:Nat)(A:Option Addr)(n c N:Nat)(h:Rd w hi A n N)(hn:n<=c)(hc:c<=9223372036854775807)(hN: ¬N<18446744073709551616):
  Calls Tryz.prog 192 #[.slice A n c] w fun e w'=>e= .returned (.tuple #[.int .u64 0,.bool false])/\w=w':=by
 have hl:=zai.2 h.1
 have h2:2<lenL N:=by rw[<-zbK]at hN;omega
 clear hN
 go_enter Tryz.func192,Tryz.ntmps192
 go_wp2_with (go_at_call 122;refine(zdE _ _ A n c N h hn).mono ?_;rintro e w' ⟨rfl,rfl⟩)
 go_ret2
 exact⟨rfl,rfl⟩
theorem zcW (w:World)(hi:Nat)(A:Option Addr)(n c N:Nat)(h:Rd w hi A n N)(hn:n<=c)(hc:c<=9223372036854775807)(hN:N<18446744073709551616):
  Calls Tryz.prog 192 #[.slice A n c] w fun e w'=>e= .returned (.tuple #[.int .u64 N,.bool true])/\w=w':=by
 have hl:=zai.2 h.1
 have h2:lenL N<=2:=zbK.2 hN
 have hd0:=zav N 0
 have hd1:=zav N 1
 have hv:=zvY (znG (zai.1 h2))
 clear hN
 go_enter Tryz.func192,Tryz.ntmps192
 go_wp2_with (first
  |(go_at_call 122;refine(zdE _ _ A n c N h hn).mono ?_;rintro e w' ⟨rfl,rfl⟩)
  |(go_at_call 198;refine(zec _ _ _ _ _ _ h.cut _ (by omega)).mono ?_;rintro e w' ⟨rfl,rfl⟩;simp only[Int.toNat_one,Int.toNat_zero]))
 rw[zpL hd1 hd0,hv.out]
 go_ret2
 exact⟨rfl,rfl⟩
theorem zjN (w:World)(N:Nat)(h:N<18446744073709551616):
  Calls Tryz.prog 111 #[.int .u64 N] w (Gives w N):=by
 have H:=zvY (zhy h)
 go_enter Tryz.func111,Tryz.ntmps111
 go_wp2_with fail
 have hF:Fr (w.alloc (Obj.cells #[Value.int IntKind.u32 (↑N%4294967296),Value.int IntKind.u32 (↑N/4294967296)] 92)) w.heap.size (w.heap.size+1) (some ⟨w.heap.size,0,none⟩) 2 N:=
  Fr.lit zv0 H.out.1 H.out.2
 refine(zbs _ _ 2 2 N (by simpa using hF.rd) (by omega) (by simp[maxLen])).mono ?_
 intro e w' hgv
 obtain⟨A,c,rfl,h1,h2,h3,h4⟩:=hgv.alloc
 go_wp2
 go_ret
 exact⟨A,c,rfl,h1,h2,h3,h4⟩
def hiN (N s:Nat):Nat:=N/Bw^s
theorem zq7 (N:Nat):hiN N 0=N:=by simp[hiN]
theorem zsD (N:Nat):hiN N (lenL N)=0:=Nat.div_eq_of_lt (zaF N)
theorem zul (N s:Nat):hiN N s<=N:=Nat.div_le_self _ _
theorem zq8 {N j:Nat}:hiN N (j+1)*4294967296+dig N j=hiN N j:=by
 unfold dig hiN
 rw[Nat.pow_succ,<-Nat.div_div_eq_div_mul,<-za4,Nat.mul_comm]
 exact Nat.div_add_mod _ _
theorem zoQ (w:World)(A:Option Addr)(n c N:Nat)(h:Rd w w.heap.size A n N)(hn:n<=c)(hcm:c<=maxLen)(hb:n<=35184372087808)(hN: ¬N<18446744073709551616):
  Calls Tryz.prog 124 #[.slice A n c] w fun e w'=>e= .returned (.tuple #[.int .u64 0,.bool false])/\Below w.heap.size w w':=by
 have h2:2<lenL N:=by rw[<-zbK]at hN;omega
 have hl:=zai.2 h.1
 clear hN
 go_enter Tryz.func124,Tryz.ntmps124
 go_wp2_with fail
 refine(zbs w A n c N h hn hcm hb).mono ?_
 rintro e w' ⟨A1,c1,rfl,g1,g2,hF,hBl⟩
 go_wp2
 go_ret2
 exact⟨rfl,hBl⟩
theorem zmq (w:World)(A:Option Addr)(n c N:Nat)(h:Rd w w.heap.size A n N)(hn:n<=c)(hcm:c<=maxLen)(hb:n<=35184372087808)(hN:N<18446744073709551616):
  Calls Tryz.prog 124 #[.slice A n c] w fun e w'=>e= .returned (.tuple #[.int .u64 N,.bool true])/\Below w.heap.size w w':=by
 have h2:lenL N<=2:=zbK.2 hN
 have hl:=zai.2 h.1
 have HN:=zvY hN
 clear hN
 go_enter Tryz.func124,Tryz.ntmps124
 go_wp2_with fail
 refine(zbs w A n c N h hn hcm hb).mono ?_
 rintro e w' ⟨A1,c1,rfl,g1,g2,hF,hBl⟩
 go_wp2
 go_loop [5,6] (fun v i=>∃s:Nat,s<=lenL N/\v= .int .u64 (hiN N s:Nat)/\zjm (fun s'=>s'=s) i) (fun _ i=>(intOf i+1).toNat)
 case atStart=>exact⟨lenL N,Nat.le_refl _,by rw[zsD];rfl,zdL (lenL N) (by omega) rfl⟩
 case round=>
  obtain⟨s,hs,rfl,hD⟩:=hrel
  rcases hD with⟨rfl,h0⟩|⟨j,hj,rfl,h0⟩
  ·have H0:=zvY (show hiN N s=N by rw[<-h0];exact zq7 N)
   clear h0
   go_wp2
   go_ret2
   exact⟨by rw[H0.out];rfl,hBl⟩
  ·subst h0
   obtain⟨ad,rfl,_,hc⟩:=hF.rd.at_ (k:=j) (by omega)
   have hsh:=zq8 (N:=N) (j:=j)
   have hle:=zul N j
   have hd:=zav N j
   obtain⟨q,hq⟩:∃q,hiN N (j+1)=q:=⟨_,rfl⟩
   have hN':=HN.out
   rw[hq]at hsh ⊢
   have hqb:q<4294967296:=by omega
   have hqd:q*4294967296+dig N j<18446744073709551616:=by omega
   have HSh:=zvY hsh
   clear hsh hq hle hN'
   go_wp2
   go_round
   case rel=>exact⟨j,by omega,by rw[<-HSh.out];go_num,zdL j (by omega) rfl⟩
   case measure=>simp[intOf]
theorem Buf.below {W W':World}{g n O:Nat}(h:Buf W g n O)(hg:g<W.heap.size)(hb:Below W.heap.size W W'):Buf W' g n O:=fun j hj=>
 ⟨(hb.cell (p:=⟨g,j,none⟩) hg).trans (h j hj).1,(hb.frozen (p:=⟨g,j,none⟩) hg).trans (h j hj).2⟩
def zjO (w:World)(N M:Nat)(e:Ending)(w':World):Prop:=
 ∃A c A' c',e= .returned (.tuple #[.slice A (lenL (N/M)) c,.slice A' (lenL (zcl N M)) c',.int .i64 (zfQ M)])/\lenL (N/M)<=c/\c<=maxLen/\lenL (zcl N M)<=c'/\c'<=maxLen/\
  Fr w' w.heap.size w'.heap.size A (lenL (N/M)) (N/M)/\Fr w' w.heap.size w'.heap.size A' (lenL (zcl N M)) (zcl N M)/\Below w.heap.size w w'
theorem zoR (w:World)(A A':Option Addr)(n n' c c' N M:Nat)(h':Rd w w.heap.size A' n' M)(hnc':n'<=c')(hcm':c'<=maxLen)(hn':n'<=900)(hz:M=0):
  Calls Tryz.prog 127 #[.slice A n c,.slice A' n' c'] w (zjO w N M):=by
 subst hz
 go_enter Tryz.func127,Tryz.ntmps127
 go_wp2_with fail
 refine(zbs w _ _ _ _ h' hnc' hcm').mono ?_
 rintro e W1 ⟨tA,tc,rfl,t1,t2,t3,t4⟩
 rw[zaS]
 go_wp2
 go_ret3
 refine⟨none,0,none,0,?_,?_,?_,?_,?_,?_,?_,t4⟩
 ·rw[Nat.div_zero,zcU,zfq];rfl
 ·rw[Nat.div_zero];simp[zaS]
 ·simp[maxLen]
 ·rw[zcU];simp[zaS]
 ·simp[maxLen]
 ·rw[Nat.div_zero];exact Fr.nil
 ·rw[zcU];exact Fr.nil
theorem Env.put {w wr W:World}{x y d r:Num}{l:List Num}{g p lo:Nat}(hx:x.ok w w.heap.size)(hy:y.ok w w.heap.size)(h:Env w [r,x,y] wr)(hE:Env wr (d::l) W)(hF:Fr W lo W.heap.size d.A d.n d.N)(hg:w.heap.size<=g)(hlo:g<lo)(v:Value):
  Env w [d,x,y] (W.setCell ⟨g,p,none⟩ v):=by
 have hb:=(h.1.trans (hE.1.mono h.1.size)).setCell (p:=⟨g,p,none⟩) hg v
 refine⟨hb,fun z hz=>?_⟩
 simp only[List.mem_cons,List.not_mem_nil,or_false]at hz
 rcases hz with rfl|rfl|rfl
 ·obtain⟨_,h2,h3,h4⟩:=hE.2 z (by simp)
  exact⟨((hF.setCell hlo v).rd).more (by simp),h2,h3,h4⟩
 ·exact hx.later hb
 ·exact hy.later hb
theorem Env.next {w wr W:World}{x y d r:Num}{l:List Num}(h:Env w [r,x,y] wr)(hE:Env wr (d::l) W)(hx:x∈d::l)(hy:y∈d::l):Env w [d,x,y] W:=by
 refine⟨h.1.trans (hE.1.mono h.1.size),fun z hz=>?_⟩
 simp only[List.mem_cons,List.not_mem_nil,or_false]at hz
 rcases hz with rfl|rfl|rfl
 ·exact hE.2 z (by simp)
 ·exact hE.2 z hx
 ·exact hE.2 z hy
theorem zgw {w W':World}{N m:Nat}{v':Value}
  (hown:W'.ownsRow w.heap.size 92 1 v' (0+m) ([]++limbs N m)) (hg:(w.alloc (.cells #[] 92)).grownBy W' (some w.heap.size)):W'.ownsRow w.heap.size 92 1 v' m (limbs N m)/\Below w.heap.size w W':=by
 rw[Nat.zero_add,List.nil_append]at hown
 exact⟨hown,((Below.refl _ w).alloc zv0 _).grown hg (by simp) (fun k e=>by cases e;exact Nat.le_refl _)⟩
theorem zsE {N n F:Nat}(h:N<Bw^n)(hF:F<=n):N/Bw^F<Bw^(n - F):=by
 rw[Nat.div_lt_iff_lt_mul (zag F),<-zaY,show n - F+F=n by omega]
 exact h
theorem zoS (w:World)(ad:Addr)(xn xc xN:Nat)(y:Num)(hx:(Num.mk (some ad) xn xc xN).ok w w.heap.size)(hy:y.ok w w.heap.size)(hn:xn<=800)(hn':y.n<=800)(hz:y.N≠0)(hl:lenL y.N<=xn):
  Calls Tryz.prog 127 #[.slice (some ad) xn xc,.slice y.A y.n y.c] w (zjO w xN y.N):=by
 have hM:0<y.N:=by omega
 have HL:=zvY (zcd hz)
 have HLy:=zvY (zai.2 hy.1.1)
 have HM:=zvY hM
 have HX:=zvY hx.1.1
 have hxc:xn<=xc:=hx.2.1
 have hE0:Env w [⟨some ad,xn,xc,xN⟩,y] w:=Env.start (by simp;exact⟨hx,hy⟩)
 obtain⟨F,hFe⟩:∃F,xn+1 - lenL y.N=F:=⟨_,rfl⟩
 have hFn:F<=xn:=by have:=HL.out;omega
 have hF0:0<F:=by omega
 have HS:=zvY (show xN/Bw^F<y.N by rw[<-hFe];exact ziz hx.1.1 hM)
 have HF:=zvY hFe
 obtain⟨i0,hi,hz0,hz1,hz2⟩:=info_parts zbJ
 have HX0:=zvY hx
 have HY0:=zvY hy
 clear hz hM hx hy hl hFe
 go_enter Tryz.func127,Tryz.ntmps127
 go_wp2_with fail
 refine(zb1 (x:=y) hE0 (by simp)).mono ?_
 rintro e W1 ⟨t,rfl,tN,tn,hE1,-⟩
 have t0:0<t.n:=by rw[tn];exact HL.out
 have t1:((t.n:Int)==0)=false:=by rw[beq_eq_false_iff_ne];omega
 replace tn:=zvY tn
 replace tN:=zvY tN
 obtain⟨W2,hmk,hF1,hb1,hs1⟩:=zb6 W1 xn (by omega)
 have hE2:=hE1.step hb1
 have HW1:=zvY hE1.1.size
 have hE3:Env W2 [⟨some ad,xn,xc,xN⟩,y] W2:=Env.start (fun z hz=>hE2.2 z (by simp at hz ⊢;rcases hz with rfl|rfl <;> simp))
 have HW2:=zvY hE2.1
 have HF1:=zvY (Buf.of_fr hF1)
 clear hE0 hE1 hE2 hb1 hF1
 go_wp2_with fail
 refine(zb1 (x:=y) hE3 (by simp)).mono ?_
 rintro e W3 ⟨u,rfl,uN,un,hE4,-⟩
 have u0:0<u.n:=by rw[un];exact HL.out
 have ub:u.n<=800:=by rw[un];have:=HLy.out;omega
 have e1:(xn:Int) - (u.n:Int)+1=(F:Int):=by rw[un];have:=HF.out;have:=HLy.out;omega
 replace un:=zvY un
 replace uN:=zvY uN
 clear hmk
 have HR:=zvY (zck (k:=xn - F) ((hE4.2 ⟨some ad,xn,xc,xN⟩ (by simp)).1.high hFn) zv0)
 have HR':=zvY (fun e:xc=F=>zck (k:=xn - F) (((hE4.2 ⟨some ad,xn,xc,xN⟩ (by simp)).1.high hFn).empty (A':=some ad) (show xn - F=0 by omega)) zv0)
 have HN0:=zvY (hE4.2 ⟨some ad,xn,xc,xN⟩ (by simp)).1.1
 by_cases hxF:xc=F
 all_goals
  go_wp2_with (at_builtin;refine zaC _ rfl (.tmp 28) (.tmp 31) _ rfl W3.heap.size 92 i0 (.int .u32 0) 4 Tryz.underlying23 hi hz0 hz1 hz2 rfl (.slice (some ⟨W3.heap.size,0,none⟩) 0 0) 0 [] rfl (World.ownsRow_lit W3 #[] 0 zv0 (by simp) rfl) _ (xn - F) _ (limbs (xN/Bw^F) (xn - F)) rfl (zat _ _) (by first|exact HR.out|exact HR'.out hxF|exact HR'.out rfl) zcg (by simp only[maxLen];omega) (by omega) (by simp) ?_;intro v1 W4 hown1 hg1 _;have HT:=zvY (zgw hown1 hg1);clear hown1 hg1)
  refine(zc5 HT.out.2 HT.out.1 (zsE HX.out hFn)).mono ?_
  intro e W5 hg
  obtain⟨r,rfl,rN,rn,hE5,-⟩:=zbh hE4 hg (by have:=zaG (Nat.div_le_self xN (Bw^F));have:=zai.2 HX.out;omega)
  clear hg HT HR HR'
  have hgw:w.heap.size<=W1.heap.size:=HW1.out
  have hsz:W1.heap.size<W5.heap.size:=by have:=hE5.1.size;omega
  have hb5:=(HW2.out.trans (hE5.1.mono HW2.out.size))
  have HB5:=zvY (HF1.out.below (by omega) hE5.1)
  replace rn:=zvY rn
  replace rN:=zvY rN
  go_wp2
  go_loopw [9,10] (fun rv i wr=>zjm (fun s=>∃r:Num,rv= .slice r.A r.n r.c/\s<=32*F/\r.n<=800/\Hid (r.N=xN/2^s%y.N)/\Hid (Env w [r,⟨some ad,xn,xc,xN⟩,y] wr)/\W1.heap.size<wr.heap.size/\Hid (∃O,Buf wr W1.heap.size xn O/\O<Bw^xn/\O=2^s*(xN/2^s/y.N))) i) (fun _ i _=>(intOf i+1).toNat)
  case atStart=>
   have h:=zdL (P:=fun s=>∃r':Num,Value.slice r.A r.n r.c= .slice r'.A r'.n r'.c/\s<=32*F/\r'.n<=800/\Hid (r'.N=xN/2^s%y.N)/\Hid (Env w [r',⟨some ad,xn,xc,xN⟩,y] W5)/\W1.heap.size<W5.heap.size/\Hid (∃O,Buf W5 W1.heap.size xn O/\O<Bw^xn/\O=2^s*(xN/2^s/y.N))) (32*F) (by omega)
    ⟨r,rfl,Nat.le_refl _,by rw[rn.out];have:=zaG (Nat.div_le_self xN (Bw^F));have:=zai.2 HX.out;omega,zvY (by rw[rN.out,<-zbo,Nat.mod_eq_of_lt HS.out]),zvY ⟨hb5,fun z hz=>hE5.2 z (by simp at hz ⊢;rcases hz with rfl|rfl|rfl <;> simp)⟩,hsz,zvY ⟨0,HB5.out,zag _,by rw[<-zbo,Nat.div_eq_of_lt HS.out,Nat.mul_zero]⟩⟩
   rwa [show((32*F:Nat):Int) - 1=32*(F:Int) - 1 by omega]at h
  case round=>
   clear hE5 hb5 HB5 hsz rn rN
   rcases hrel with⟨rfl,r',rfl,hs,hrb,hrN,henv,hsz,hbuf⟩|⟨σ,hσ,rfl,r',rfl,hs,hrb,hrN,henv,hsz,hbuf⟩
   ·obtain⟨O,o1,o2,o3⟩:=hbuf.out
    rw[Nat.pow_zero,Nat.one_mul,Nat.div_one]at o3
    have hrN':r'.N=zcl xN y.N:=by rw[hrN.out,Nat.pow_zero,Nat.div_one,zcD (by have:=HM.out;omega)]
    have E:=zvY (zbs wr _ xn xn O (o1.rd o2 (fun _=>hsz)) zv0 (by simp only[maxLen];omega))
    rw[o3]at E
    have HRN:=zvY hrN'
    clear o1 o2 o3 hrN'
    go_wp2_with fail
    refine E.out.mono ?_
    rintro e W8 ⟨A2,c2,rfl,g1,g2,g3,g4⟩
    obtain⟨k1,k2,k3,k4⟩:=(henv.out.2 r' (by simp)).later g4
    have E2:=zvY (zbs W8 _ _ _ _ k1 k2 k3 k4)
    rw[HRN.out]at E2
    clear k1 k2 k3 k4
    go_wp2_with fail
    refine E2.out.mono ?_
    rintro e W9 ⟨A3,c3,rfl,f1,f2,f3,f4⟩
    go_wp2
    go_ret3
    refine⟨A2,c2,A3,c3,by rw[zeU (by have:=HM.out;omega)];rfl,g1,g2,f1,f2,((g3.from henv.out.1.size).keep f4).more f4.size,f3.from (zv2 henv.out.1.size g4.size),henv.out.1.trans ((g4.trans (f4.mono g4.size)).mono henv.out.1.size)⟩
   ·obtain⟨p,t,ht,hp⟩:∃p t,t<32/\σ=32*p+t:=⟨σ/32,σ%32,by omega,by omega⟩
    have hq:(σ:Int)/32=(p:Int):=by omega
    have hr:(σ:Int)%32=(t:Int):=by omega
    have hpn:p<xn:=by omega
    have HP:=zvY hp
    clear hp
    have hE6:Env wr [r',⟨some ad,xn,xc,xN⟩,y] wr:=Env.start henv.out.2
    go_wp2_with fail
    refine(ztp (x:=r') (k:=1) hE6 (by simp)).mono ?_
    rintro e W6 ⟨r1,rfl,r1N,r1n,hE7,-⟩
    obtain⟨ad',e',hadb,hcx⟩:=(hE7.2 ⟨some ad,xn,xc,xN⟩ (by simp)).1.at_ hpn
    cases e'
    replace r1N:=zvY r1N
    replace r1n:=zvY r1n
    have hRM:r'.N<y.N:=by rw[hrN.out];exact Nat.mod_lt _ HM.out
    have hr1:r1.N=2*r'.N:=by rw[r1N.out,show min (1:Int).toNat 65536=1 from rfl];omega
    have hr1b:r1.n<=801:=by
     rw[r1n.out]
     have h1:=zaG (show r'.N*2^min (1:Int).toNat 65536<=y.N+y.N by rw[show min (1:Int).toNat 65536=1 from rfl];omega)
     have h2:=zc2 (zaF y.N) (zaF y.N)
     have h3:=HLy.out
     omega
    have HR1:=zvY hr1
    have HRM:=zvY hRM
    clear hr1 hRM
    have hbit:=zp1 (N:=xN) (p:=p) ht
    rw[<-HP.out]at hbit
    rcases(show zee xN σ=0\/zee xN σ=1 by have:=zmV xN σ;omega)with hb|hb
    ·rw[hb]at hbit
     have hb2:(bits BinOp.and IntKind.u32 ((dig xN p:Int)/2^t) 1==1)=false:=by rw[hbit];rfl
     have HB:=zvY hb
     clear hbit hb
     go_wp2_with fail
     by_cases hle:y.N<=r1.N
     ·refine(zgv (x:=r1) (y:=y) hE7 (by simp) (by simp) (by omega) (by omega) hle).mono ?_
      rintro e W7 ⟨d,rfl,dN,dn,hE8,hFd⟩
      obtain⟨O,o1,o2,o3⟩:=hbuf.out
      obtain⟨hc3,hc4⟩:=(o1.below hsz hE8.1) p hpn
      have HO:=zvY o1
      have HO2:=zvY o2
      have HO3:=zvY o3
      replace dN:=zvY dN
      replace dn:=zvY dn
      clear o1 o2 o3
      have d3:=zav O p
      go_wp2
      go_roundw
      case rel=>
       have h3:=zkB HM.out rfl rfl (show y.N<=2*(xN/2^(σ+1)%y.N)+zee xN σ by rw[HB.out,<-hrN.out];have:=HR1.out;omega)
       have hO':=HO3.out
       rw[HP.out]at hO'
       obtain⟨O',q1,q2,q3⟩:=zmW (p:=p) ht hpn (HO.out.below hsz hE8.1) HO2.out hO'
       rw[<-HP.out]at q3
       refine zdL σ (by omega) ⟨d,rfl,by omega,?_,zvY ?_,zvY (Env.put HX0.out HY0.out henv.out hE8 hFd hgw (by have:=hE7.1.size;simp at this ⊢;omega) _),by have:=hE8.1.size;simp;omega,zvY ⟨O',q1,q2,?_⟩⟩
       ·rw[dn.out]
        have h4:=zaG (show r1.N - y.N<=y.N by have h5:=HR1.out;have h6:=HRM.out;omega)
        have h5:=HLy.out
        omega
       ·rw[dN.out,h3.2,HB.out]
        have h4:=HR1.out
        have h5:=hrN.out
        omega
       ·rw[q3,h3.1]
      case measure=>simp[intOf]
     ·refine(zjL _ _ _ _ _ _ _ _ _ (hE7.2 r1 (by simp)).1 (hE7.2 y (by simp)).1 (by omega) (by omega) (by omega)).mono ?_
      rintro e W7 ⟨rfl,rfl⟩
      obtain⟨O,o1,o2,o3⟩:=hbuf.out
      have HO:=zvY (o1.below hsz hE7.1)
      have HO2:=zvY o2
      have HO3:=zvY o3
      clear o1 o2 o3
      go_wp2
      go_roundw
      case rel=>
       have h3:=zkA HM.out rfl rfl (show 2*(xN/2^(σ+1)%y.N)+zee xN σ<y.N by rw[HB.out,<-hrN.out];have:=HR1.out;omega)
       refine zdL σ (by omega) ⟨r1,rfl,by omega,?_,zvY ?_,zvY (henv.out.next hE7 (by simp) (by simp)),by have:=hE7.1.size;simp at this ⊢;omega,zvY ⟨O,HO.out,HO2.out,?_⟩⟩
       ·have h4:=zaG (show r1.N<=y.N by omega)
        have h5:=HLy.out
        have h6:=(show r1.n=lenL r1.N by rw[r1n.out,r1N.out])
        omega
       ·rw[h3.2,HB.out]
        have h4:=HR1.out
        have h5:=hrN.out
        omega
       ·rw[HO3.out,h3.1,Nat.pow_succ,Nat.mul_assoc]
      case measure=>simp[intOf]
    ·rw[hb]at hbit
     have hb2:(bits BinOp.and IntKind.u32 ((dig xN p:Int)/2^t) 1==1)=true:=by rw[hbit];rfl
     have HB:=zvY hb
     clear hbit hb
     go_wp2_with fail
     have hE8:=hE7.lit (N:=1) (v:=1) rfl rfl (by omega)
     refine(zjK (x:=r1) (y:=⟨some ⟨W6.heap.size,0,none⟩,1,1,1⟩) hE8 (by simp) (by simp) (by simp) (by omega) (by simp)).mono ?_
     rintro e W8 ⟨r2,rfl,r2N,r2n,hE9,-⟩
     replace r2N:r2.N=r1.N+1:=r2N
     replace r2n:r2.n=lenL (r1.N+1):=r2n
     have hr2b:r2.n<=801:=by
      rw[r2n]
      have h1:=zaG (show r1.N+1<=y.N+y.N by have h5:=HR1.out;have h6:=HRM.out;omega)
      have h2:=zc2 (zaF y.N) (zaF y.N)
      have h3:=HLy.out
      omega
     replace r2N:=zvY r2N
     replace r2n:=zvY r2n
     go_wp2_with fail
     by_cases hle:y.N<=r2.N
     ·refine(zgv (x:=r2) (y:=y) hE9 (by simp) (by simp) (by omega) (by omega) hle).mono ?_
      rintro e W7 ⟨d,rfl,dN,dn,hE10,hFd⟩
      obtain⟨O,o1,o2,o3⟩:=hbuf.out
      obtain⟨hc3,hc4⟩:=(o1.below hsz hE10.1) p hpn
      have HO:=zvY o1
      have HO2:=zvY o2
      have HO3:=zvY o3
      replace dN:=zvY dN
      replace dn:=zvY dn
      clear o1 o2 o3
      have d3:=zav O p
      go_wp2
      go_roundw
      case rel=>
       have h3:=zkB HM.out rfl rfl (show y.N<=2*(xN/2^(σ+1)%y.N)+zee xN σ by rw[HB.out,<-hrN.out];have:=HR1.out;have h9:=r2N.out;omega)
       have hO':=HO3.out
       rw[HP.out]at hO'
       obtain⟨O',q1,q2,q3⟩:=zmW (p:=p) ht hpn (HO.out.below hsz hE10.1) HO2.out hO'
       rw[<-HP.out]at q3
       refine zdL σ (by omega) ⟨d,rfl,by omega,?_,zvY ?_,zvY (Env.put HX0.out HY0.out henv.out hE10 hFd hgw (by have:=hE9.1.size;simp at this ⊢;omega) _),by have:=hE10.1.size;simp;omega,zvY ⟨O',q1,q2,?_⟩⟩
       ·rw[dn.out]
        have h4:=zaG (show r2.N - y.N<=y.N by have h5:=HR1.out;have h6:=HRM.out;have h9:=r2N.out;omega)
        have h5:=HLy.out
        omega
       ·rw[dN.out,h3.2,HB.out]
        have h4:=HR1.out
        have h5:=hrN.out
        have h9:=r2N.out;omega
       ·rw[q3,h3.1]
      case measure=>simp[intOf]
     ·refine(zjL _ _ _ _ _ _ _ _ _ (hE9.2 r2 (by simp)).1 (hE9.2 y (by simp)).1 (by omega) (by omega) (by omega)).mono ?_
      rintro e W7 ⟨rfl,rfl⟩
      obtain⟨O,o1,o2,o3⟩:=hbuf.out
      have HO:=zvY (o1.below hsz hE9.1)
      have HO2:=zvY o2
      have HO3:=zvY o3
      clear o1 o2 o3
      go_wp2
      go_roundw
      case rel=>
       have h3:=zkA HM.out rfl rfl (show 2*(xN/2^(σ+1)%y.N)+zee xN σ<y.N by rw[HB.out,<-hrN.out];have:=HR1.out;have h9:=r2N.out;omega)
       refine zdL σ (by omega) ⟨r2,rfl,by omega,?_,zvY ?_,zvY (henv.out.next hE9 (by simp) (by simp)),by have:=hE9.1.size;simp at this ⊢;omega,zvY ⟨O,HO.out,HO2.out,?_⟩⟩
       ·have h4:=zaG (show r2.N<=y.N by omega)
        have h5:=HLy.out
        have h6:=(show r2.n=lenL r2.N by rw[r2n.out,r2N.out])
        omega
       ·rw[h3.2,HB.out]
        have h4:=HR1.out
        have h5:=hrN.out
        have h9:=r2N.out;omega
       ·rw[HO3.out,h3.1,Nat.pow_succ,Nat.mul_assoc]
      case measure=>simp[intOf]
theorem zmr (w:World)(x y:Num)(hx:x.ok w w.heap.size)(hy:y.ok w w.heap.size)(hn:x.n<=800)(hn':y.n<=800)(hz:y.N≠0)(hl:x.n+1<=lenL y.N):
  Calls Tryz.prog 127 #[.slice x.A x.n x.c,.slice y.A y.n y.c] w (zjO w x.N y.N):=by
 have hM:0<y.N:=by omega
 have HL:=zvY (zcd hz)
 have HLy:=zvY (zai.2 hy.1.1)
 have HM:=zvY hM
 have hE0:Env w [x,y] w:=Env.start (by simp;exact⟨hx,hy⟩)
 have hlt:x.N<y.N:=by
  have:=ziz hx.1.1 hM
  rwa [show x.n+1 - lenL y.N=0 by omega,Nat.pow_zero,Nat.div_one]at this
 have HLT:=zvY hlt
 have HXY:=zvY hl
 obtain⟨i0,hi,hz0,hz1,hz2⟩:=info_parts zbJ
 clear hz hM hy hl hlt
 obtain⟨xA,xn,xc,xN⟩:=x
 have hxc:xn<=xc:=hx.2.1
 have hxm:xc<=maxLen:=hx.2.2.1
 have HX0:=zvY (show xA=none->xn=0 from fun e=>by
  rcases zv7 xn with h|h
  ·exact h
  ·obtain⟨ad,e2,_⟩:=hx.1.2 h
   have e3:xA=some ad:=e2
   rw[e]at e3
   cases e3)
 have hn:xn<=800:=hn
 have HX:=zvY hx.1.1
 clear hx
 cases xA with
 |none=>
  obtain rfl:xn=0:=HX0.out rfl
  go_enter Tryz.func127,Tryz.ntmps127
  go_wp2_with fail
  refine(zb1 (x:=y) hE0 (by simp)).mono ?_
  rintro e W1 ⟨t,rfl,tN,tn,hE1,-⟩
  have t0:0<t.n:=by rw[tn];exact HL.out
  have t1:((t.n:Int)==0)=false:=by rw[beq_eq_false_iff_ne];omega
  replace tn:=zvY tn
  replace tN:=zvY tN
  obtain⟨W2,hmk,hF1,hb1,hs1⟩:=zb6 W1 0 (by omega)
  rw[show((0:Nat):Int)=(0:Int)from rfl]at hmk
  have hE2:=hE1.step hb1
  have hE3:Env W2 [⟨none,0,xc,xN⟩,y] W2:=⟨Below.refl _ _,fun z hz=>hE2.2 z (List.mem_cons_of_mem _ hz)⟩
  have HW1:=zvY hE1.1.size
  have HW2:=zvY hE2.1
  have HF1:=zvY (Buf.of_fr hF1)
  clear hE0 hE1 hE2 hb1 hF1
  go_wp2_with fail
  refine(zb1 (x:=y) hE3 (by simp)).mono ?_
  rintro e W3 ⟨u,rfl,uN,un,hE4,-⟩
  have u0:0<u.n:=by rw[un];exact HL.out
  have ub:u.n<=800:=by rw[un];have:=HLy.out;omega
  have e1:(0:Int) - (u.n:Int)+1<=0:=by rw[un];have h1:=HXY.out;omega
  replace un:=zvY un
  replace uN:=zvY uN
  have HR:=zvY (zck (k:=0) (hE4.2 ⟨none,0,xc,xN⟩ (by simp)).1 zv0)
  clear hmk
  rcases(show(0:Int) - (u.n:Int)+1=0\/(0:Int) - (u.n:Int)+1<0 by omega)with e2|e2
  all_goals
   clear e1
   go_wp2_with (at_builtin;refine zaC _ rfl (.tmp 28) (.tmp 31) _ rfl W3.heap.size 92 i0 (.int .u32 0) 4 Tryz.underlying23 hi hz0 hz1 hz2 rfl (.slice (some ⟨W3.heap.size,0,none⟩) 0 0) 0 [] rfl (World.ownsRow_lit W3 #[] 0 zv0 (by simp) rfl) _ 0 _ (limbs xN 0) rfl (zat _ _) HR.out zcg (by simp only[maxLen];omega) (by omega) (by simp) ?_;intro v1 W4 hown1 hg1 _;have HT:=zvY (zgw hown1 hg1);clear hown1 hg1)
   all_goals
    refine(zc5 HT.out.2 HT.out.1 HX.out).mono ?_
    intro e W5 hg
    obtain⟨r,rfl,rN,rn,hE5,hrF⟩:=zbh hE4 hg (by have:=zai.2 HX.out;omega)
    have h35:Below W3.heap.size W3 W5:=by
     obtain⟨_,_,_,_,_,_,hb⟩:=hg
     exact hb
    have hsz:W1.heap.size<W5.heap.size:=by have:=hE5.1.size;omega
    have hb5:=zvY (HW2.out.trans (hE5.1.mono HW2.out.size))
    have HB5:=HF1.out.below (by omega) hE5.1
    have HRF:=zvY hrF
    have H35:=zvY h35
    have H53:=zvY hE4.1.size
    replace rn:=zvY rn
    replace rN:=zvY rN
    have E:=zvY (zbs W5 _ 0 0 0 (HB5.rd (zag _) (fun _=>hsz)) zv0 (by simp only[maxLen];omega))
    clear HT HR hg hrF h35 HB5
    go_wp2
    go_loopw [9,10] (fun rv i wr=>rv= .slice r.A r.n r.c/\i= .int .i64 (-1)/\wr=W5) (fun _ _ _=>0)
    case atStart=>exact⟨rfl,rfl,rfl⟩
    case round=>
     obtain⟨rfl,rfl,rfl⟩:=hrel
     go_wp2_with fail
     refine E.out.mono ?_
     rintro e W8 ⟨A2,c2,rfl,g1,g2,g3,g4⟩
     obtain⟨k1,k2,k3,k4⟩:=(hE5.2 r (by simp)).later g4
     have E2:=zvY (zbs W8 _ _ _ _ k1 k2 k3 k4)
     rw[rN.out]at E2
     clear k1 k2 k3 k4
     go_wp2_with fail
     refine E2.out.mono ?_
     rintro e W9 ⟨A3,c3,rfl,f1,f2,f3,f4⟩
     go_wp2
     go_ret3
     have q0:xN/y.N=0:=Nat.div_eq_of_lt HLT.out
     have q1:zcl xN y.N=xN:=by rw[zcD (by have:=HM.out;omega),Nat.mod_eq_of_lt HLT.out]
     have hsw:w.heap.size<=wr.heap.size:=hb5.out.size
     refine⟨A2,c2,A3,c3,by rw[q0,q1,zeU (by have:=HM.out;omega)];rfl,by rw[q0];exact g1,g2,by rw[q1];exact f1,f2,by rw[q0];exact((g3.from hsw).keep f4).more f4.size,by rw[q1];exact f3.from (zv2 hsw g4.size),hb5.out.trans ((g4.trans (f4.mono g4.size)).mono hsw)⟩
 |some ad=>
  go_enter Tryz.func127,Tryz.ntmps127
  go_wp2_with fail
  refine(zb1 (x:=y) hE0 (by simp)).mono ?_
  rintro e W1 ⟨t,rfl,tN,tn,hE1,-⟩
  have t0:0<t.n:=by rw[tn];exact HL.out
  have t1:((t.n:Int)==0)=false:=by rw[beq_eq_false_iff_ne];omega
  replace tn:=zvY tn
  replace tN:=zvY tN
  obtain⟨W2,hmk,hF1,hb1,hs1⟩:=zb6 W1 xn (by omega)
  have hE2:=hE1.step hb1
  have hE3:Env W2 [⟨some ad,xn,xc,xN⟩,y] W2:=⟨Below.refl _ _,fun z hz=>hE2.2 z (List.mem_cons_of_mem _ hz)⟩
  have HW1:=zvY hE1.1.size
  have HW2:=zvY hE2.1
  have HF1:=zvY (Buf.of_fr hF1)
  clear hE0 hE1 hE2 hb1 hF1
  go_wp2_with fail
  refine(zb1 (x:=y) hE3 (by simp)).mono ?_
  rintro e W3 ⟨u,rfl,uN,un,hE4,-⟩
  have u0:0<u.n:=by rw[un];exact HL.out
  have ub:u.n<=800:=by rw[un];have:=HLy.out;omega
  have e1:(xn:Int) - (u.n:Int)+1<=0:=by rw[un];have h1:=HXY.out;omega
  replace un:=zvY un
  replace uN:=zvY uN
  have HR:=zvY (zck (k:=xn) (hE4.2 ⟨some ad,xn,xc,xN⟩ (by simp)).1 zv0)
  clear hmk
  rcases(show(xn:Int) - (u.n:Int)+1=0\/(xn:Int) - (u.n:Int)+1<0 by omega)with e2|e2
  all_goals
   clear e1
   go_wp2_with (at_builtin;refine zaC _ rfl (.tmp 28) (.tmp 31) _ rfl W3.heap.size 92 i0 (.int .u32 0) 4 Tryz.underlying23 hi hz0 hz1 hz2 rfl (.slice (some ⟨W3.heap.size,0,none⟩) 0 0) 0 [] rfl (World.ownsRow_lit W3 #[] 0 zv0 (by simp) rfl) _ xn _ (limbs xN xn) rfl (zat _ _) HR.out zcg (by simp only[maxLen];omega) (by omega) (by simp) ?_;intro v1 W4 hown1 hg1 _;have HT:=zvY (zgw hown1 hg1);clear hown1 hg1)
   all_goals
    refine(zc5 HT.out.2 HT.out.1 HX.out).mono ?_
    intro e W5 hg
    obtain⟨r,rfl,rN,rn,hE5,hrF⟩:=zbh hE4 hg (by have:=zai.2 HX.out;omega)
    have h35:Below W3.heap.size W3 W5:=by
     obtain⟨_,_,_,_,_,_,hb⟩:=hg
     exact hb
    have hsz:W1.heap.size<W5.heap.size:=by have:=hE5.1.size;omega
    have hb5:=zvY (HW2.out.trans (hE5.1.mono HW2.out.size))
    have HB5:=HF1.out.below (by omega) hE5.1
    have HRF:=zvY hrF
    have H35:=zvY h35
    have H53:=zvY hE4.1.size
    replace rn:=zvY rn
    replace rN:=zvY rN
    have E:=zvY (zbs W5 _ xn xn 0 (HB5.rd (zag _) (fun _=>hsz)) zv0 (by simp only[maxLen];omega))
    clear HT HR hg hrF h35 HB5
    go_wp2
    go_loopw [9,10] (fun rv i wr=>rv= .slice r.A r.n r.c/\i= .int .i64 (-1)/\wr=W5) (fun _ _ _=>0)
    case atStart=>exact⟨rfl,rfl,rfl⟩
    case round=>
     obtain⟨rfl,rfl,rfl⟩:=hrel
     go_wp2_with fail
     refine E.out.mono ?_
     rintro e W8 ⟨A2,c2,rfl,g1,g2,g3,g4⟩
     obtain⟨k1,k2,k3,k4⟩:=(hE5.2 r (by simp)).later g4
     have E2:=zvY (zbs W8 _ _ _ _ k1 k2 k3 k4)
     rw[rN.out]at E2
     clear k1 k2 k3 k4
     go_wp2_with fail
     refine E2.out.mono ?_
     rintro e W9 ⟨A3,c3,rfl,f1,f2,f3,f4⟩
     go_wp2
     go_ret3
     have q0:xN/y.N=0:=Nat.div_eq_of_lt HLT.out
     have q1:zcl xN y.N=xN:=by rw[zcD (by have:=HM.out;omega),Nat.mod_eq_of_lt HLT.out]
     have hsw:w.heap.size<=wr.heap.size:=hb5.out.size
     refine⟨A2,c2,A3,c3,by rw[q0,q1,zeU (by have:=HM.out;omega)];rfl,by rw[q0];exact g1,g2,by rw[q1];exact f1,f2,by rw[q0];exact((g3.from hsw).keep f4).more f4.size,by rw[q1];exact f3.from (zv2 hsw g4.size),hb5.out.trans ((g4.trans (f4.mono g4.size)).mono hsw)⟩
theorem zq9 (w:World)(x y:Num)(hx:x.ok w w.heap.size)(hy:y.ok w w.heap.size)(hn:x.n<=800)(hn':y.n<=800):
  Calls Tryz.prog 127 #[.slice x.A x.n x.c,.slice y.A y.n y.c] w (zjO w x.N y.N):=by
 by_cases hz:y.N=0
 ·obtain⟨h1,h2,h3,h4⟩:=hy
  have:=zoR w x.A y.A x.n y.n x.c y.c x.N y.N h1 h2 h3 (by omega) hz
  exact this
 ·rcases zv6 x.n (lenL y.N)with h|h
  ·exact zmr w x y hx hy hn hn' hz h
  ·obtain⟨xA,xn,xc,xN⟩:=x
   have h0:0<xn:=zv3 (zcd hz) h
   obtain⟨ad,e,_⟩:=hx.1.2 h0
   have e2:xA=some ad:=e
   subst e2
   exact zoS w ad xn xc xN y hx hy hn hn' hz h
theorem zra {w W:World}{e:List Num}{x y:Num}(h:Env w e W)(hx:x∈e)(hy:y∈e)(bx:x.n<=800)(by':y.n<=800):
  Calls Tryz.prog 127 #[.slice x.A x.n x.c,.slice y.A y.n y.c] W fun e' W'=>
   ∃q r:Num,e'= .returned (.tuple #[.slice q.A q.n q.c,.slice r.A r.n r.c,.int .i64 (zfQ y.N)])/\q.N=x.N/y.N/\q.n=lenL (x.N/y.N)/\r.N=zcl x.N y.N/\r.n=lenL (zcl x.N y.N)/\Env w (q::r::e) W':=by
 have hl:∀M,M<=x.N->lenL M<=35184372087808:=fun M hM=>by
  have h1:=zaG hM
  have h2:=zai.2 (h.2 x hx).1.1
  omega
 refine(zq9 W x y (h.2 x hx) (h.2 y hy) bx by').mono ?_
 rintro e' W' ⟨A,c,A',c',he,g1,g2,g3,g4,g5,g6,g7⟩
 have hE:=h.step g7
 have hr:(Num.mk A' (lenL (zcl x.N y.N)) c' (zcl x.N y.N)).ok W' W'.heap.size:=g6.ok g3 g4 (hl _ (zkw _ _))
 have hq:(Num.mk A (lenL (x.N/y.N)) c (x.N/y.N)).ok W' W'.heap.size:=g5.ok g1 g2 (hl _ (Nat.div_le_self _ _))
 exact⟨_,_,he,rfl,rfl,rfl,rfl,(hE.add hr).add hq⟩
end Go.Proofs.YtipckjmgdghkiaaGreatDoor
