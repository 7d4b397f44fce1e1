/- A part. -/
import Derived.Laws.IdiomCopy
import Derived.Test.YtipckjmgdghkiaaGreatDoorGProdA
set_option maxHeartbeats 4000000
set_option maxRecDepth 100000
namespace Go.Proofs.YtipckjmgdghkiaaGreatDoor
open Go Go.RowKit
theorem zdG {X Y i:Nat}(h:X<Bw^i)(j:Nat):dig (X+Bw^i*Y) j=if j<i then dig X j else dig Y (j - i):=by
 unfold dig
 split
 ·next hj=>
  obtain⟨k,rfl⟩:∃k,i=j+1+k:=⟨i - (j+1),by omega⟩
  rw[show Bw^(j+1+k)*Y=Bw^j*(Bw*(Bw^k*Y))from by rw[Nat.pow_add,Nat.pow_succ];ac_rfl,Nat.add_mul_div_left _ _ (zag j),Nat.add_mul_mod_self_left]
 ·next hj=>
  obtain⟨k,rfl⟩:∃k,j=i+k:=⟨j - i,by omega⟩
  rw[Nat.pow_add,<-Nat.div_div_eq_div_mul,Nat.add_mul_div_left _ _ (zag i),Nat.div_eq_of_lt h,Nat.zero_add,show i+k - i=k by omega]
theorem zeI (g:Nat):∀(vs:List Value) (o:Nat) (W:World),W.grownBy (W.setCells g o vs) (some g)
 |[],_,_=>World.grownBy.refl _ _
 |v::r,o,_=>(wrote _ g o v).trans (zeI g r (o+1) _)
theorem zcn {w w1:World}{r:Option Nat}(hb:Below w.heap.size w w1):w.grownBy w1 r:=⟨hb.os,hb.tape,hb.output,hb.size,fun k hk _=>hb.block k hk⟩
theorem zkO {W:World}{g L O i dl dc sl sc k N:Nat}{A:Option Addr}{hi:Nat}(hb:Buf W g L O)(hO:O<Bw^(i+k))(hk:k=min sl dl)(hi1:i+k<=L)(h:Rd W hi A sl N):
  (Builtin.copy_ #[23,23] 3 #[.slice (some ⟨g,i,none⟩) dl dc,.slice A sl sc]).run Tryz.prog W= .ok (.int .i64 (k:Nat)) (W.setCells g i (limbs N k))/\
   Buf (W.setCells g i (limbs N k)) g L (O%Bw^i+Bw^i*(N%Bw^k)):=by
 obtain⟨i0,hinf,hz0,hz1,hz2⟩:=info_parts zbJ
 constructor
 ·rcases zv7 k with h0|h0
  ·subst h0
   have:=run_copy_none (P:=Tryz.prog) W 23 23 3 92 (some ⟨g,i,none⟩) A dl dc sl sc Tryz.underlying23 (by rw[hinf,Option.map_some,hz1]) hk.symm
   exact this
  ·obtain⟨ad,rfl,_,hc⟩:=h.2 (by omega)
   have:=run_copy_cells (P:=Tryz.prog) W 23 23 3 92 g i dl dc ad sl sc (limbs N k) Tryz.underlying23 (by rw[hinf,Option.map_some,hz1]) (by rw[zat];exact hk)
    (fun j v hv=>by
     obtain⟨hj,rfl⟩:=zd0 hv
     exact hc j (by omega))
    (fun j hj=>by rw[zat]at hj;rw[(hb (i+j) (by omega)).1];rfl)
    (fun j hj=>by rw[zat]at hj;exact(hb (i+j) (by omega)).2)
    zcg
   rw[zat]at this
   exact this
 ·intro j hj
  obtain⟨h1,h2⟩:=hb j hj
  refine⟨?_,by rw[World.frozen?_setCells];exact h2⟩
  rw[zdG (Nat.mod_lt _ (zag i))]
  by_cases e1:j<i
  ·rw[if_pos e1,World.cell?_setCells_out _ _ _ _ _ (fun _ _=> .inl e1),h1]
   have:dig (O%Bw^i) j=dig O j:=by
    have:=zdG (Y:=O/Bw^i) (Nat.mod_lt O (zag i)) j
    rw[if_pos e1,Nat.mod_add_div]at this
    exact this.symm
   rw[this]
  ·rw[if_neg e1]
   by_cases e2:j<i+k
   ·have:=World.cell?_setCells_in g (limbs N k) i W (fun q hq=>by rw[zat]at hq;rw[(hb (i+q) (by omega)).1];rfl) (j - i) (by rw[zat];omega)
    rw[show i+(j - i)=j by omega]at this
    rw[this]
    have h5:=zci (N:=N) (show j - i<k by omega)
    rw[List.getElem?_eq_getElem (by rw[zat];omega)]at h5
    rw[h5]
    have:=zdG (Y:=N/Bw^k) (Nat.mod_lt N (zag k)) (j - i)
    rw[if_pos (by omega),Nat.mod_add_div]at this
    rw[this]
   ·rw[World.cell?_setCells_out _ _ _ _ _ (fun _ _=> .inr (by rw[zat];simp only;omega)),h1,zbN hO (by omega),zbN (Nat.mod_lt N (zag k)) (by omega)]
theorem zjy {x y:Nat}(hx:x<4294967296)(hy:y<4294967296):bits BinOp.or IntKind.u64 ((x:Int)*4294967296) y=((x*4294967296+y:Nat):Int):=by
 have h3:=u64_or_nat (x*4294967296) y (by omega) (by omega)
 have h4:x*4294967296 ||| y=x*4294967296+y:=by
  have:=Nat.shiftLeft_add_eq_or_of_lt (i:=32) (b:=y) (by omega) x
  rw[Nat.shiftLeft_eq]at this
  exact this.symm
 rw[h4]at h3
 exact h3
theorem zop (w:World)(hi:Nat)(A A':Option Addr)(n m c c' U D:Nat)(h:Rd w hi A (n+1) U)(h':Rd w hi A' n D)(hm:n+1<=m)(hn:2<=n)(hnb:m<=9223372036854775806)(hd:dig D (n - 1)≠0)(hlt:U<D*Bw):
  Calls Tryz.prog 238 #[.slice A m c,.slice A' n c'] w fun e w'=>∃q k:Nat,e= .returned (.int .u32 q)/\U/D<=q/\q<=U/D+1/\q<4294967296/\w'=w.drewN k:=by
 have T:=zvY (ztM hn h.1 h'.1 hd hlt)
 obtain⟨ad,rfl,_,hu0⟩:=h.at_ (k:=n) (by omega)
 obtain⟨ad1,e1,_,hu1⟩:=h.at_ (k:=n - 1) (by omega)
 obtain⟨ad2,e2,_,hu2⟩:=h.at_ (k:=n - 2) (by omega)
 obtain⟨ad',rfl,_,hd1⟩:=h'.at_ (k:=n - 1) (by omega)
 obtain⟨ad3,e3,_,hd2⟩:=h'.at_ (k:=n - 2) (by omega)
 cases e1;cases e2;cases e3
 obtain⟨u,hu⟩:∃u,dig U n=u:=⟨_,rfl⟩
 obtain⟨u1,hu'⟩:∃u1,dig U (n - 1)=u1:=⟨_,rfl⟩
 obtain⟨t,ht⟩:∃t,dig U (n - 2)=t:=⟨_,rfl⟩
 obtain⟨hh,hhh⟩:∃hh,dig D (n - 1)=hh:=⟨_,rfl⟩
 obtain⟨l,hl⟩:∃l,dig D (n - 2)=l:=⟨_,rfl⟩
 have b0:=zav U n
 have b1:=zav U (n - 1)
 have b2:=zav U (n - 2)
 have b3:=zav D (n - 1)
 have b4:=zav D (n - 2)
 rw[hu,hu',ht,hhh,hl]at T
 rw[hu]at hu0 b0
 rw[hu']at hu1 b1
 rw[ht]at hu2 b2
 rw[hhh]at hd hd1 b3
 rw[hl]at hd2 b4
 clear h h' hu hu' ht hhh hl
 obtain⟨n1,hn1⟩:∃n1,n - 1=n1:=⟨_,rfl⟩
 obtain⟨n2,hn2⟩:∃n2,n - 2=n2:=⟨_,rfl⟩
 rw[hn1]at hu1 hd1
 rw[hn2]at hu2 hd2
 have i1:(n:Int) - 1=(n1:Int):=by omega
 have i2:(n:Int) - 2=(n2:Int):=by omega
 have j1:n1<n:=by omega
 have j2:n2<n:=by omega
 have k0:n<m:=by omega
 have k1:n1<m:=by omega
 have k2:n2<m:=by omega
 clear hn1 hn2
 have ho:=zjy b0 b1
 obtain⟨H,hH⟩:∃H,u*4294967296+u1=H:=⟨_,rfl⟩
 rw[hH]at ho T
 have hHb:H<18446744073709551616:=by omega
 clear hH
 obtain⟨q0,hq0⟩:∃q0,H/hh=q0:=⟨_,rfl⟩
 obtain⟨r0,hr0⟩:∃r0,H%hh=r0:=⟨_,rfl⟩
 have q0b:q0<=H:=by rw[<-hq0];exact Nat.div_le_self _ _
 have r0b:r0<=H:=by rw[<-hr0];exact Nat.mod_le _ _
 have HS:=zvY (T.out.start)
 rw[hq0,hr0]at HS
 have HQ0:=zvY (show IntKind.u64.wrap ((H:Int)/(hh:Int))=(q0:Int) by rw[zbT,<-Int.natCast_ediv,hq0];omega)
 have HR0:=zvY (show(H:Int)%(hh:Int)=(r0:Int) by rw[<-Int.natCast_emod,hr0])
 clear hq0 hr0
 go_enter Tryz.func238,Tryz.ntmps238
 go_wp2
 apply wp_scope_straight
 go_wp2
 go_quiet (fail)
 go_wp2
 go_quiet (fail)
 go_wp2
 go_quiet (fail)
 go_wp2
 rw[HQ0.out,HR0.out]
 refine wp_label ?_
 go_wp2
 go_loopw [10,11] (fun qv rv wi=>∃q r k:Nat,qv= .int .u64 q/\rv= .int .u64 r/\q<=H/\r<=H/\Hid (zkz U D H hh q r)/\wi=w.drewN k) (fun qv _ _=>(intOf qv).toNat)
 case atStart=>exact⟨q0,r0,_,rfl,rfl,q0b,r0b,HS,by simp only[World.drewN_drewN];rfl⟩
 case round=>
  obtain⟨q,r,k,rfl,rfl,hqb,hrb,hg,hwk⟩:=hrel
  have HW:=zvY hwk
  clear hwk
  by_cases c1:4294967295<q
  ·obtain⟨h1,h2,h3⟩:=T.out.next hg.out (.inl c1)
   have HG:=zvY h2
   clear h2
   have ei:(q:Int) - 1=((q - 1:Nat):Int):=by omega
   obtain⟨q',hq'⟩:∃q',q - 1=q':=⟨_,rfl⟩
   rw[hq']at ei HG
   go_wp2
   go_roundw
   case rel=>exact⟨q',r+hh,k,rfl,by go_num,by omega,h3,HG,HW.out⟩
   case measure=>simp[intOf];omega
  ·by_cases c2:4294967295<r
   ·have HS:=zvY (T.out.stop hg.out c1 (.inl c2))
    go_wp2
    rw[Exit.noGoto_ret]
    go_ret
    exact⟨q,k,rfl,HS.out.1,HS.out.2,by omega,HW.out⟩
   ·have hor:=zjy (x:=r) (y:=t) (by omega) b2
    obtain⟨X,hX⟩:∃X,r*4294967296+t=X:=⟨_,rfl⟩
    have hm0:0<=(q:Int)*(l:Int):=by rw[<-Int.natCast_mul];omega
    have hm1:(q:Int)*(l:Int)<=18446744065119617025:=by
     have:=Nat.mul_le_mul (show q<=4294967295 by omega) (show l<=4294967295 by omega)
     rw[<-Int.natCast_mul];omega
    by_cases c3:q*l<=r*4294967296+t
    ·have HS:=zvY (T.out.stop hg.out c1 (.inr c3))
     rw[hX]at hor
     have hle:(q:Int)*(l:Int)<=(X:Int):=by rw[<-Int.natCast_mul];omega
     clear hX c3
     go_wp2
     rw[Exit.noGoto_ret]
     go_ret
     exact⟨q,k,rfl,HS.out.1,HS.out.2,by omega,HW.out⟩
    ·obtain⟨h1,h2,h3⟩:=T.out.next hg.out (.inr (by omega))
     have HG:=zvY h2
     clear h2
     have ei:(q:Int) - 1=((q - 1:Nat):Int):=by omega
     obtain⟨q',hq'⟩:∃q',q - 1=q':=⟨_,rfl⟩
     rw[hq']at ei HG
     rw[hX]at hor
     have hle: ¬(q:Int)*(l:Int)<=(X:Int):=by rw[<-Int.natCast_mul];omega
     clear hX c3
     go_wp2
     go_roundw
     case rel=>exact⟨q',r+hh,k,rfl,by go_num,by omega,h3,HG,HW.out⟩
     case measure=>simp[intOf];omega
theorem zql (x:Nat)(h:x<18446744073709551616):bits BinOp.and IntKind.u64 (x:Int) 4294967295=((x%4294967296:Nat):Int):=by
 have h3:=u64_and_nat x 4294967295 (by omega) (by omega)
 rw[show x&&&4294967295=x%4294967296 from Nat.and_two_pow_sub_one_eq_mod x 32]at h3
 exact h3
theorem ziK {p c:Nat}(hp:p<4294967296)(hc:c<4294967296):∃b e:Nat,b<=1/\e<4294967296/\e+c=p+b*4294967296/\IntKind.u64.wrap ((p:Int) - (c:Int))%4294967296=(e:Int)/\IntKind.u64.wrap ((p:Int) - (c:Int))/9223372036854775808=(b:Int)/\
  (decide (0<IntKind.u64.wrap ((p:Int) - (c:Int))/9223372036854775808))=decide (0<b):=by
 simp only[zbT]
 rcases zv6 p c with h|h
 ·exact⟨1,p+4294967296 - c,by omega,by omega,by omega,by omega,by omega,by rw[decide_eq_decide];omega⟩
 ·exact⟨0,p - c,by omega,by omega,by omega,by omega,by omega,by rw[decide_eq_decide];omega⟩
theorem zid (w:World)(g L i m c1 n c' O M d:Nat)(A':Option Addr)(hb:Buf w g L O)(hO:O<Bw^(i+n+1))(hin:i+n+1<=L)(hm:n+1<=m)(hc1:m<=c1)(hc2:c1<=9223372036854775806)(h':Rn w g A' n M)(hd:d<4294967296):
  Calls Tryz.prog 239 #[.slice (some ⟨g,i,none⟩) m c1,.slice A' n c',.int .u32 d] w fun e w'=>
   ∃b O',b<=1/\e= .returned (.bool (decide (0<b)))/\w.grownBy w' (some g)/\Buf w' g L O'/\O'<Bw^(i+n+1)/\O'+d*Bw^i*M=O+b*Bw^(i+n+1):=by
 have HY:=zvY h'.1
 have HO:=zvY hO
 have HB:=zvY hb
 clear hb hO
 go_enter Tryz.func239,Tryz.ntmps239
 go_wp2
 go_loopw [8,21] (fun ov kk wi=>∃j v:Nat,j<=n/\kk= .int .i64 j/\ov= .int .u64 v/\v<4294967296/\w.grownBy wi (some g)/\Hid (∃O',Buf wi g L O'/\O'<Bw^(i+n+1)/\O'+d*Bw^i*(M%Bw^j)=O+v*Bw^(i+j))) (fun _ kk _=>n - (intOf kk).toNat)
 case atStart=>exact⟨0,0,Nat.zero_le _,rfl,rfl,by omega,World.grownBy.refl _ _,zvY ⟨O,HB.out,HO.out,by simp[Nat.mod_one]⟩⟩
 case round=>
  obtain⟨j,v,hj,rfl,rfl,hv,hG,hOi⟩:=hrel
  obtain⟨P,o1,o2,o3⟩:=hOi.out
  by_cases hjt:j<n
  ·have hR:=h'.grown hG
   obtain⟨ad',rfl,hadb',hcw'⟩:=hR.at_ hjt
   obtain⟨p,hp⟩:∃p,i+j=p:=⟨_,rfl⟩
   have hpl:p<L:=by omega
   obtain⟨hc3,hc4⟩:=o1 p hpl
   have hc1':=hc3
   have d2:=zav M j
   have d3:=zav P p
   have dm:dig M j*d<=4294967295*4294967295:=Nat.mul_le_mul (by omega) (by omega)
   obtain⟨x,hx⟩:∃x,x=v+d*dig M j:=⟨_,rfl⟩
   have hxi:((v:Int)+((dig M j:Int)*(d:Int)))=(x:Int):=by rw[hx,Nat.mul_comm];simp
   have hm0:0<=(dig M j:Int)*(d:Int):=by rw[<-Int.natCast_mul];omega
   have hm1:(dig M j:Int)*(d:Int)<=18446744065119617025:=by rw[<-Int.natCast_mul];omega
   have hxb:x<18446744069414584321:=by rw[Nat.mul_comm]at hx;omega
   have hand:=zql x (by omega)
   obtain⟨b,e,hb1,he1,he2,he3,he4,_⟩:=ziK d3 (Nat.mod_lt x (by omega:0<4294967296))
   obtain⟨P',b1,b2,b3⟩:=o1.set (p:=p) (x:=e) o2 (by omega) he1
   have HN:=zvY (zix hx he2 b3 hp.symm (by rw[hp]at o3;exact o3))
   obtain⟨cx,hcx⟩:∃cx,x%4294967296=cx:=⟨_,rfl⟩
   rw[hcx]at hand he3 he4
   obtain⟨dv,hdv⟩:∃dv,IntKind.u64.wrap ((dig P p:Int) - (cx:Int))=dv:=⟨_,rfl⟩
   rw[hdv]at he3 he4
   have HV:=zvY (show(x:Int)/4294967296+(b:Int)=((x/4294967296+b:Nat):Int) by omega)
   have hvb:x/4294967296+b<4294967296:=by omega
   have HP:=zvY hp
   have HB1:=zvY b1
   have HB2:=zvY b2
   have HG:=zvY (hG.trans (wrote wr g p (.int .u32 (e:Int))))
   clear hx dm o1 o2 o3 hc1' b1 b2 b3 he2 hcx
   go_wp2
   go_roundw
   case rel=>exact⟨j+1,x/4294967296+b,by omega,by go_num,by rw[HV.out],hvb,HG.out,zvY ⟨P',HB1.out,HB2.out,by have:=HN.out;rwa [<-HP.out]at this⟩⟩
   case measure=>simp[intOf];omega
  ·obtain rfl:j=n:=by omega
   obtain⟨p,hp⟩:∃p,i+j=p:=⟨_,rfl⟩
   have hpl:p<L:=by omega
   obtain⟨hc3,hc4⟩:=o1 p hpl
   have d3:=zav P p
   obtain⟨b,e,hb1,he1,he2,he3,he4,he5⟩:=ziK d3 hv
   obtain⟨P',b1,b2,b3⟩:=o1.set (p:=p) (x:=e) o2 (by omega) he1
   have HN:=zvY (zix (t:=d) (M:=M) (i:=i) (k:=j) (x:=v) (b:=b) (e:=e) (by rw[zbN HY.out zv0,Nat.mul_zero,Nat.add_zero]) (by rw[Nat.mod_eq_of_lt hv];exact he2) b3 hp.symm (by rw[hp]at o3;exact o3))
   rw[zbV (zaz HY.out (Nat.le_succ _)),Nat.div_eq_of_lt hv,Nat.zero_add]at HN
   obtain⟨dv,hdv⟩:∃dv,IntKind.u64.wrap ((dig P p:Int) - (v:Int))=dv:=⟨_,rfl⟩
   rw[hdv]at he3 he4 he5
   have HP:=zvY hp
   have HB1:=zvY b1
   have HB2:=zvY b2
   have HE:=zvY he5
   have HG:=zvY (hG.trans (wrote wr g p (.int .u32 (e:Int))))
   clear o1 o2 o3 b1 b2 b3 he2 he5 he4
   go_wp2
   go_ret
   refine⟨b,P',hb1,by rw[HE.out];rfl,HG.out,HB1.out,HB2.out,?_⟩
   have:=HN.out
   rwa [<-HP.out]at this
theorem zjz (w:World)(g L i c1 n c' O D:Nat)(A':Option Addr)(hb:Buf w g L O)(hO:O<Bw^(i+(n+1)))(hin:i+(n+1)<=L)(hc1:n+1<=c1)(hc2:c1<=maxLen)(h':Rd w w.heap.size A' n D)(hc3:n<=c')(hc4:c'<=maxLen)(hn:n+1<=35184372087808)(hg:g<w.heap.size)(hs:Bw^(n+1)<=O/Bw^i+D):
  Calls Tryz.prog 240 #[.slice (some ⟨g,i,none⟩) (n+1:Nat) c1,.slice A' n c'] w fun e w'=>
   (∃v,e= .returned v)/\w.grownBy w' (some g)/\Buf w' g L (O%Bw^i+Bw^i*((O/Bw^i+D)%Bw^(n+1))):=by
 have hX:O/Bw^i<Bw^(n+1):=by
  rw[Nat.div_lt_iff_lt_mul (zag i),Nat.mul_comm,<-Nat.pow_add];exact hO
 have hx:(Num.mk (some ⟨g,i,none⟩) (n+1) c1 (O/Bw^i)).ok w w.heap.size:=⟨⟨hX,fun _=>⟨_,rfl,hg,fun j hj=>by
  have:=(hb (i+j) (by simp only at hj;omega)).1
  have e:(⟨g,i,none⟩:Addr).add j=⟨g,i+j,none⟩:=by unfold Addr.add;split <;> simp_all
  rw[e,this]
  congr 2
  have:=zdG (Y:=O/Bw^i) (Nat.mod_lt O (zag i)) (i+j)
  rw[if_neg (by omega),Nat.mod_add_div,show i+j - i=j by omega]at this
  exact congrArg _ this⟩⟩,hc1,hc2,hn⟩
 have hy:(Num.mk A' n c' D).ok w w.heap.size:=⟨h',hc3,hc4,by simp only;omega⟩
 have hR:=Rds.two (t:=23) hx hy
 have E:=zvY (zg4 _ _ 2 _ hR (by simp))
 have HB:=zvY hb
 have HO:=zvY hO
 have HS:=zvY hs
 have HX:=zvY hX
 clear hb hO hs hx hy hR hX
 go_enter Tryz.func240,Tryz.ntmps240
 go_wp2_with fail
 refine E.out.mono ?_
 rintro e W ⟨A,c,rfl,a1,a2,a3,a4⟩
 have hsum:zbO [Num.mk (some ⟨g,i,none⟩) (n+1) c1 (O/Bw^i),Num.mk A' n c' D]=O/Bw^i+D:=by simp[zbO]
 rw[hsum]at a1 a3
 rw[hsum]
 have hl:n+1<=lenL (O/Bw^i+D):=by
  rcases zv6 (lenL (O/Bw^i+D)) (n+1)with h|h
  ·have:=zai.1 (Nat.le_of_lt_succ h)
   have h7:O/Bw^i+D<Bw^(n+1):=zaz this (Nat.le_succ n)
   have:=HS.out
   omega
  ·exact h
 have hg0:w.grownBy W (some g):=zcn ((Below.refl _ w).alloc zv0 _ |>.trans (a4.mono (by rw[World.size_alloc];omega)))
 have hB:Buf W g L O:=fun j hj=>by
  obtain⟨h1,h2⟩:=HB.out j hj
  have hb4:Below w.heap.size w W:=(Below.refl _ w).alloc zv0 _ |>.trans (a4.mono (by rw[World.size_alloc];omega))
  exact⟨(hb4.cell (p:=⟨g,j,none⟩) hg).trans h1,(hb4.frozen (p:=⟨g,j,none⟩) hg).trans h2⟩
 obtain⟨hcp,hbf⟩:=zkO (dl:=n+1) (dc:=c1) (sc:=c) (k:=n+1) hB HO.out (by omega) hin a3.rd
 have HC:=zvY hbf
 have HG:=zvY (hg0.trans (zeI g (limbs (O/Bw^i+D) (n+1)) i W))
 clear a3 a4 hg0 hB hbf hsum hl E
 go_wp2
 go_end0
 exact⟨⟨_,rfl⟩,HG.out,HC.out⟩
end Go.Proofs.YtipckjmgdghkiaaGreatDoor
