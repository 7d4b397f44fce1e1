/- A part. -/
import Derived.Deep.LoopGhost
import Derived.Test.YtipckjmgdghkiaaGreatDoorGRefC
import Derived.Test.YtipckjmgdghkiaaGreatDoorGRefB
set_option maxHeartbeats 4000000
set_option maxRecDepth 100000
namespace Go.Proofs.YtipckjmgdghkiaaGreatDoor
open Go Go.RowKit
theorem zoJ {d s t:Nat}(h:d/2^s=t)(h0:d%2^s=0)(ht:t%2=0):d/2^(s+1)=t/2/\d%2^(s+1)=0:=by
 rw[Nat.pow_succ,<-Nat.div_div_eq_div_mul,Nat.mod_mul,h,h0,ht]
 exact⟨rfl,by omega⟩
theorem zqY (w:World)(A:Option Addr)(n c N:Nat)(h:Rd w w.heap.size A n N)(hn:n<=1000000)(h0:N≠0):
  Calls Tryz.prog 163 #[.slice A n c] w fun e w'=>∃k:Nat,e= .returned (.int .i64 k)/\zjo N k/\k<32*n/\w=w':=by
 have HX:=zvY h.1
 have H0:=zvY h0
 clear h0
 go_enter Tryz.func163,Tryz.ntmps163
 go_wp2
 go_loop [3,4] (fun nv iv=>∃j:Nat,j<=n/\iv= .int .i64 j/\nv= .int .i64 (32*j:Nat)/\Hid (N%Bw^j=0)) (fun _ iv=>n - (intOf iv).toNat)
 case atStart=>exact⟨0,Nat.zero_le _,rfl,rfl,zvY (by simp[Nat.mod_one])⟩
 case round=>
  obtain⟨j,hj,rfl,rfl,hm⟩:=hrel
  by_cases hlt:j<n
  ·obtain⟨ad,rfl,_,hc⟩:=h.at_ hlt
   by_cases hd:dig N j=0
   ·rw[hd]at hc
    have HM:=zvY (show N%Bw^(j+1)=0 by rw[zaQ,hm.out,hd,Nat.mul_zero])
    clear hd
    go_wp2
    go_round
    case rel=>exact⟨j+1,by omega,by go_num,by refine zfR ?_;omega,HM⟩
    case measure=>simp[intOf];omega
   ·have hb:((dig N j:Int)==0)=false:=by rw[beq_eq_false_iff_ne];omega
    have hjq:((32*j:Nat):Int)/32=(j:Int):=by omega
    have HD:=zvY hd
    have hdl:=zav N j
    obtain⟨p,hp⟩:∃p,32*j=p:=⟨_,rfl⟩
    rw[hp]at hjq ⊢
    have HP:=zvY hp
    have hpb:p<=32000000:=by omega
    clear hd hp
    go_wp2
    go_loop [3,5] (fun nv tv=>∃s t:Nat,s<=32/\nv= .int .i64 (p+s:Nat)/\tv= .int .u32 t/\t≠0/\t<4294967296/\Hid (dig N j/2^s=t/\dig N j%2^s=0)) (fun _ tv=>(intOf tv).toNat)
    case atStart=>exact⟨0,dig N j,by omega,by simp,rfl,HD.out,hdl,zvY ⟨by simp,by simp[Nat.mod_one]⟩⟩
    case round=>
     obtain⟨s,t,hs,rfl,rfl,ht,htb,HH⟩:=hrel
     have hs32:s<32:=by
      rcases zv6 s 32 with h1|h1
      ·exact h1
      ·have h2:(2:Nat)^32<=2^s:=zv5 (by omega) h1
       have h3:=HH.out.1
       rw[Nat.div_eq_of_lt (by omega)]at h3
       omega
     by_cases ho:t%2=0
     ·have hb2:((t:Int)%2==0)=true:=by rw[beq_iff_eq];omega
      have HN:=zvY (zoJ HH.out.1 HH.out.2 ho)
      have hv:IntKind.u32.wrap ((t:Int).tdiv 2)=((t/2:Nat):Int):=by
       rw[Int.tdiv_eq_ediv_of_nonneg (by omega)]
       show((t:Int)/2)%4294967296=_
       omega
      have ht2:t/2≠0:=by omega
      have hlt2:t/2<t:=by omega
      clear ho
      go_wp2
      go_round
      case rel=>exact⟨s+1,t/2,by omega,by refine zfR ?_;omega,by first|rfl|rw[hv],ht2,by omega,HN⟩
      case measure=>simp[intOf];omega
     ·have hb2:((t:Int)%2==0)=false:=by rw[beq_eq_false_iff_ne];omega
      have HO:=zvY (show t%2=1 by omega)
      clear ho
      go_wp2
      go_ret
      obtain⟨m,e1,e2⟩:=zky hm.out HH.out.1 HH.out.2 HO.out
      rw[HP.out]at e1
      exact⟨p+s,by first|rfl|(refine zde ?_;omega),⟨m,e1,e2⟩,by have:=HP.out;omega,rfl⟩
  ·obtain rfl:j=n:=by omega
   have:=hm.out
   rw[zbV HX.out]at this
   exact absurd this H0.out
theorem zjJ {w W:World}{e:List Num}{x:Num}(h:Env w e W)(hx:x∈e)(bx:x.n<=1000000)(h0:x.N≠0):
  Calls Tryz.prog 163 #[.slice x.A x.n x.c] W fun e' W'=>∃k:Nat,e'= .returned (.int .i64 k)/\zjo x.N k/\k<32*x.n/\W=W':=
 zqY W _ _ _ _ (h.2 x hx).1 bx h0
theorem zmo (w:World)(x y:Num)(hx:x.ok w w.heap.size)(hy:y.ok w w.heap.size)(_hn:x.n<=800)(hn':y.n<=800)(h0:x.N=0):
  Calls Tryz.prog 126 #[.slice x.A x.n x.c,.slice y.A y.n y.c] w (Gives w (Nat.gcd x.N y.N)):=by
 have hE0:Env w [x,y] w:=Env.start (by simp;exact⟨hx,hy⟩)
 have HLy:=zvY (zai.2 hy.1.1)
 have H0:=zvY h0
 rw[h0,Nat.gcd_zero_left]
 clear hx hy h0
 go_enter Tryz.func126,Tryz.ntmps126
 go_wp2_with fail
 refine(zb1 (x:=x) hE0 (by simp)).mono ?_
 rintro e W1 ⟨⟨aA,an,ac,aN⟩,rfl,haN,han,hE1,-⟩
 rw[H0.out]at haN han
 obtain rfl:aN=0:=haN
 obtain rfl:an=0:=han
 go_wp2_with fail
 refine(zb1 (x:=y) hE1 (by simp)).mono ?_
 rintro e W2 ⟨b,rfl,bN,bn,hE2,-⟩
 have bb:b.n<=800:=by rw[bn];have:=HLy.out;omega
 replace bN:=zvY bN
 replace bn:=zvY bn
 go_wp2_with fail
 refine(zjK (x:=⟨aA,0,ac,0⟩) (y:=b) hE2 (by simp) (by simp) rfl (by simp) (by omega)).mono ?_
 intro e W3 hb
 rw[bN.out,Nat.zero_add]at hb
 obtain⟨A,c,rfl,g1,g2,g3,g4⟩:=zdM hb hE2.1.size
 go_wp2
 go_ret
 exact⟨A,c,rfl,g1,g2,g3,g4⟩
theorem zk7 (w:World)(x y:Num)(hx:x.ok w w.heap.size)(hy:y.ok w w.heap.size)(hn:x.n<=800)(_hn':y.n<=800)(h1:x.N≠0)(h0:y.N=0):
  Calls Tryz.prog 126 #[.slice x.A x.n x.c,.slice y.A y.n y.c] w (Gives w (Nat.gcd x.N y.N)):=by
 have hE0:Env w [x,y] w:=Env.start (by simp;exact⟨hx,hy⟩)
 have HLx:=zvY (zai.2 hx.1.1)
 have H0:=zvY h0
 have H1:=zvY (zcd h1)
 rw[h0,Nat.gcd_zero_right]
 clear hx hy h0 h1
 go_enter Tryz.func126,Tryz.ntmps126
 go_wp2_with fail
 refine(zb1 (x:=x) hE0 (by simp)).mono ?_
 rintro e W1 ⟨a,rfl,aN,an,hE1,-⟩
 have ab:a.n<=800:=by rw[an];have:=HLx.out;omega
 have a0:0<a.n:=by rw[an];exact H1.out
 have a1:((a.n:Int)==0)=false:=by rw[beq_eq_false_iff_ne];omega
 replace aN:=zvY aN
 replace an:=zvY an
 go_wp2_with fail
 refine(zb1 (x:=y) hE1 (by simp)).mono ?_
 rintro e W2 ⟨⟨bA,bn,bc,bN⟩,rfl,hbN,hbn,hE2,-⟩
 rw[H0.out]at hbN hbn
 obtain rfl:bN=0:=hbN
 obtain rfl:bn=0:=hbn
 go_wp2_with fail
 refine(zjK (x:=a) (y:=⟨bA,0,bc,0⟩) hE2 (by simp) (by simp) rfl (by omega) (by simp)).mono ?_
 intro e W3 hb
 rw[aN.out,Nat.add_zero]at hb
 obtain⟨A,c,rfl,g1,g2,g3,g4⟩:=zdM hb hE2.1.size
 go_wp2
 go_ret
 exact⟨A,c,rfl,g1,g2,g3,g4⟩
theorem zoK (w:World)(x y:Num)(hx:x.ok w w.heap.size)(hy:y.ok w w.heap.size)(hn:x.n<=800)(hn':y.n<=800)(h1:x.N≠0)(h2:y.N≠0):
  Calls Tryz.prog 126 #[.slice x.A x.n x.c,.slice y.A y.n y.c] w (Gives w (Nat.gcd x.N y.N)):=by
 have hE0:Env w [x,y] w:=Env.start (by simp;exact⟨hx,hy⟩)
 have HLx:=zvY (zai.2 hx.1.1)
 have HLy:=zvY (zai.2 hy.1.1)
 have H1:=zvY h1
 have H2:=zvY h2
 have H1':=zvY (zcd h1)
 have H2':=zvY (zcd h2)
 clear hx hy h1 h2
 go_enter Tryz.func126,Tryz.ntmps126
 go_wp2_with fail
 refine(zb1 (x:=x) hE0 (by simp)).mono ?_
 rintro e W1 ⟨a,rfl,aN,an,hE1,-⟩
 have ab:a.n<=800:=by rw[an];have:=HLx.out;omega
 have a0:0<a.n:=by rw[an];exact H1'.out
 have a1:((a.n:Int)==0)=false:=by rw[beq_eq_false_iff_ne];omega
 replace aN:=zvY aN
 replace an:=zvY an
 go_wp2_with fail
 refine(zb1 (x:=y) hE1 (by simp)).mono ?_
 rintro e W2 ⟨b,rfl,bN,bn,hE2,-⟩
 have bb:b.n<=800:=by rw[bn];have:=HLy.out;omega
 have b0:0<b.n:=by rw[bn];exact H2'.out
 have b1:((b.n:Int)==0)=false:=by rw[beq_eq_false_iff_ne];omega
 replace bN:=zvY bN
 replace bn:=zvY bn
 go_wp2_with fail
 refine(zjJ (x:=a) hE2 (by simp) (by omega) (by rw[aN.out];exact H1.out)).mono ?_
 rintro e W3 ⟨k1,rfl,hk1,hkb1,rfl⟩
 replace hk1:=zvY hk1
 go_wp2_with fail
 refine(zjJ (x:=b) hE2 (by simp) (by omega) (by rw[bN.out];exact H2.out)).mono ?_
 rintro e W3 ⟨k2,rfl,hk2,hkb2,rfl⟩
 replace hk2:=zvY hk2
 obtain⟨D,hI,hG⟩:∃D,zgi D a.N b.N/\Nat.gcd x.N y.N=D*2^min k1 k2:=by
  obtain⟨m,e1,o1⟩:=hk1.out
  obtain⟨m',e2,o2⟩:=hk2.out
  refine⟨Nat.gcd m m',by rw[e1,e2];exact zn3 o1 o2,?_⟩
  rw[<-zfS o1 o2,<-e1,<-e2,aN.out,bN.out]
 have HI:=zvY hI
 have HG:=zvY hG
 have HA:=zvY (show a.n=lenL a.N by rw[an.out,aN.out])
 clear hI hG
 go_wp2
 all_goals
  go_loopg [0,1] (a.N+b.N) (fun k av bv wr=>∃r s:Num,av= .slice r.A r.n r.c/\bv= .slice s.A s.n s.c/\r.n<=800/\s.n<=800/\Hid (r.n=lenL r.N)/\Hid (Env w [r,s] wr)/\Hid (zgi D r.N s.N)/\Hid (r.N+s.N<=k))
  case atStart=>exact⟨a,b,rfl,rfl,ab,bb,HA,zvY (hE2.pick (by simp)),HI,zvY zv0⟩
  case round=>
   obtain⟨r,s,rfl,rfl,rb,sb,hr,henv,hinv,hle⟩:=hrel
   by_cases h0:r.N=0
   ·have r0:r.n=0:=by rw[hr.out,h0];rfl
    have HD:=zvY (show s.N=D from zrY (by rw[<-h0];exact hinv.out))
    clear h0 hr
    go_wp2_with fail
    refine(ztp (x:=s) henv.out (by simp)).mono ?_
    intro e W9 hb
    rw[HD.out]at hb
    first
    |(rw[show min ((k1:Int)).toNat 65536=min k1 k2 by omega,<-HG.out]at hb)
    |(rw[show min ((k2:Int)).toNat 65536=min k1 k2 by omega,<-HG.out]at hb)
    obtain⟨A,c,rfl,g1,g2,g3,g4⟩:=zdM hb henv.out.1.size
    go_wp2
    go_ret
    exact⟨A,c,rfl,g1,g2,g3,g4⟩
   ·have r0:0<r.n:=by rw[hr.out];exact zcd h0
    have H0:=zvY h0
    clear h0 hr
    go_wp2_with fail
    refine(zjJ (x:=r) henv.out (by simp) (by omega) H0.out).mono ?_
    rintro e W4 ⟨k3,rfl,⟨m,hm1,hm2⟩,hkb3,rfl⟩
    have hlm:lenL m<=800:=by
     have h1:=zaG (show m<=r.N by rw[hm1];exact Nat.le_mul_of_pos_left m (zv8 k3))
     have h2:=zai.2 (henv.out.2 r (by simp)).1.1
     omega
    replace hm1:=zvY hm1
    replace hm2:=zvY hm2
    go_wp2_with fail
    refine(znd (x:=r) henv.out (by simp)).mono ?_
    rintro e W5 ⟨r1,rfl,r1N,r1n,hE5,-⟩
    rw[show min ((k3:Int)).toNat 65536=k3 by omega,hm1.out,Nat.mul_div_cancel_left _ (zv8 k3)]at r1N r1n
    replace r1N:=zvY r1N
    replace r1n:=zvY r1n
    go_wp2_with fail
    refine(zjJ (x:=s) hE5 (by simp) (by omega) hinv.out.2.1).mono ?_
    rintro e W6 ⟨k4,rfl,⟨m',hm3,hm4⟩,hkb4,rfl⟩
    have hlm':lenL m'<=800:=by
     have h1:=zaG (show m'<=s.N by rw[hm3];exact Nat.le_mul_of_pos_left m' (zv8 k4))
     have h2:=zai.2 (henv.out.2 s (by simp)).1.1
     omega
    replace hm3:=zvY hm3
    replace hm4:=zvY hm4
    go_wp2_with fail
    refine(znd (x:=s) hE5 (by simp)).mono ?_
    rintro e W7 ⟨s1,rfl,s1N,s1n,hE7,-⟩
    rw[show min ((k4:Int)).toNat 65536=k4 by omega,hm3.out,Nat.mul_div_cancel_left _ (zv8 k4)]at s1N s1n
    replace s1N:=zvY s1N
    replace s1n:=zvY s1n
    have rb1:r1.n<=800:=by rw[r1n.out];exact hlm
    have sb1:s1.n<=800:=by rw[s1n.out];exact hlm'
    have HN:=zvY (zlT (D:=D) (k:=k3) (k':=k4) hm4.out (by rw[<-hm1.out,<-hm3.out];exact hinv.out) hm2.out)
    have HS:=zvY (show m<=r.N/\m'<=s.N from⟨by rw[hm1.out];exact Nat.le_mul_of_pos_left m (zv8 k3),by rw[hm3.out];exact Nat.le_mul_of_pos_left m' (zv8 k4)⟩)
    go_wp2_with fail
    refine(zui (x:=r1) (y:=s1) hE7 (by simp) (by simp)).mono ?_
    rintro e W8 ⟨rfl,hE8⟩
    rw[r1N.out,s1N.out]
    by_cases hlt:m<m'
    ·have hc:zcj m m'<0:=by rw[zfO hlt];decide
     have HLT:=zvY hlt
     clear hlt
     go_wp2_with fail
     refine(zgv (x:=s1) (y:=r1) hE8 (by simp) (by simp) (by omega) (by omega) (by rw[r1N.out,s1N.out];exact Nat.le_of_lt HLT.out)).mono ?_
     rintro e W9 ⟨d,rfl,dN,dn,hE9,-⟩
     rw[r1N.out,s1N.out]at dN dn
     have db:d.n<=800:=by rw[dn];have:=zaG (Nat.sub_le m' m);omega
     replace dN:=zvY dN
     replace dn:=zvY dn
     go_wp2
     go_roundg (m' - m+m)
     case rel=>exact⟨d,r1,rfl,rfl,db,rb1,zvY (by rw[dn.out,dN.out]),zvY (hE9.pick (by simp)),zvY (by rw[dN.out,r1N.out];exact zkx hm2.out (Nat.le_of_lt HLT.out) (zpY HN.out)),zvY (by rw[dN.out,r1N.out];exact Nat.le_refl _)⟩
     case measure=>have h1:=hle.out;have h2:=HS.out;have h3:=HLT.out;have h4:=hm2.out;omega
    ·have hc:0<=zcj m m':=zrT (by omega)
     have HLT:=zvY (show m'<=m by omega)
     clear hlt
     go_wp2_with fail
     refine(zgv (x:=r1) (y:=s1) hE8 (by simp) (by simp) (by omega) (by omega) (by rw[r1N.out,s1N.out];exact HLT.out)).mono ?_
     rintro e W9 ⟨d,rfl,dN,dn,hE9,-⟩
     rw[r1N.out,s1N.out]at dN dn
     have db:d.n<=800:=by rw[dn];have:=zaG (Nat.sub_le m m');omega
     replace dN:=zvY dN
     replace dn:=zvY dn
     go_wp2
     go_roundg (m - m'+m')
     case rel=>exact⟨d,s1,rfl,rfl,db,sb1,zvY (by rw[dn.out,dN.out]),zvY (hE9.pick (by simp)),zvY (by rw[dN.out,s1N.out];exact zkx hm4.out HLT.out HN.out),zvY (by rw[dN.out,s1N.out];exact Nat.le_refl _)⟩
     case measure=>have h1:=hle.out;have h2:=HS.out;have h3:=HLT.out;have h4:=hm4.out;omega
section
theorem zqZ (w:World)(x y:Num)(hx:x.ok w w.heap.size)(hy:y.ok w w.heap.size)(hn:x.n<=800)(hn':y.n<=800):
  Calls Tryz.prog 126 #[.slice x.A x.n x.c,.slice y.A y.n y.c] w (Gives w (Nat.gcd x.N y.N)):=by
 by_cases h1:x.N=0
 ·exact zmo w x y hx hy hn hn' h1
 ·by_cases h2:y.N=0
  ·exact zk7 w x y hx hy hn hn' h1 h2
  ·exact zoK w x y hx hy hn hn' h1 h2
variable {w W:World}{e:List Num}{x y:Num}
theorem zuf (h:Env w e W)(hx:x∈e)(hy:y∈e)(bx:x.n<=800)(by':y.n<=800):
  Calls Tryz.prog 126 #[.slice x.A x.n x.c,.slice y.A y.n y.c] W (zh5 w e W.heap.size (Nat.gcd x.N y.N) (fun r=> .slice r.A r.n r.c)):=
 (zqZ W x y (h.2 x hx) (h.2 y hy) bx by').mono fun _ _ hg=>zbh h hg (zv2 (zg6 (h.2 x hx).1.1 (h.2 y hy).1.1 bx by') (by omega))
end
end Go.Proofs.YtipckjmgdghkiaaGreatDoor
