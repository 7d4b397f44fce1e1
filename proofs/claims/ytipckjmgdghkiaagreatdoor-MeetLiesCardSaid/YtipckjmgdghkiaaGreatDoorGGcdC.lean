/- A part. -/
import Derived.Lib.LaidTab
import Derived.Lay
import Derived.LaidByTextLater
import Derived.ProofKit
import Derived.Test.YtipckjmgdghkiaaGreatDoorGGcdB
import Derived.Test.YtipckjmgdghkiaaGreatDoorGGcE
import Derived.Test.YtipckjmgdghkiaaGreatDoorGQuotB
import Derived.Test.YtipckjmgdghkiaaGreatDoorGProdC
set_option maxHeartbeats 16000000
set_option maxRecDepth 100000
namespace Go.Proofs.YtipckjmgdghkiaaGreatDoor
open Go Go.RowKit
section
theorem zb3 {w W W':World}{e:List Num}{N:Nat}{e':Ending}(h:Env w e W)(hg:Gives W N e' W')(hl:lenL N<=35184372087808):zfl w e N e' W':=by
 obtain⟨A,c,rfl,x1,x2,x3,x4⟩:=hg
 exact⟨⟨A,_,c,_⟩,rfl,rfl,rfl,(h.step x4).add (x3.ok x1 x2 hl)⟩
theorem zkc (W:World)(v:Value)(t:TypeId):(W.alloc (.cells #[v] t)).cell? ⟨W.heap.size,0,none⟩=some v:=by
 have h:=World.alloc_heap_new' W (.cells #[v] t)
 simp only[World.cell?,h]
 rfl
variable {w W:World}{e:List Num}{x y:Num}
theorem zmG {k:Nat}(h:Env w e W)(hx:x∈e)(bx:x.n<=1000000)(hk:k<32*x.n):
  Calls Tryz.prog 221 #[.slice x.A x.n x.c,.int .i64 k] W (zfl w e (x.N/2^k)):=by
 obtain⟨a1,a2,a3,a4⟩:=h.2 x hx
 refine(znE W _ _ _ _ k (k/32) (k%32) a1 a2 a3 bx (by omega) (by omega) (by omega)).mono fun e' W' hg=>zb3 h hg ?_
 have:=zaG (Nat.div_le_self x.N (2^k))
 have:=zai.2 a1.1
 omega
theorem zrH (h:Env w e W)(hx:x∈e)(hy:y∈e)(bx:x.n<=1000000)(by':y.n<=1000000)(ho:y.N%2=1)(hT:Tabs w):
  Calls Tryz.prog 220 #[.slice x.A x.n x.c,.slice y.A y.n y.c] W (zfl w e (Nat.gcd x.N y.N)):=by
 obtain⟨a1,a2,a3,a4⟩:=h.2 x hx
 obtain⟨b1,b2,b3,b4⟩:=h.2 y hy
 have hy0:0<y.n:=by
  rcases zv7 y.n with h0|h0
  ·have:=b1.1
   rw[h0,Nat.pow_zero]at this
   omega
  ·exact h0
 have hm:(x.n<y.n/\max x.n y.n=y.n)\/(¬x.n<y.n/\max x.n y.n=x.n):=by omega
 refine(znF W _ _ _ _ _ _ _ _ (max x.n y.n) a1 b1 a2 b2 a3 b3 bx by' ho (hT.keep h.1) hm (by omega)).mono fun e' W' hg=>zb3 h hg ?_
 have:=zg6 a1.1 b1.1 bx by'
 omega
theorem ztu {b1 b2 k1 k2:Nat}(h:Env w e W)(hx:x∈e)(bx:x.n<=1000000)(h0:x.N≠0)(hk:k1<=32000000/\k2<=32000000)(c1:W.cell? ⟨b1,0,none⟩=some (.int .i64 k1))(c2:W.cell? ⟨b2,0,none⟩=some (.int .i64 k2)):
  Calls Tryz.prog 218 #[.slice x.A x.n x.c,.pointer (some ⟨b1,0,none⟩),.pointer (some ⟨b2,0,none⟩)] W (zfl w e (x.N*2^min k1 k2)):=by
 obtain⟨a1,a2,a3,a4⟩:=h.2 x hx
 obtain⟨k,hkm⟩:∃k,min k1 k2=k:=⟨_,rfl⟩
 have hmi:min (k1:Int) (k2:Int)=(k:Int):=by omega
 rw[hkm]
 have E:=zvY (zlv W x.A x.n x.c x.N k (k/32) (k%32) a1 a2 a3 bx (by omega) (by omega) (by omega) h0)
 have hl:lenL (x.N*2^k)<=35184372087808:=by
  have:=zpX a1.1 k
  omega
 have H:=zvY h
 clear h a1 a2 a3 a4 h0
 rcases(show(k1<k2/\k=k1)\/(k2=k1/\k=k1)\/(k2<k1/\k=k2) by omega)with⟨hlt,rfl⟩|⟨rfl,rfl⟩|⟨hlt,rfl⟩
 all_goals
  go_enter Tryz.func218,Tryz.ntmps218
  go_wp2_with (go_at_call 219;refine E.out.mono ?_;rintro e' w' hg;replace hg:=zvY hg;obtain⟨A9,c9,rfl,g1,g2,g3,g4⟩:=hg.out;replace g3:=zvY g3;replace g4:=zvY g4)
  go_ret
  exact zb3 H.out hg.out hl
theorem zkd (h:Env w e W)(hx:x∈e)(hy:y∈e)(bx:x.n<=1000000)(by':y.n<=1000000)(x0:x.N≠0)(y0:y.N≠0)(hT:Tabs w):
  Calls Tryz.prog 194 #[.slice x.A x.n x.c,.slice y.A y.n y.c] W (zfl w e (Nat.gcd x.N y.N)):=by
 obtain⟨a1,a2,a3,a4⟩:=h.2 x hx
 obtain⟨b1,b2,b3,b4⟩:=h.2 y hy
 have ETX:=zvY (zim W x.A x.n x.c x.N a1 bx x0 (hT.keep h.1))
 have ETY:=zvY (zim W y.A y.n y.c y.N b1 by' y0 (hT.keep h.1))
 have HH:=zvY h
 have HT:=zvY hT
 have HXY:=zvY (And.intro hx hy)
 have H0:=zvY (And.intro x0 y0)
 clear h hx hy x0 y0 a1 a2 a3 a4 b1 b2 b3 b4 hT
 go_enter Tryz.func194,Tryz.ntmps194
 go_wp2_with fail
 refine ETX.out.mono ?_
 rintro e' w' ⟨k1,rfl,hk1,hb1,rfl⟩
 have HK1:=zvY hk1
 clear hk1
 go_wp2_with fail
 refine ETY.out.mono ?_
 rintro e' w' ⟨k2,rfl,hk2,hb2,rfl⟩
 have HK2:=zvY hk2
 clear hk2
 go_wp2_with fail
 have c1:=zkc W (.int .i64 k1) 3
 have c1:=((Below.refl _ (W.alloc (.cells #[.int .i64 k1] 3))).alloc zv0 (.cells #[.int .i64 k2] 3)).cell (p:=⟨W.heap.size,0,none⟩) (by simp) |>.trans c1
 have c2:=zkc (W.alloc (.cells #[.int .i64 k1] 3)) (.int .i64 k2) 3
 have hsz:(W.alloc (.cells #[.int .i64 k1] 3)).heap.size=W.heap.size+1:=by simp
 rw[hsz]at c2
 have hE:=(HH.out.alloc (.cells #[.int .i64 k1] 3)).alloc (.cells #[.int .i64 k2] 3)
 have hs2:((W.alloc (.cells #[.int .i64 k1] 3)).alloc (.cells #[.int .i64 k2] 3)).heap.size=W.heap.size+2:=by simp
 have hT1:=zvY (HT.out.keep hE.1)
 have HB1:=zvY (((Below.refl W.heap.size W).alloc zv0 (.cells #[.int .i64 k1] 3)).alloc (by simp) (.cells #[.int .i64 k2] 3))
 generalize hW1:(W.alloc _).alloc _=W1 at*
 clear hW1 hsz
 have hE0:=zvY (show Env W1 [x,y] W1.drew from((Env.start hE.2).pick (by simp[HXY.out.1,HXY.out.2])).step (Below.refl _ W1).drew)
 obtain⟨b1,hb1'⟩:∃b1,W.heap.size=b1:=⟨_,rfl⟩
 rw[hb1']at c1 c2 hs2
 have C1:=zvY c1
 have C2:=zvY c2
 clear c1 c2
 obtain⟨m1,hm1,ho1⟩:=HK1.out
 obtain⟨m2,hm2,ho2⟩:=HK2.out
 have d1:x.N/2^k1=m1:=Nat.div_eq_of_eq_mul_right (zv8 _) hm1
 have d2:y.N/2^k2=m2:=Nat.div_eq_of_eq_mul_right (zv8 _) hm2
 have hg:Nat.gcd x.N y.N=Nat.gcd m1 m2*2^min k1 k2:=by rw[hm1,hm2,zfS ho1 ho2]
 have hl1:lenL m1<=1000000:=by
  have h1:=zaG (show m1<=x.N by rw[hm1];exact Nat.le_mul_of_pos_left _ (zv8 _))
  have h2:=zai.2 (HH.out.2 x HXY.out.1).1.1
  omega
 have hl2:lenL m2<=1000000:=by
  have h1:=zaG (show m2<=y.N by rw[hm2];exact Nat.le_mul_of_pos_left _ (zv8 _))
  have h2:=zai.2 (HH.out.2 y HXY.out.2).1.1
  omega
 have hl3:lenL (Nat.gcd m1 m2)<=1000000:=zg6 (zaF m1) (zaF m2) hl1 hl2
 have h30:Nat.gcd m1 m2≠0:=by have:=zjp (m':=m2) ho1;omega
 have HG:=zvY hg
 have HM:=zvY (And.intro d1 (And.intro d2 (And.intro ho1 (And.intro ho2 h30))))
 clear hm1 hm2 ho1 ho2 d1 d2 hg HK1 HK2 h30
 have c1:W1.drew.cell? ⟨b1,0,none⟩=some (.int .i64 k1):=C1.out
 have c2:W1.drew.cell? ⟨b1+1,0,none⟩=some (.int .i64 k2):=C2.out
 have EB:=zvY (fun(r3:Num) (wc:World) (l:List Num) (h:Env W1 (r3::l) wc) (h1:r3.N=Nat.gcd m1 m2) (h2:r3.n=lenL (Nat.gcd m1 m2))=>
  ztu (w:=W1) (W:=wc) (e:=r3::l) (x:=r3) (b1:=b1) (b2:=b1+1) (k1:=k1) (k2:=k2) h (by simp) (by rw[h2];exact hl3) (by rw[h1];exact HM.out.2.2.2.2) ⟨by omega,by omega⟩ ((h.1.cell (p:=⟨b1,0,none⟩) (show b1<W1.heap.size by omega)).trans C1.out) ((h.1.cell (p:=⟨b1+1,0,none⟩) (show b1+1<W1.heap.size by omega)).trans C2.out))
 go_region_with (first
  |(go_at_call 221;(with_reducible refine(zmG (x:=y) hE1.out (by simp) by' hb2).mono ?_);rintro e' wb ⟨r2,rfl,r2N,r2n,hE2⟩;rw[HM.out.2.1]at r2N r2n;replace r2N:=zvY r2N;replace r2n:=zvY r2n;replace hE2:=zvY hE2)
  |(go_at_call 221;(with_reducible refine(zmG (x:=x) hE0.out (by simp) bx hb1).mono ?_);rintro e' wa ⟨r1,rfl,r1N,r1n,hE1⟩;rw[HM.out.1]at r1N r1n;replace r1N:=zvY r1N;replace r1n:=zvY r1n;have c3:wa.cell? ⟨b1+1,0,none⟩=some (.int .i64 k2):=(hE1.1.cell (p:=⟨b1+1,0,none⟩) (by simp;omega)).trans C2.out;replace hE1:=zvY hE1)
  |(go_at_call 220;(with_reducible refine(zrH (x:=r1) (y:=r2) hE2.out (by simp) (by simp) (by rw[r1n.out];exact hl1) (by rw[r2n.out];exact hl2) (by rw[r2N.out];exact HM.out.2.2.2.1) hT1.out).mono ?_);rintro e' wc ⟨r3,rfl,r3N,r3n,hE3⟩;rw[r1N.out,r2N.out]at r3N r3n;replace r3N:=zvY r3N;replace r3n:=zvY r3n;replace hE3:=zvY hE3)
  |(go_at_call 218;(with_reducible refine(EB.out r3 _ _ hE3.out r3N.out r3n.out).mono ?_);rintro e' wd ⟨r4,rfl,r4N,r4n,hE4⟩;rw[r3N.out]at r4N r4n;replace r4N:=zvY r4N;replace r4n:=zvY r4n;replace hE4:=zvY hE4))
 all_goals
  go_wp2_with fail
  go_ret
  exact⟨r4,rfl,by rw[HG.out];exact r4N.out,by rw[HG.out];exact r4n.out,(HH.out.step (HB1.out.trans (hE4.out.1.mono (by omega)))).add (hE4.out.2 r4 (by simp))⟩
end
section
variable {w W:World}{e:List Num}{x y:Num}
theorem zga (h:Env w e W)(hx:x∈e)(hy:y∈e)(bx:x.n<=100000)(by':y.n<=100000):
  Calls Tryz.prog 156 #[.slice x.A x.n x.c,.slice y.A y.n y.c] W fun e' W'=>
   ∃q r:Num,e'= .returned (.tuple #[.slice q.A q.n q.c,.slice r.A r.n r.c,.int .i64 (zfQ y.N)])/\q.N=x.N/y.N/\q.n=lenL (x.N/y.N)/\r.N=zcl x.N y.N/\r.n=lenL (zcl x.N y.N)/\Env w (q::r::e) W':=by
 obtain⟨a1,a2,a3,_⟩:=h.2 x hx
 obtain⟨b1,b2,b3,_⟩:=h.2 y hy
 refine(zsc _ _ _ _ _ _ _ _ W a1 b1 a2 a3 b2 b3 (by omega) (by omega)).mono ?_
 rintro e' W' ⟨A,c,A',c',rfl,x1,x2,y1,y2,x3,y3,x4⟩
 have l1:=zaG (Nat.div_le_self x.N y.N)
 have l2:=zaG (zkw x.N y.N)
 have l3:=zai.2 a1.1
 exact⟨⟨A,_,c,_⟩,⟨A',_,c',_⟩,rfl,rfl,rfl,rfl,rfl,((h.step x4).add (y3.ok y1 y2 (by omega))).add (x3.ok x1 x2 (by omega))⟩
theorem zgX (h:Env w e W)(hx:x∈e):Calls Tryz.prog 155 #[.slice x.A x.n x.c] W (zfl w e x.N):=by
 obtain⟨a1,a2,a3,a4⟩:=h.2 x hx
 refine(zc1 W _ _ _ _ a1 a2 a3 a4).mono fun e' W' hg=>zb3 h hg ?_
 have:=zai.2 a1.1
 omega
theorem zrI (h:Env w e W)(hx:x∈e):Calls Tryz.prog 154 #[.slice x.A x.n x.c] W fun e' w'=>e'= .returned (.bool (decide (x.N=1)))/\W=w':=by
 obtain⟨a1,a2,a3,a4⟩:=h.2 x hx
 exact znD W _ _ _ _ _ a1 a2 (by simpa[maxLen]using a3)
theorem zpo (hT:Tabs w):zj1 w:=fun W e x y h hx hy bx by'=>by
 have HT:=zvY hT
 have HE:=zvY (show Env w (x::y::e) W from h.pick (by simp[hx,hy]))
 clear h hx hy hT
 go_enter Tryz.func153,Tryz.ntmps153
 go_wp2
 go_loopg [0,1] (x.N+y.N) (fun k av bv wr=>∃r s:Num,av= .slice r.A r.n r.c/\bv= .slice s.A s.n s.c/\r.n<=10000/\s.n<=10000/\Hid (Env w (r::s::e) wr)/\Hid (Nat.gcd r.N s.N=Nat.gcd x.N y.N)/\Hid (k=r.N+s.N))
 case atStart=>exact⟨x,y,rfl,rfl,bx,by',HE,zvY rfl,zvY rfl⟩
 case round=>
  clear HE
  obtain⟨r,s,rfl,rfl,br,bs,HE,HG,HK⟩:=hrel
  obtain⟨a1,a2,a3,a4⟩:=HE.out.2 r (by simp)
  obtain⟨b1,b2,b3,b4⟩:=HE.out.2 s (by simp)
  have EBR:=zvY (zcF wr _ _ _ _ _ a1 a2 a3 a4)
  have EBS:=zvY (zcF wr _ _ _ _ _ b1 b2 b3 b4)
  have hbr:bitsN r.N<=32*r.n:=by rw[zaH,<-zbo];exact a1.1
  have hbs:bitsN s.N<=32*s.n:=by rw[zaH,<-zbo];exact b1.1
  obtain⟨bR,hbR⟩:∃bR,bitsN r.N=bR:=⟨_,rfl⟩
  obtain⟨bS,hbS⟩:∃bS,bitsN s.N=bS:=⟨_,rfl⟩
  rw[hbR]at EBR hbr
  rw[hbS]at EBS hbs
  replace hbR:=zvY hbR
  replace hbS:=zvY hbS
  clear a1 a2 a3 a4 b1 b2 b3 b4
  refine wp_block ?_
  by_cases hlt:bR<bS
  ·have HE1:=zvY (show Env w (s::r::e) wr from HE.out.pick (by intro z hz;simp only[List.mem_cons]at hz ⊢;rcases hz with rfl|rfl|hz <;> simp[*]))
   have HG1:=zvY (show Nat.gcd s.N r.N=Nat.gcd x.N y.N from by rw[Nat.gcd_comm];exact HG.out)
   have HK1:=zvY (show r.N+s.N=s.N+r.N by omega)
   obtain⟨a1,a2,a3,a4⟩:=HE1.out.2 s (by simp)
   obtain⟨b1,b2,b3,b4⟩:=HE1.out.2 r (by simp)
   have a5:s.c<=9223372036854775807:=by simpa[maxLen]using a3
   have b5:r.c<=9223372036854775807:=by simpa[maxLen]using b3
   have SPY:=zvY (fun h=>zcW wr _ s.A s.n s.c s.N a1 a2 a5 h)
   have SPN:=zvY (fun h=>zeL wr _ s.A s.n s.c s.N a1 a2 a5 h)
   have SQY:=zvY (fun h=>zcW wr _ r.A r.n r.c r.N b1 b2 b5 h)
   have SQN:=zvY (fun h=>zeL wr _ r.A r.n r.c r.N b1 b2 b5 h)
   clear a1 a2 a3 a4 b1 b2 b3 b4
   refine wp_seq_k fun K1 h1=>?_
   replace h1:=zvY h1
   go_wp2_with (first
    |(go_at_call 119;(with_reducible refine EBR.out.mono ?_);rintro e' w' ⟨rfl,rfl⟩)
    |(go_at_call 119;(with_reducible refine EBS.out.mono ?_);rintro e' w' ⟨rfl,rfl⟩))
   refine h1.out _ _ ?_
   clear h1
   by_cases hp:s.N<18446744073709551616
   ·have hq:r.N<18446744073709551616:=by
     have e1:=(zaH (N:=s.N) (k:=64)).2 hp
     exact(zaH (N:=r.N) (k:=64)).1 (by have:=hbR.out;have:=hbS.out;omega)
    have EP1:=zvY (SPY.out hp)
    have EQ1:=zvY (SQY.out hq)
    have EW:=zvY (zex wr s.N r.N hp hq (HT.out.keep HE1.out.1))
    have hgs:Nat.gcd s.N r.N<18446744073709551616:=by
     rcases zv7 s.N with h0|h0
     ·rw[h0,Nat.gcd_zero_left];exact hq
     ·exact zv4 (Nat.gcd_le_left _ h0) hp
    have EO:=zvY (zgf wr (Nat.gcd s.N r.N) hgs)
    have hll:=zvY (show lenL (Nat.gcd s.N r.N)<=35184372087808 by have:=zbK.2 hgs;omega)
    rw[HG1.out]at EW EO hgs hll
    obtain⟨D,hD⟩:∃D,Nat.gcd x.N y.N=D:=⟨_,rfl⟩
    rw[hD]at EW EO hgs hll ⊢
    replace HK1:=zvY True.intro
    go_wp2_with (first
     |(go_at_call 192;(with_reducible refine EP1.out.mono ?_);rintro e' w' ⟨rfl,rfl⟩)
     |(go_at_call 192;(with_reducible refine EQ1.out.mono ?_);rintro e' w' ⟨rfl,rfl⟩)
     |(go_at_call 193;(with_reducible refine EW.out.mono ?_);rintro e' w' ⟨rfl,rfl⟩)
     |(go_at_call 85;refine EO.out.mono ?_;rintro e' w' hg;replace hg:=zvY (zb3 HE1.out hg hll.out);obtain⟨z,rfl,zN,zn,hz⟩:=hg.out;replace zN:=zvY zN;replace zn:=zvY zn;replace hz:=zvY hz))
    go_ret
    exact⟨z,rfl,zN.out,zn.out,hz.out.pick (by intro z hz;simp only[List.mem_cons]at hz ⊢;rcases hz with rfl|hz <;> simp[*])⟩
   have EP1:=zvY (SPN.out (by omega))
   have P0:s.N≠0:=by omega
   have HP0:=zvY P0
   clear P0
   by_cases hq:r.N<18446744073709551616
   ·have EQ1:=zvY (SQY.out hq)
    by_cases hq0:r.N=0
    ·have ET:=zvY (zgX HE1.out (x:=s) (by simp))
     rw[show s.N=Nat.gcd x.N y.N by rw[<-HG1.out,hq0,Nat.gcd_zero_right]]at ET
     go_wp2_with (first
      |(go_at_call 192;(with_reducible refine EP1.out.mono ?_);rintro e' w' ⟨rfl,rfl⟩)
      |(go_at_call 192;(with_reducible refine EQ1.out.mono ?_);rintro e' w' ⟨rfl,rfl⟩)
      |(go_at_call 155;refine ET.out.mono ?_;rintro e' w' ⟨z,rfl,zN,zn,hz⟩;replace zN:=zvY zN;replace zn:=zvY zn;replace hz:=zvY hz))
     go_ret
     exact⟨z,rfl,zN.out,zn.out,hz.out.pick (by intro z hz;simp only[List.mem_cons]at hz ⊢;rcases hz with rfl|hz <;> simp[*])⟩
    ·have ED:=zvY (zga HE1.out (x:=s) (y:=r) (by simp) (by simp) (by omega) (by omega))
     have hrest:=zvY (show zcl s.N r.N=s.N%r.N from zcD hq0)
     have hrl:=zvY (show s.N%r.N<r.N from Nat.mod_lt _ (by omega))
     have hrlen:=zvY (show lenL (s.N%r.N)<=10000 by
      have h1:=zaG (Nat.le_of_lt hrl.out)
      have h2:=zai.2 (HE1.out.2 r (by simp)).1.1
      omega)
     have hpq:=zvY (show r.N<s.N by omega)
     go_wp2_with (first
      |(go_at_call 192;(with_reducible refine EP1.out.mono ?_);rintro e' w' ⟨rfl,rfl⟩)
      |(go_at_call 192;(with_reducible refine EQ1.out.mono ?_);rintro e' w' ⟨rfl,rfl⟩)
      |(go_at_call 156;refine ED.out.mono ?_;rintro e' w' ⟨z1,z,rfl,z1N,z1n,zN,zn,hz⟩;rw[hrest.out]at zN zn;clear z1N z1n;replace zN:=zvY zN;replace zn:=zvY zn;replace hz:=zvY hz))
     have HR:=zvY (show Nat.gcd z.N r.N=Nat.gcd x.N y.N by rw[zN.out,<-HG1.out,Nat.gcd_comm s.N,Nat.gcd_rec r.N])
     have HZ:=zvY (show Env w (z::r::e) w' from hz.out.pick (by intro z hz;simp only[List.mem_cons]at hz ⊢;rcases hz with rfl|rfl|hz <;> simp[*]))
     have hzb:z.n<=10000:=by rw[zn.out];exact hrlen.out
     go_roundg (z.N+r.N)
     case rel=>exact⟨z,r,rfl,rfl,hzb,br,HZ,HR,zvY rfl⟩
     case measure=>have h1:=zN.out;have h2:=hrl.out;have h3:=hpq.out;have h4:=HK1.out;have h5:=HK.out;omega
   ·have EQ1:=zvY (SQN.out (by omega))
    have Q0:r.N≠0:=by omega
    have HQ0:=zvY Q0
    by_cases hd:bS - bR<=64
    ·have EL:=zvY (zkd HE1.out (x:=s) (y:=r) (by simp) (by simp) (by omega) (by omega) HP0.out HQ0.out HT.out)
     rw[HG1.out]at EL
     replace HK1:=zvY True.intro
     clear Q0
     go_wp2_with (first
      |(go_at_call 192;(with_reducible refine EP1.out.mono ?_);rintro e' w' ⟨rfl,rfl⟩)
      |(go_at_call 192;(with_reducible refine EQ1.out.mono ?_);rintro e' w' ⟨rfl,rfl⟩)
      |(go_at_call 119;(with_reducible refine EBR.out.mono ?_);rintro e' w' ⟨rfl,rfl⟩)
      |(go_at_call 119;(with_reducible refine EBS.out.mono ?_);rintro e' w' ⟨rfl,rfl⟩)
      |(go_at_call 194;refine EL.out.mono ?_;rintro e' w' ⟨z,rfl,zN,zn,hz⟩;replace zN:=zvY zN;replace zn:=zvY zn;replace hz:=zvY hz))
     go_ret
     exact⟨z,rfl,zN.out,zn.out,hz.out.pick (by intro z hz;simp only[List.mem_cons]at hz ⊢;rcases hz with rfl|hz <;> simp[*])⟩
    ·have ED:=zvY (zga HE1.out (x:=s) (y:=r) (by simp) (by simp) (by omega) (by omega))
     have hrest:=zvY (show zcl s.N r.N=s.N%r.N from zcD Q0)
     have hrl:=zvY (show s.N%r.N<r.N from Nat.mod_lt _ (by omega))
     have hrlen:=zvY (show lenL (s.N%r.N)<=10000 by
      have h1:=zaG (Nat.le_of_lt hrl.out)
      have h2:=zai.2 (HE1.out.2 r (by simp)).1.1
      omega)
     have hpq:=zvY (show r.N<s.N by
      have h1:=(zaH (N:=r.N) (k:=bR)).1 (by have:=hbR.out;have:=hbS.out;omega)
      rcases zv6 r.N s.N with h2|h2
      ·exact h2
      ·have h3:=(zaH (N:=s.N) (k:=bR)).2 (by omega)
       have:=hbR.out
       have:=hbS.out
       omega)
     clear Q0
     go_wp2_with (first
      |(go_at_call 192;(with_reducible refine EP1.out.mono ?_);rintro e' w' ⟨rfl,rfl⟩)
      |(go_at_call 192;(with_reducible refine EQ1.out.mono ?_);rintro e' w' ⟨rfl,rfl⟩)
      |(go_at_call 119;(with_reducible refine EBR.out.mono ?_);rintro e' w' ⟨rfl,rfl⟩)
      |(go_at_call 119;(with_reducible refine EBS.out.mono ?_);rintro e' w' ⟨rfl,rfl⟩)
      |(go_at_call 156;refine ED.out.mono ?_;rintro e' w' ⟨z1,z,rfl,z1N,z1n,zN,zn,hz⟩;rw[hrest.out]at zN zn;clear z1N z1n;replace zN:=zvY zN;replace zn:=zvY zn;replace hz:=zvY hz))
     have HR:=zvY (show Nat.gcd z.N r.N=Nat.gcd x.N y.N by rw[zN.out,<-HG1.out,Nat.gcd_comm s.N,Nat.gcd_rec r.N])
     have HZ:=zvY (show Env w (z::r::e) w' from hz.out.pick (by intro z hz;simp only[List.mem_cons]at hz ⊢;rcases hz with rfl|rfl|hz <;> simp[*]))
     have hzb:z.n<=10000:=by rw[zn.out];exact hrlen.out
     go_roundg (z.N+r.N)
     case rel=>exact⟨z,r,rfl,rfl,hzb,br,HZ,HR,zvY rfl⟩
     case measure=>have h1:=zN.out;have h2:=hrl.out;have h3:=hpq.out;have h4:=HK1.out;have h5:=HK.out;omega
  ·have HE1:=zvY (show Env w (r::s::e) wr from HE.out)
   have HG1:=zvY (show Nat.gcd r.N s.N=Nat.gcd x.N y.N from HG.out)
   have HK1:=zvY (show r.N+s.N=r.N+s.N by omega)
   obtain⟨a1,a2,a3,a4⟩:=HE1.out.2 r (by simp)
   obtain⟨b1,b2,b3,b4⟩:=HE1.out.2 s (by simp)
   have a5:r.c<=9223372036854775807:=by simpa[maxLen]using a3
   have b5:s.c<=9223372036854775807:=by simpa[maxLen]using b3
   have SPY:=zvY (fun h=>zcW wr _ r.A r.n r.c r.N a1 a2 a5 h)
   have SPN:=zvY (fun h=>zeL wr _ r.A r.n r.c r.N a1 a2 a5 h)
   have SQY:=zvY (fun h=>zcW wr _ s.A s.n s.c s.N b1 b2 b5 h)
   have SQN:=zvY (fun h=>zeL wr _ s.A s.n s.c s.N b1 b2 b5 h)
   clear a1 a2 a3 a4 b1 b2 b3 b4
   refine wp_seq_k fun K1 h1=>?_
   replace h1:=zvY h1
   go_wp2_with (first
    |(go_at_call 119;(with_reducible refine EBR.out.mono ?_);rintro e' w' ⟨rfl,rfl⟩)
    |(go_at_call 119;(with_reducible refine EBS.out.mono ?_);rintro e' w' ⟨rfl,rfl⟩))
   refine h1.out _ _ ?_
   clear h1
   by_cases hp:r.N<18446744073709551616
   ·have hq:s.N<18446744073709551616:=by
     have e1:=(zaH (N:=r.N) (k:=64)).2 hp
     exact(zaH (N:=s.N) (k:=64)).1 (by have:=hbR.out;have:=hbS.out;omega)
    have EP1:=zvY (SPY.out hp)
    have EQ1:=zvY (SQY.out hq)
    have EW:=zvY (zex wr r.N s.N hp hq (HT.out.keep HE1.out.1))
    have hgs:Nat.gcd r.N s.N<18446744073709551616:=by
     rcases zv7 r.N with h0|h0
     ·rw[h0,Nat.gcd_zero_left];exact hq
     ·exact zv4 (Nat.gcd_le_left _ h0) hp
    have EO:=zvY (zgf wr (Nat.gcd r.N s.N) hgs)
    have hll:=zvY (show lenL (Nat.gcd r.N s.N)<=35184372087808 by have:=zbK.2 hgs;omega)
    rw[HG1.out]at EW EO hgs hll
    obtain⟨D,hD⟩:∃D,Nat.gcd x.N y.N=D:=⟨_,rfl⟩
    rw[hD]at EW EO hgs hll ⊢
    replace HK1:=zvY True.intro
    go_wp2_with (first
     |(go_at_call 192;(with_reducible refine EP1.out.mono ?_);rintro e' w' ⟨rfl,rfl⟩)
     |(go_at_call 192;(with_reducible refine EQ1.out.mono ?_);rintro e' w' ⟨rfl,rfl⟩)
     |(go_at_call 193;(with_reducible refine EW.out.mono ?_);rintro e' w' ⟨rfl,rfl⟩)
     |(go_at_call 85;refine EO.out.mono ?_;rintro e' w' hg;replace hg:=zvY (zb3 HE1.out hg hll.out);obtain⟨z,rfl,zN,zn,hz⟩:=hg.out;replace zN:=zvY zN;replace zn:=zvY zn;replace hz:=zvY hz))
    go_ret
    exact⟨z,rfl,zN.out,zn.out,hz.out.pick (by intro z hz;simp only[List.mem_cons]at hz ⊢;rcases hz with rfl|hz <;> simp[*])⟩
   have EP1:=zvY (SPN.out (by omega))
   have P0:r.N≠0:=by omega
   have HP0:=zvY P0
   clear P0
   by_cases hq:s.N<18446744073709551616
   ·have EQ1:=zvY (SQY.out hq)
    by_cases hq0:s.N=0
    ·have ET:=zvY (zgX HE1.out (x:=r) (by simp))
     rw[show r.N=Nat.gcd x.N y.N by rw[<-HG1.out,hq0,Nat.gcd_zero_right]]at ET
     go_wp2_with (first
      |(go_at_call 192;(with_reducible refine EP1.out.mono ?_);rintro e' w' ⟨rfl,rfl⟩)
      |(go_at_call 192;(with_reducible refine EQ1.out.mono ?_);rintro e' w' ⟨rfl,rfl⟩)
      |(go_at_call 155;refine ET.out.mono ?_;rintro e' w' ⟨z,rfl,zN,zn,hz⟩;replace zN:=zvY zN;replace zn:=zvY zn;replace hz:=zvY hz))
     go_ret
     exact⟨z,rfl,zN.out,zn.out,hz.out.pick (by intro z hz;simp only[List.mem_cons]at hz ⊢;rcases hz with rfl|hz <;> simp[*])⟩
    ·have ED:=zvY (zga HE1.out (x:=r) (y:=s) (by simp) (by simp) (by omega) (by omega))
     have hrest:=zvY (show zcl r.N s.N=r.N%s.N from zcD hq0)
     have hrl:=zvY (show r.N%s.N<s.N from Nat.mod_lt _ (by omega))
     have hrlen:=zvY (show lenL (r.N%s.N)<=10000 by
      have h1:=zaG (Nat.le_of_lt hrl.out)
      have h2:=zai.2 (HE1.out.2 s (by simp)).1.1
      omega)
     have hpq:=zvY (show s.N<r.N by omega)
     go_wp2_with (first
      |(go_at_call 192;(with_reducible refine EP1.out.mono ?_);rintro e' w' ⟨rfl,rfl⟩)
      |(go_at_call 192;(with_reducible refine EQ1.out.mono ?_);rintro e' w' ⟨rfl,rfl⟩)
      |(go_at_call 156;refine ED.out.mono ?_;rintro e' w' ⟨z1,z,rfl,z1N,z1n,zN,zn,hz⟩;rw[hrest.out]at zN zn;clear z1N z1n;replace zN:=zvY zN;replace zn:=zvY zn;replace hz:=zvY hz))
     have HR:=zvY (show Nat.gcd z.N s.N=Nat.gcd x.N y.N by rw[zN.out,<-HG1.out,Nat.gcd_comm r.N,Nat.gcd_rec s.N])
     have HZ:=zvY (show Env w (z::s::e) w' from hz.out.pick (by intro z hz;simp only[List.mem_cons]at hz ⊢;rcases hz with rfl|rfl|hz <;> simp[*]))
     have hzb:z.n<=10000:=by rw[zn.out];exact hrlen.out
     go_roundg (z.N+s.N)
     case rel=>exact⟨z,s,rfl,rfl,hzb,bs,HZ,HR,zvY rfl⟩
     case measure=>have h1:=zN.out;have h2:=hrl.out;have h3:=hpq.out;have h4:=HK1.out;have h5:=HK.out;omega
   ·have EQ1:=zvY (SQN.out (by omega))
    have Q0:s.N≠0:=by omega
    have HQ0:=zvY Q0
    by_cases hd:bR - bS<=64
    ·have EL:=zvY (zkd HE1.out (x:=r) (y:=s) (by simp) (by simp) (by omega) (by omega) HP0.out HQ0.out HT.out)
     rw[HG1.out]at EL
     replace HK1:=zvY True.intro
     clear Q0
     go_wp2_with (first
      |(go_at_call 192;(with_reducible refine EP1.out.mono ?_);rintro e' w' ⟨rfl,rfl⟩)
      |(go_at_call 192;(with_reducible refine EQ1.out.mono ?_);rintro e' w' ⟨rfl,rfl⟩)
      |(go_at_call 119;(with_reducible refine EBR.out.mono ?_);rintro e' w' ⟨rfl,rfl⟩)
      |(go_at_call 119;(with_reducible refine EBS.out.mono ?_);rintro e' w' ⟨rfl,rfl⟩)
      |(go_at_call 194;refine EL.out.mono ?_;rintro e' w' ⟨z,rfl,zN,zn,hz⟩;replace zN:=zvY zN;replace zn:=zvY zn;replace hz:=zvY hz))
     go_ret
     exact⟨z,rfl,zN.out,zn.out,hz.out.pick (by intro z hz;simp only[List.mem_cons]at hz ⊢;rcases hz with rfl|hz <;> simp[*])⟩
    ·have ED:=zvY (zga HE1.out (x:=r) (y:=s) (by simp) (by simp) (by omega) (by omega))
     have hrest:=zvY (show zcl r.N s.N=r.N%s.N from zcD Q0)
     have hrl:=zvY (show r.N%s.N<s.N from Nat.mod_lt _ (by omega))
     have hrlen:=zvY (show lenL (r.N%s.N)<=10000 by
      have h1:=zaG (Nat.le_of_lt hrl.out)
      have h2:=zai.2 (HE1.out.2 s (by simp)).1.1
      omega)
     have hpq:=zvY (show s.N<r.N by
      have h1:=(zaH (N:=s.N) (k:=bS)).1 (by have:=hbR.out;have:=hbS.out;omega)
      rcases zv6 s.N r.N with h2|h2
      ·exact h2
      ·have h3:=(zaH (N:=r.N) (k:=bS)).2 (by omega)
       have:=hbR.out
       have:=hbS.out
       omega)
     clear Q0
     go_wp2_with (first
      |(go_at_call 192;(with_reducible refine EP1.out.mono ?_);rintro e' w' ⟨rfl,rfl⟩)
      |(go_at_call 192;(with_reducible refine EQ1.out.mono ?_);rintro e' w' ⟨rfl,rfl⟩)
      |(go_at_call 119;(with_reducible refine EBR.out.mono ?_);rintro e' w' ⟨rfl,rfl⟩)
      |(go_at_call 119;(with_reducible refine EBS.out.mono ?_);rintro e' w' ⟨rfl,rfl⟩)
      |(go_at_call 156;refine ED.out.mono ?_;rintro e' w' ⟨z1,z,rfl,z1N,z1n,zN,zn,hz⟩;rw[hrest.out]at zN zn;clear z1N z1n;replace zN:=zvY zN;replace zn:=zvY zn;replace hz:=zvY hz))
     have HR:=zvY (show Nat.gcd z.N s.N=Nat.gcd x.N y.N by rw[zN.out,<-HG1.out,Nat.gcd_comm r.N,Nat.gcd_rec s.N])
     have HZ:=zvY (show Env w (z::s::e) w' from hz.out.pick (by intro z hz;simp only[List.mem_cons]at hz ⊢;rcases hz with rfl|rfl|hz <;> simp[*]))
     have hzb:z.n<=10000:=by rw[zn.out];exact hrlen.out
     go_roundg (z.N+s.N)
     case rel=>exact⟨z,s,rfl,rfl,hzb,bs,HZ,HR,zvY rfl⟩
     case measure=>have h1:=zN.out;have h2:=hrl.out;have h3:=hpq.out;have h4:=HK1.out;have h5:=HK.out;omega
end
section
variable {w:World}
theorem zlx (hT:Tabs w):zhb w:=fun W e x y h hx hy bx by'=>by
 have EG:=zvY (zpo hT W e x y h hx hy bx by')
 have HL:=zvY (zg6 (h.2 x hx).1.1 (h.2 y hy).1.1 bx by')
 have HX:=zvY (And.intro hx hy)
 have HE:=zvY h
 clear h hx hy hT
 go_enter Tryz.func116,Tryz.ntmps116
 go_wp2_with fail
 refine EG.out.mono ?_
 rintro e1 W1 ⟨g,rfl,gN,gn,hE1⟩
 have gb:g.n<=10000:=by rw[gn];exact HL.out
 have EO:=zvY (zrI hE1 (x:=g) (by simp))
 have HE1:=zvY hE1
 replace gN:=zvY gN
 replace gn:=zvY gn
 clear hE1
 by_cases h1:g.N=1
 ·rw[show decide (g.N=1)=true by simp[h1]]at EO
  have HD:=zvY (show Nat.gcd x.N y.N=1 by rw[<-gN.out];exact h1)
  clear h1
  have ETX:=zvY (zgX HE1.out (x:=x) (by simp[HX.out.1]))
  go_wp2_with (first
   |(go_at_call 154;(with_reducible refine EO.out.mono ?_);rintro e' w' ⟨rfl,rfl⟩)
   |fail)
  refine ETX.out.mono ?_
  rintro e2 W2 ⟨p,rfl,pN,pn,hE2⟩
  have ETY:=zvY (zgX hE2 (x:=y) (by simp[HX.out.2]))
  replace pN:=zvY pN
  replace pn:=zvY pn
  clear hE2
  go_wp2_with fail
  refine ETY.out.mono ?_
  rintro e3 W3 ⟨q,rfl,qN,qn,hE3⟩
  replace qN:=zvY qN
  replace qn:=zvY qn
  replace hE3:=zvY hE3
  go_wp2
  go_ret2
  exact⟨p,q,rfl,by rw[HD.out,Nat.div_one];exact pN.out,by rw[HD.out,Nat.div_one];exact pn.out,by rw[HD.out,Nat.div_one];exact qN.out,by rw[HD.out,Nat.div_one];exact qn.out,hE3.out.pick (by intro z hz;simp only[List.mem_cons]at hz ⊢;rcases hz with rfl|rfl|hz <;> simp[*])⟩
 ·rw[show decide (g.N=1)=false by simp[h1]]at EO
  clear h1
  have EDX:=zvY (zga HE1.out (x:=x) (y:=g) (by simp[HX.out.1]) (by simp) (by omega) (by omega))
  rw[gN.out]at EDX
  go_wp2_with (first
   |(go_at_call 154;(with_reducible refine EO.out.mono ?_);rintro e' w' ⟨rfl,rfl⟩)
   |fail)
  refine EDX.out.mono ?_
  rintro e2 W2 ⟨p,p',rfl,pN,pn,-,-,hE2⟩
  have EDY:=zvY (zga hE2 (x:=y) (y:=g) (by simp[HX.out.2]) (by simp) (by omega) (by omega))
  rw[gN.out]at EDY
  replace pN:=zvY pN
  replace pn:=zvY pn
  clear hE2
  go_wp2_with fail
  refine EDY.out.mono ?_
  rintro e3 W3 ⟨q,q',rfl,qN,qn,-,-,hE3⟩
  replace qN:=zvY qN
  replace qn:=zvY qn
  replace hE3:=zvY hE3
  go_wp2
  go_ret2
  exact⟨p,q,rfl,pN.out,pn.out,qN.out,qn.out,hE3.out.pick (by intro z hz;simp only[List.mem_cons]at hz ⊢;rcases hz with rfl|rfl|hz <;> simp[*])⟩
end
theorem zly:(Rows.laid_math_bits_deBruijn32tab:DataW Unit)=Lib.tabData .u8 (Lib.deBruijn32tab.map fun z:Nat=>(z:Int)):=by rfl
theorem zlz:(Rows.laid_math_bits_deBruijn64tab:DataW Unit)=Lib.tabData .u8 (Lib.deBruijn64tab.map fun z:Nat=>(z:Int)):=by rfl
theorem zio (l:List Nat)(i:Nat):(l.map fun z:Nat=>(z:Int)).getD i 0=((l.getD i 0:Nat):Int):=by
 simp only[List.getD,List.getElem?_map]
 cases l[i]? <;> rfl
end Go.Proofs.YtipckjmgdghkiaaGreatDoor
