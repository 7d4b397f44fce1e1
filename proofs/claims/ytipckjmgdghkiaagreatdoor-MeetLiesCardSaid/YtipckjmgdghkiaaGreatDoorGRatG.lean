/- A part. -/
import Derived.Test.YtipckjmgdghkiaaGreatDoorGRef4
import Derived.Test.YtipckjmgdghkiaaGreatDoorGReR
set_option maxHeartbeats 4000000
set_option maxRecDepth 100000
namespace Go.Proofs.YtipckjmgdghkiaaGreatDoor
open Go Go.RowKit
section
variable {w W:World}{e:List Num}{x y:Num}
theorem zk2 (w:World)(a b:Nat)(ha:a<18446744073709551616)(hb:b<18446744073709551616):
  Calls Tryz.prog 125 #[.int .u64 a,.int .u64 b] w fun e w'=>e= .returned (.int .u64 (Nat.gcd a b))/\Below w.heap.size w w':=by
 obtain⟨g,hg⟩:∃g,Nat.gcd a b=g:=⟨_,rfl⟩
 rw[hg]
 have HG:=zvY hg
 clear hg
 go_enter Tryz.func125,Tryz.ntmps125
 go_wp2
 go_loopw [0,1] (fun av bv V=>∃m n:Nat,av= .int .u64 m/\bv= .int .u64 n/\m<18446744073709551616/\n<18446744073709551616/\Hid (Nat.gcd m n=g)/\Below w.heap.size w V) (fun _ bv _=>(intOf bv).toNat)
 case atStart=>exact⟨a,b,rfl,rfl,ha,hb,HG,Below.refl _ _⟩
 case round=>
  obtain⟨m,n,rfl,rfl,hm,hn,hg,hB⟩:=hrel
  by_cases h0:0<n
  ·have hrem:Int.tmod (m:Int) (n:Int)=((m%n:Nat):Int):=by rw[Int.natCast_emod,Int.tmod_eq_emod_of_nonneg (by omega)]
   have hlt:=Nat.mod_lt m h0
   have HN:=zvY (show Nat.gcd n (m%n)=g by rw[<-hg.out,Nat.gcd_comm m n,Nat.gcd_rec n m,Nat.gcd_comm])
   go_wp2
   go_quiet (fail)
   go_wp2
   go_roundw
   case rel=>exact⟨n,m%n,rfl,rfl,hn,by omega,HN,zdF hB _⟩
   case measure=>simp[intOf];omega
  ·have HM:=zvY (show m=g by rw[<-hg.out,show n=0 by omega,Nat.gcd_zero_right])
   have hz:decide ((0:Int)<(n:Int))=false:=by rw[decide_eq_false_iff_not];omega
   go_wp2
   go_ret
   exact⟨congrArg (fun z:Nat=>Ending.returned (.int .u64 z)) HM.out,hB⟩
theorem zt8 (W:World){g:Nat}(hg:W.heap.size=g):(Num.mk (some ⟨g,0,none⟩) 1 1 1).ok (W.alloc (.cells #[.int .u32 1] 92)) (W.alloc (.cells #[.int .u32 1] 92)).heap.size:=zkv W (N:=1) rfl hg (by decide)
theorem zsq (n:Int){x y:Num}(hx:x.N=n.natAbs)(hl:x.n=lenL n.natAbs)(hy:y.N=1)(hm:y.n=1):IsQ (n:Rat) (decide (n<0)) x y:=
 ⟨by rw[Rat.num_intCast],by rw[Rat.num_intCast,hx],by rw[hl,hx],by rw[Rat.den_intCast,hy],by rw[hm,hy];decide⟩
theorem zqP {n:Int}(h:Env w e W)(hn: -9223372036854775808<=n/\n<=9223372036854775807):
  Calls Tryz.prog 28 #[.int .i64 n] W (zqK w e (n:Rat)):=by
 have HE:=h.alloc (.cells #[.bool false,.slice none 0 0,.slice none 0 0] 27)
 have B:=zvY (Box3.new W 27 (.bool false) (.slice none 0 0) (.slice none 0 0))
 obtain⟨W1,hW1⟩:∃W1,W.alloc (.cells #[.bool false,.slice none 0 0,.slice none 0 0] 27)=W1:=⟨_,rfl⟩
 rw[hW1]at HE B
 have EH:=zvY (zq4 (w:=W1) (W:=W1) (e:=e) (n:=n) HE.here hn)
 have HS:=zvY h.1.size
 have HB1:=zvY HE.1
 clear h HE hn
 go_enter Tryz.func28,Tryz.ntmps28
 go_wp2_with fail
 clear hW1
 refine EH.out.mono ?_
 rintro e1 W2 ⟨r,rfl,rN,rn,hE⟩
 have HE3:=(hE.alloc (.cells #[.int .u32 1] 92)).add (zt8 W2 rfl)
 have B3:=(B.out.below hE.1 B.out.lt).alloc (.cells #[.int .u32 1] 92)
 obtain⟨W3,hW3⟩:∃W3,W2.alloc (.cells #[.int .u32 1] 92)=W3:=⟨_,rfl⟩
 rw[hW3]at HE3 B3
 obtain⟨c1,c2,c3,c4,c5,c6⟩:=B3.cells
 have HF:=zvY ((HE3.over HB1.out).box3 B3 HS.out (.bool (decide (n<0))) (.slice r.A r.n r.c) (.slice (some ⟨W2.heap.size,0,none⟩) 1 1))
 have HB3:=zvY B3
 have RN:=zvY (zsq n (x:=r) (y:=⟨some ⟨W2.heap.size,0,none⟩,1,1,1⟩) rN rn rfl rfl)
 clear hE HE3 B3 rN rn EH
 go_wp2
 exact bodyPost_ret (zm8 (HB3.out.set _ _ _) rfl rfl) rfl ⟨_,r,⟨some ⟨W2.heap.size,0,none⟩,1,1,1⟩,rfl,RN.out,HF.out.pick (by intro z hz;simp only[List.mem_cons]at hz ⊢;rcases hz with hz|hz|hz <;> simp[hz])⟩
theorem zvj {w W:World}{e f:List Num}{x y:Num}(h:Env w (x::y::f) W)(hf:∀z∈e,z∈f):Env w (x::y::e) W:=h.pick (by
 intro z hz
 simp only[List.mem_cons]at hz ⊢
 rcases hz with hz|hz|hz
 ·exact .inl hz
 ·exact .inr (.inl hz)
 ·exact .inr (.inr (hf z hz)))
theorem zml (b:Bool)(h:Env w e W)(_hx:x∈e)(hy:y∈e)(h0:y.N=0):
  Calls Tryz.prog 87 #[.agg #[.bool b,.slice x.A x.n x.c],.slice y.A y.n y.c] W (zjF w e (qOf b x.N y.N) 30):=by
 have HQ:=zvY (show qOf b x.N y.N=((0:Int):Rat) by unfold qOf;rw[h0];simp)
 have HE:=(h.alloc (.cells #[.bool b,.slice x.A x.n x.c] 25)).alloc (.cells #[.bool false,.slice none 0 0,.slice none 0 0] 27)
 have B4:=zvY (Box3.new (W.alloc (.cells #[.bool b,.slice x.A x.n x.c] 25)) 27 (.bool false) (.slice none 0 0) (.slice none 0 0))
 obtain⟨W1,hW1⟩:∃W1,(W.alloc (.cells #[.bool b,.slice x.A x.n x.c] 25)).alloc (.cells #[.bool false,.slice none 0 0,.slice none 0 0] 27)=W1:=⟨_,rfl⟩
 rw[hW1]at HE B4
 rw[World.size_alloc]at B4
 have ET:=zvY (zb1 HE.here hy)
 have HS:=zvY (show w.heap.size<=W.heap.size+1 by have:=h.1.size;omega)
 have HB1:=zvY HE.1
 have H0:=zvY h0
 clear h HE _hx hy h0
 go_enter Tryz.func87,Tryz.ntmps87
 go_wp2_with fail
 clear hW1
 refine ET.out.mono ?_
 rintro e1 W2 ⟨r,rfl,rN,rn,hE2,-⟩
 have hr0:r.n=lenL y.N:=rn
 rw[H0.out,zaS]at hr0
 have hz:((r.n:Int)==0)=true:=by rw[hr0];rfl
 have EO:=zvY (zqP (n:=0) hE2 (by omega))
 clear rN rn hr0 hE2 ET
 go_wp2_with fail
 refine EO.out.mono ?_
 rintro e2 W3 ⟨b0,p,q,rfl,hQ,hE3⟩
 have B3:=B4.out.below hE3.1 B4.out.lt
 obtain⟨c1,c2,c3,c4,c5,c6⟩:=B3.cells
 have HF:=zvY ((hE3.over HB1.out).box3 B3 HS.out (.bool b0) (.slice p.A p.n p.c) (.slice q.A q.n q.c))
 have HB3:=zvY B3
 have IQ:=zvY hQ
 clear hE3 B3 hQ EO
 go_wp2
 exact bodyPost_ret (zgo (HB3.out.set _ _ _) rfl rfl rfl) rfl ⟨_,p,q,rfl,by rw[HQ.out];exact IQ.out,zvj HF.out (by intro z hz;simp[hz])⟩
theorem ze6 (h:Env w e W)(hx:x∈e):Calls Tryz.prog 124 #[.slice x.A x.n x.c] W fun e' W'=>e'= .returned (.tuple #[.int .u64 (if x.N<18446744073709551616 then x.N else 0:Nat),.bool (decide (x.N<18446744073709551616))])/\Env w e W':=by
 obtain⟨h1,h2,h3,h4⟩:=h.2 x hx
 by_cases hs:x.N<18446744073709551616
 ·refine(zmq W _ _ _ _ h1 h2 h3 h4 hs).mono ?_
  rintro e' W' ⟨rfl,hb⟩
  exact⟨by rw[if_pos hs,decide_eq_true hs],h.step hb⟩
 ·refine(zoQ W _ _ _ _ h1 h2 h3 h4 hs).mono ?_
  rintro e' W' ⟨rfl,hb⟩
  exact⟨by rw[if_neg hs,decide_eq_false hs];rfl,h.step hb⟩
theorem zoH {b:Bool}{X D M K:Nat}(hD:D≠0)(hM:M=X/Nat.gcd X D)(hK:K=D/Nat.gcd X D):zOf (decide (zOf b X<0)) M=(qOf b X D).num/\K=(qOf b X D).den:=by
 obtain⟨a1,a2⟩:=zd1 (z:=zOf b X) hD
 obtain⟨-,a3⟩:=zdH (z:=zOf b X) hD
 rw[zbu]at a1 a3
 refine⟨?_,by rw[hK];exact a3.symm⟩
 rw[<-a2,hM,<-a1]
 show zOf (decide ((qOf b X D).num<0)) (qOf b X D).num.natAbs=(qOf b X D).num
 unfold zOf
 by_cases hn:(qOf b X D).num<0
 ·rw[decide_eq_true hn,if_pos rfl];omega
 ·rw[decide_eq_false hn,if_neg (by simp)];omega
theorem zk3 {b:Bool}{X D M:Nat}{p q:Num}(hD:D≠0)(hM:M=X/Nat.gcd X D)(p1:p.N=(zOf (decide (zOf b X<0)) M).natAbs)(p2:p.n=lenL (zOf (decide (zOf b X<0)) M).natAbs)(q1:q.N=D/Nat.gcd X D)(q2:q.n=lenL q.N):
  IsQ (qOf b X D) (decide (zOf (decide (zOf b X<0)) M<0)) p q:=by
 obtain⟨h1,h2⟩:=zoH (b:=b) hD hM q1
 rw[h1]at p1 p2 ⊢
 exact⟨rfl,p1,by rw[p2,p1],h2,q2⟩
theorem zk4 (b:Bool)(h:Env w e W)(hx:x∈e)(hy:y∈e)(bx:x.n<=700)(by':y.n<=700)(h0:y.N≠0)(hg:x.N<18446744073709551616-> ¬y.N<18446744073709551616):
  Calls Tryz.prog 87 #[.agg #[.bool b,.slice x.A x.n x.c],.slice y.A y.n y.c] W (zjF w e (qOf b x.N y.N) 0):=by
 have HE:=(h.alloc (.cells #[.bool b,.slice x.A x.n x.c] 25)).alloc (.cells #[.bool false,.slice none 0 0,.slice none 0 0] 27)
 have B2:=zvY ((Box2.new W 25 (.bool b) (.slice x.A x.n x.c)).alloc (.cells #[.bool false,.slice none 0 0,.slice none 0 0] 27))
 have B4:=zvY (Box3.new (W.alloc (.cells #[.bool b,.slice x.A x.n x.c] 25)) 27 (.bool false) (.slice none 0 0) (.slice none 0 0))
 obtain⟨W1,hW1⟩:∃W1,(W.alloc (.cells #[.bool b,.slice x.A x.n x.c] 25)).alloc (.cells #[.bool false,.slice none 0 0,.slice none 0 0] 27)=W1:=⟨_,rfl⟩
 rw[hW1]at HE B4 B2
 rw[World.size_alloc]at B4
 have ET:=zvY (zb1 HE.here hy)
 have HS:=zvY h.1.size
 have HB1:=zvY HE.1
 have H0:=zvY h0
 have HX:=zvY (And.intro hx hy)
 have HBX:=zvY (And.intro bx by')
 have HXL:=zvY (zai.2 (h.2 x hx).1.1)
 have HG:=zvY hg
 obtain⟨c1,c2,-,-⟩:=B2.out.cells
 clear h HE hx hy h0 bx by' hg
 go_enter Tryz.func87,Tryz.ntmps87
 go_wp2_with fail
 clear hW1
 refine ET.out.mono ?_
 rintro e1 W2 ⟨r0,rfl,rN,rn,hE2,-⟩
 have hr0:r0.n=lenL y.N:=rn
 have hpos:=zcd H0.out
 have hz:((r0.n:Int)==0)=false:=by rw[beq_eq_false_iff_ne];omega
 replace hE2:=hE2.pick (e':=e) (by intro z hz;simp[hz])
 have EN:=zvY (zcR b hE2 HX.out.1)
 have BB:=zvY (B2.out.below hE2.1 B2.out.lt)
 clear c1 c2
 obtain⟨c1,c2,-,-⟩:=BB.out.cells
 clear rN rn hr0 hE2 ET hpos
 go_wp2_with fail
 refine EN.out.mono ?_
 rintro e2 W3 ⟨r,rfl,rN,rn,hE3⟩
 obtain⟨b1,hb1⟩:∃b1,decide (zOf b x.N<0)=b1:=⟨_,rfl⟩
 rw[hb1]
 have HN1:=zvY hb1
 have B3:=B2.out.below hE3.1 B2.out.lt
 have C3:=B4.out.below hE3.1 B4.out.lt
 have hne:some (W.heap.size+1)≠some W.heap.size:=by intro e;injection e with e;omega
 have HE4:=(hE3.over HB1.out).boxed B3 HS.out b1 (.slice r.A r.n r.c)
 have B5:=zvY (B3.set (.bool b1) (.slice r.A r.n r.c))
 have C5:=zvY ((C3.kept (zbA W3 W.heap.size 0 (.bool b1)) hne).kept (zbA _ W.heap.size 1 (.slice r.A r.n r.c)) hne)
 obtain⟨c3,c4,c5,c6⟩:=B3.cells
 rw[zbu]at rN rn
 have RN:=zvY rN
 have RL:=zvY rn
 clear c1 c2 hb1 rN rn hE3 EN BB B3 C3 hz
 obtain⟨W5,hW5⟩:∃W5,(W3.setCell ⟨W.heap.size,0,none⟩ (.bool b1)).setCell ⟨W.heap.size,1,none⟩ (.slice r.A r.n r.c)=W5:=⟨_,rfl⟩
 rw[hW5]at HE4 B5 C5
 have HB5:=zvY HE4.1
 have ES:=zvY (ze6 HE4.here (x:=r) (by simp))
 obtain⟨d1,d2,-,-⟩:=B5.out.cells
 clear HE4
 go_wp2_with fail
 clear hW5
 refine ES.out.mono ?_
 rintro e3 W6 ⟨rfl,hE6⟩
 rw[RN.out]
 obtain⟨o1,ho1⟩:∃o1,decide (x.N<18446744073709551616)=o1:=⟨_,rfl⟩
 obtain⟨a1,ha1⟩:∃a1:Nat,(if x.N<18446744073709551616 then x.N else 0)=a1:=⟨_,rfl⟩
 rw[ho1,ha1]
 have ES2:=zvY (ze6 hE6 (x:=y) (by simp[HX.out.2]))
 obtain⟨o2,ho2⟩:∃o2,decide (y.N<18446744073709551616)=o2:=⟨_,rfl⟩
 obtain⟨a2,ha2⟩:∃a2:Nat,(if y.N<18446744073709551616 then y.N else 0)=a2:=⟨_,rfl⟩
 rw[ho2,ha2]at ES2
 have HOO:o1=false\/o1=true/\o2=false:=by
  by_cases hs:x.N<18446744073709551616
  ·exact .inr ⟨by rw[<-ho1];simp[hs],by rw[<-ho2];simpa using HG.out hs⟩
  ·exact .inl (by rw[<-ho1];simpa using hs)
 clear ho1 ha1 ho2 ha2 hE6 ES d1 d2 c3 c4 c5 c6
 go_wp2_with fail
 refine ES2.out.mono ?_
 rintro e4 W7 ⟨rfl,hE7⟩
 have D7:=zvY (B5.out.below hE7.1 B5.out.lt)
 obtain⟨d1,d2,-,-⟩:=D7.out.cells
 have EG:=zvY (zuf hE7 (x:=r) (y:=y) (by simp) (by simp[HX.out.2]) (by have:=HBX.out.1;have:=HXL.out;rw[RL.out];omega) (by have:=HBX.out.2;omega))
 clear hE7 ES2
 rcases HOO with rfl|⟨rfl,rfl⟩
 all_goals
  go_wp2_with fail
  refine EG.out.mono ?_
  rintro e5 W8 ⟨g,rfl,gN,gn,hE8,-⟩
  have gN':g.N=Nat.gcd x.N y.N:=by rw[<-RN.out];exact gN
  have gb:g.n<=800:=by
   have h1:g.n=lenL (Nat.gcd r.N y.N):=gn
   rw[h1]
   exact zv2 (zaG (Nat.le_of_dvd (Nat.pos_of_ne_zero H0.out) (Nat.gcd_dvd_right _ _))) (zv2 (zai.2 (hE8.2 y (by simp[HX.out.2])).1.1) (by have:=HBX.out.2;omega))
  have ED:=zvY (zra hE8 (x:=r) (y:=g) (by simp) (by simp) (by have:=HBX.out.1;have:=HXL.out;rw[RL.out];omega) gb)
  have D8:=zvY (B5.out.below hE8.1 B5.out.lt)
  have GN:=zvY gN'
  have GB:=zvY gb
  clear d1 d2 EG hE8 gN gn gN' gb
  obtain⟨d1,d2,-,-⟩:=D8.out.cells
  go_wp2_with fail
  refine ED.out.mono ?_
  rintro e6 W9 ⟨q,s1,rfl,qN,qn,-,-,hE9⟩
  obtain⟨z1,hz1⟩:∃z1,zfQ g.N=z1:=⟨_,rfl⟩
  rw[hz1]
  have ED2:=zvY (zra hE9 (x:=y) (y:=g) (by simp[HX.out.2]) (by simp) (by have:=HBX.out.2;omega) GB.out)
  rw[hz1]at ED2
  have QN:=zvY (show q.N=x.N/Nat.gcd x.N y.N by rw[qN,RN.out,GN.out])
  clear d1 d2 hz1 ED hE9 qN qn
  go_wp2_with fail
  refine ED2.out.mono ?_
  rintro e7 W10 ⟨k,s2,rfl,kN,kn,-,-,hE10⟩
  have D10:=zvY (B5.out.below hE10.1 B5.out.lt)
  have EN2:=zvY (zcR b1 hE10 (x:=q) (by simp))
  have KN:=zvY (show k.N=y.N/Nat.gcd x.N y.N by rw[kN,GN.out])
  have KL:=zvY (show k.n=lenL k.N by rw[kn,kN])
  clear ED2 hE10 kN kn
  obtain⟨d1,d2,-,-⟩:=D10.out.cells
  go_wp2_with fail
  refine EN2.out.mono ?_
  rintro e8 W11 ⟨p,rfl,pN,pn,hE11⟩
  have C11:=C5.out.below hE11.1 C5.out.lt
  have HF:=zvY ((hE11.over HB5.out).box3 C11 (by have:=HS.out;omega) (.bool (decide (zOf b1 q.N<0))) (.slice p.A p.n p.c) (.slice k.A k.n k.c))
  have HC11:=zvY C11
  have IQ:=zvY (zk3 (b:=b) (X:=x.N) (D:=y.N) (M:=q.N) (p:=p) (q:=k) H0.out QN.out (by rw[HN1.out];exact pN) (by rw[HN1.out];exact pn) KN.out KL.out)
  rw[HN1.out]at IQ
  obtain⟨c1,c2,c3,c4,c5,c6⟩:=C11.cells
  clear d1 d2 EN2 hE11 pN pn C11
  go_wp2
  exact bodyPost_ret (zgo (HC11.out.set _ _ _) rfl rfl rfl) rfl ⟨_,p,k,rfl,IQ.out,HF.out.pick (by intro z hz;simp only[List.mem_cons]at hz ⊢;rcases hz with hz|hz|hz <;> simp[hz])⟩
def RepQ7 (Z:Int)(K:Nat)(v:Value)(V:World):Prop:=∃p k:Num,v= .agg #[.bool (decide (Z<0)),.slice p.A p.n p.c,.slice k.A k.n k.c]/\p.N=Z.natAbs/\p.n=lenL Z.natAbs/\k.N=K/\k.n=lenL K/\p.ok V V.heap.size/\k.ok V V.heap.size
theorem RepQ7.keep {Z:Int}{K:Nat}{v:Value}{V V':World}(h:RepQ7 Z K v V)(hb:Below V.heap.size V V'):RepQ7 Z K v V':=by
 obtain⟨p,k,h1,h2,h3,h4,h5,h6,h7⟩:=h
 exact⟨p,k,h1,h2,h3,h4,h5,h6.later hb,h7.later hb⟩
theorem zk5 (b:Bool)(h:Env w e W)(hx:x∈e)(hy:y∈e)(bx:x.n<=700)(by':y.n<=700)(h0:y.N≠0)(sx:x.N<18446744073709551616)(sy:y.N<18446744073709551616):
  Calls Tryz.prog 87 #[.agg #[.bool b,.slice x.A x.n x.c],.slice y.A y.n y.c] W (zjF w e (qOf b x.N y.N) 0):=by
 have HE:=(h.alloc (.cells #[.bool b,.slice x.A x.n x.c] 25)).alloc (.cells #[.bool false,.slice none 0 0,.slice none 0 0] 27)
 have B2:=zvY ((Box2.new W 25 (.bool b) (.slice x.A x.n x.c)).alloc (.cells #[.bool false,.slice none 0 0,.slice none 0 0] 27))
 have B4:=zvY (Box3.new (W.alloc (.cells #[.bool b,.slice x.A x.n x.c] 25)) 27 (.bool false) (.slice none 0 0) (.slice none 0 0))
 obtain⟨W1,hW1⟩:∃W1,(W.alloc (.cells #[.bool b,.slice x.A x.n x.c] 25)).alloc (.cells #[.bool false,.slice none 0 0,.slice none 0 0] 27)=W1:=⟨_,rfl⟩
 rw[hW1]at HE B4 B2
 rw[World.size_alloc]at B4
 have ET:=zvY (zb1 HE.here hy)
 have HS:=zvY h.1.size
 have HB1:=zvY HE.1
 have H0:=zvY h0
 have HX:=zvY (And.intro hx hy)
 have HBX:=zvY (And.intro bx by')
 have HXL:=zvY (zai.2 (h.2 x hx).1.1)
 have HSM:=zvY (And.intro sx sy)
 obtain⟨c1,c2,-,-⟩:=B2.out.cells
 clear h HE hx hy h0 bx by' sx sy
 go_enter Tryz.func87,Tryz.ntmps87
 go_wp2_with fail
 clear hW1
 refine ET.out.mono ?_
 rintro e1 W2 ⟨r0,rfl,rN,rn,hE2,-⟩
 have hr0:r0.n=lenL y.N:=rn
 have hpos:=zcd H0.out
 have hz:((r0.n:Int)==0)=false:=by rw[beq_eq_false_iff_ne];omega
 replace hE2:=hE2.pick (e':=e) (by intro z hz;simp[hz])
 have EN:=zvY (zcR b hE2 HX.out.1)
 have BB:=zvY (B2.out.below hE2.1 B2.out.lt)
 clear c1 c2
 obtain⟨c1,c2,-,-⟩:=BB.out.cells
 clear rN rn hr0 hE2 ET hpos
 go_wp2_with fail
 refine EN.out.mono ?_
 rintro e2 W3 ⟨r,rfl,rN,rn,hE3⟩
 obtain⟨b1,hb1⟩:∃b1,decide (zOf b x.N<0)=b1:=⟨_,rfl⟩
 rw[hb1]
 have HN1:=zvY hb1
 have B3:=B2.out.below hE3.1 B2.out.lt
 have C3:=B4.out.below hE3.1 B4.out.lt
 have hne:some (W.heap.size+1)≠some W.heap.size:=by intro e;injection e with e;omega
 have HE4:=(hE3.over HB1.out).boxed B3 HS.out b1 (.slice r.A r.n r.c)
 have B5:=zvY (B3.set (.bool b1) (.slice r.A r.n r.c))
 have C5:=zvY ((C3.kept (zbA W3 W.heap.size 0 (.bool b1)) hne).kept (zbA _ W.heap.size 1 (.slice r.A r.n r.c)) hne)
 obtain⟨c3,c4,c5,c6⟩:=B3.cells
 rw[zbu]at rN rn
 have RN:=zvY rN
 have RL:=zvY rn
 clear c1 c2 hb1 rN rn hE3 EN BB B3 C3 hz
 obtain⟨W5,hW5⟩:∃W5,(W3.setCell ⟨W.heap.size,0,none⟩ (.bool b1)).setCell ⟨W.heap.size,1,none⟩ (.slice r.A r.n r.c)=W5:=⟨_,rfl⟩
 rw[hW5]at HE4 B5 C5
 have HB5:=zvY HE4.1
 have ES:=zvY (ze6 HE4.here (x:=r) (by simp))
 obtain⟨d1,d2,-,-⟩:=B5.out.cells
 clear HE4
 go_wp2_with fail
 clear hW5
 refine ES.out.mono ?_
 rintro e3 W6 ⟨rfl,hE6⟩
 rw[RN.out]
 rw[if_pos HSM.out.1,decide_eq_true HSM.out.1]
 have ES2:=zvY (ze6 hE6 (x:=y) (by simp[HX.out.2]))
 rw[if_pos HSM.out.2,decide_eq_true HSM.out.2]at ES2
 have EP:=zvY (fun V=>zk2 V x.N y.N HSM.out.1 HSM.out.2)
 obtain⟨X,hX⟩:∃X,x.N=X:=⟨_,rfl⟩
 obtain⟨Y,hY⟩:∃Y,y.N=Y:=⟨_,rfl⟩
 obtain⟨G,hG⟩:∃G,Nat.gcd X Y=G:=⟨_,rfl⟩
 have hGp:0<G:=by rw[<-hG,<-hY];exact Nat.gcd_pos_of_pos_right _ (Nat.pos_of_ne_zero H0.out)
 have hGY:G<=Y:=by rw[<-hG,<-hY];exact Nat.le_of_dvd (Nat.pos_of_ne_zero H0.out) (Nat.gcd_dvd_right _ _)
 have hXb:X<18446744073709551616:=by rw[<-hX];exact HSM.out.1
 have hYb:Y<18446744073709551616:=by rw[<-hY];exact HSM.out.2
 rw[hX,hY,hG]at EP
 rw[hY]at ES2
 rw[hX]at RN RL HN1 ⊢
 rw[hY]at H0 ⊢
 have HXY:=zvY (And.intro hX hY)
 have HGG:=zvY hG
 clear hE6 ES d1 d2 c3 c4 c5 c6 HSM hX hY hG
 go_wp2_with fail
 refine ES2.out.mono ?_
 rintro e4 W7 ⟨rfl,hE7⟩
 have HE7:=zvY hE7
 clear hE7 ES2
 go_wp2_with fail
 refine(EP.out _).mono ?_
 rintro e5 W8 ⟨rfl,hb8⟩
 have HE8:=HE7.out.step hb8
 have D8:=zvY (B5.out.below HE8.1 B5.out.lt)
 have C8:=zvY (C5.out.below HE8.1 C5.out.lt)
 have HW8:=zvY (HE8.over HB5.out)
 clear hb8 HE8 HE7 EP
 have HG0:=zvY (show¬G=0 by omega)
 have wq:∀M:Nat,M<18446744073709551616->IntKind.u64.wrap ((M:Int)/(G:Int))=(M:Int)/(G:Int):=fun M hM=>by
  have:=Nat.div_le_self M G
  rw[zbT,<-Int.natCast_ediv]
  generalize M/G=K at this ⊢
  omega
 have HQX:=zvY (wq X hXb)
 have HQY:=zvY (wq Y hYb)
 clear wq
 have HBX':=Nat.div_le_self X G
 have HBY':=Nat.div_le_self Y G
 have HBX2:=zvY (show X/G<18446744073709551616 by omega)
 have HBY:=zvY (show Y/G<18446744073709551616 by omega)
 have HLX:=zvY (show lenL (X/G)<=35184372087808 by have:=zbK.2 HBX2.out;omega)
 have HLY:=zvY (show lenL (Y/G)<=35184372087808 by have:=zbK.2 HBY.out;omega)
 have HLT:=zvY (show lenL (X/G)<=10000 by have:=zbK.2 HBX2.out;omega)
 clear HBX' HBY' HBX
 have HBX:=HBX2
 go_wp2_with fail
 refine zbn 13 [43,44,45,46,47,48,49,50,51,52,53,54,55] (fun i v V=>match i with
   |0=>v= .pointer (some ⟨W.heap.size,0,none⟩)
   |1=>v= .bool b1
   |2=>v= .int .u64 (X:Nat)
   |3=>v= .int .u64 (G:Nat)
   |4=>v= .int .u64 ((X/G:Nat):Int)
   |5=>RepN (X/G) v V
   |6=>RepZ (zOf b1 (X/G)) v V
   |7=>RepT (zOf b1 (X/G)) v V
   |8=>v= .int .u64 (Y:Nat)
   |9=>v= .int .u64 (G:Nat)
   |10=>v= .int .u64 ((Y/G:Nat):Int)
   |11=>RepN (Y/G) v V
   |_=>RepQ7 (zOf b1 (X/G)) (Y/G) v V) (fun V=>Below W8.heap.size W8 V) (by kernel_rfl) (by kernel_rfl) rfl (by decide) (by first|(simp;done)|(simp;done)) zv1.drew ?_ ?_ ?_
 ·intro i v V V2 hf hb _
  match i,hf with
  |0,hf=>exact hf
  |1,hf=>exact hf
  |2,hf=>exact hf
  |3,hf=>exact hf
  |4,hf=>exact hf
  |5,hf=>exact RepN.keep hf hb
  |6,hf=>exact RepZ.keep hf hb
  |7,hf=>exact RepT.keep hf hb
  |8,hf=>exact hf
  |9,hf=>exact hf
  |10,hf=>exact hf
  |11,hf=>exact RepN.keep hf hb
  |_+12,hf=>exact RepQ7.keep hf hb
 ·intro i t ht a V hC hF hd
  match i,ht with
  |0,ht=>
   cases ht
   have h2:a.tmps[2]?.getD undef= .pointer (some ⟨W.heap.size,0,none⟩):=(hF.at_ 2 (by decide)).trans rfl
   exact zal (v:= .pointer (some ⟨W.heap.size,0,none⟩)) rfl rfl (zac rfl) (by go_simp) hC rfl
  |1,ht=>
   cases ht
   have h43:a.tmps[43]?.getD undef= .pointer (some ⟨W.heap.size,0,none⟩):=(zae a 43).symm.trans (hd 0 43 rfl (by kernel_rfl))
   obtain⟨c00,c01,-,-⟩:=(D8.out.below hC D8.out.lt).cells
   exact zal (v:= .bool b1) rfl rfl (zac rfl) (by go_simp) hC rfl
  |2,ht=>
   cases ht
   have h6:a.tmps[6]?.getD undef= .int .u64 (X:Nat):=(hF.at_ 6 (by decide)).trans rfl
   exact zal (v:= .int .u64 (X:Nat)) rfl rfl (zac rfl) (by go_simp) hC rfl
  |3,ht=>
   cases ht
   have h10:a.tmps[10]?.getD undef= .int .u64 (G:Nat):=(hF.at_ 10 (by decide)).trans rfl
   exact zal (v:= .int .u64 (G:Nat)) rfl rfl (zac rfl) (by go_simp) hC rfl
  |4,ht=>
   cases ht
   have h45:a.tmps[45]?.getD undef= .int .u64 (X:Nat):=(zae a 45).symm.trans (hd 2 45 rfl (by kernel_rfl))
   have h46:a.tmps[46]?.getD undef= .int .u64 (G:Nat):=(zae a 46).symm.trans (hd 3 46 rfl (by kernel_rfl))
   have hq:=HQX.out
   have hg0: ¬G=0:=HG0.out
   exact zal (v:= .int .u64 ((X/G:Nat):Int)) rfl rfl (zac rfl) (by go_simp) hC rfl
  |5,ht=>
   cases ht
   have h47:a.tmps[47]?.getD undef= .int .u64 ((X/G:Nat):Int):=(zae a 47).symm.trans (hd 4 47 rfl (by kernel_rfl))
   refine za8 rfl rfl (zac rfl) (zbq ⟨_,rfl⟩ h47 (enters_of Tryz.func111 (by kernel_rfl) rfl)) ((zjN V (X/G) HBX.out).mono ?_)
   intro e2 V2 hg
   obtain⟨r,rfl,n1,n2,hE2⟩:=zbB (w:=V) (e:=[]) (Env.start (by simp)) hg HLX.out
   exact⟨_,rfl,⟨r,rfl,n1,n2,hE2.2 r (by simp)⟩,hE2.1,hC.trans (hE2.1.mono hC.size)⟩
  |6,ht=>
   cases ht
   have h44:a.tmps[44]?.getD undef= .bool b1:=(zae a 44).symm.trans (hd 1 44 rfl (by kernel_rfl))
   have r48:RepN (X/G) (a.tmps.getD 48 undef) V:=hd 5 48 rfl (by kernel_rfl)
   have h48:a.tmps[48]?.getD undef=a.tmps.getD 48 undef:=(zae a 48).symm
   obtain⟨r,hr,n1,n2,hk⟩:=r48
   rw[hr]at h48
   exact zal (v:= .agg #[.bool b1,.slice r.A r.n r.c]) rfl rfl (zac rfl) (by go_simp) hC ⟨b1,r,rfl,by rw[n1],by rw[n2];exact HLT.out,hk⟩
  |7,ht=>
   cases ht
   have r49:RepZ (zOf b1 (X/G)) (a.tmps.getD 49 undef) V:=hd 6 49 rfl (by kernel_rfl)
   have h49:a.tmps[49]?.getD undef=a.tmps.getD 49 undef:=(zae a 49).symm
   obtain⟨b2,r,hr,hz,hb,hk⟩:=r49
   rw[hr]at h49
   refine za8 rfl rfl (zac rfl) (zbq ⟨_,rfl⟩ h49 (enters_of Tryz.func108 (by kernel_rfl) rfl)) ((zcR (w:=V) (W:=V) (e:=[r]) (x:=r) b2 (Env.start (by simp[hk])) (by simp)).mono ?_)
   rw[hz]
   rintro e2 V2 ⟨p,rfl,p1,p2,hE2⟩
   exact⟨_,rfl,⟨p,rfl,p1,p2,hE2.2 p (by simp)⟩,hE2.1,hC.trans (hE2.1.mono hC.size)⟩
  |8,ht=>
   cases ht
   have h8:a.tmps[8]?.getD undef= .int .u64 (Y:Nat):=(hF.at_ 8 (by decide)).trans rfl
   exact zal (v:= .int .u64 (Y:Nat)) rfl rfl (zac rfl) (by go_simp) hC rfl
  |9,ht=>
   cases ht
   have h10:a.tmps[10]?.getD undef= .int .u64 (G:Nat):=(hF.at_ 10 (by decide)).trans rfl
   exact zal (v:= .int .u64 (G:Nat)) rfl rfl (zac rfl) (by go_simp) hC rfl
  |10,ht=>
   cases ht
   have h51:a.tmps[51]?.getD undef= .int .u64 (Y:Nat):=(zae a 51).symm.trans (hd 8 51 rfl (by kernel_rfl))
   have h52:a.tmps[52]?.getD undef= .int .u64 (G:Nat):=(zae a 52).symm.trans (hd 9 52 rfl (by kernel_rfl))
   have hq:=HQY.out
   have hg0: ¬G=0:=HG0.out
   exact zal (v:= .int .u64 ((Y/G:Nat):Int)) rfl rfl (zac rfl) (by go_simp) hC rfl
  |11,ht=>
   cases ht
   have h53:a.tmps[53]?.getD undef= .int .u64 ((Y/G:Nat):Int):=(zae a 53).symm.trans (hd 10 53 rfl (by kernel_rfl))
   refine za8 rfl rfl (zac rfl) (zbq ⟨_,rfl⟩ h53 (enters_of Tryz.func111 (by kernel_rfl) rfl)) ((zjN V (Y/G) HBY.out).mono ?_)
   intro e2 V2 hg
   obtain⟨r,rfl,n1,n2,hE2⟩:=zbB (w:=V) (e:=[]) (Env.start (by simp)) hg HLY.out
   exact⟨_,rfl,⟨r,rfl,n1,n2,hE2.2 r (by simp)⟩,hE2.1,hC.trans (hE2.1.mono hC.size)⟩
  |12,ht=>
   cases ht
   have r50:RepT (zOf b1 (X/G)) (a.tmps.getD 50 undef) V:=hd 7 50 rfl (by kernel_rfl)
   have h50:a.tmps[50]?.getD undef=a.tmps.getD 50 undef:=(zae a 50).symm
   have r54:RepN (Y/G) (a.tmps.getD 54 undef) V:=hd 11 54 rfl (by kernel_rfl)
   have h54:a.tmps[54]?.getD undef=a.tmps.getD 54 undef:=(zae a 54).symm
   obtain⟨p,hp,p1,p2,hk⟩:=r50
   obtain⟨k,hkk,k1,k2,hk2⟩:=r54
   rw[hp]at h50
   rw[hkk]at h54
   exact zal (v:= .agg #[.bool (decide (zOf b1 (X/G)<0)),.slice p.A p.n p.c,.slice k.A k.n k.c]) rfl rfl (zac rfl) (by go_simp) hC ⟨p,k,rfl,p1,p2,k1,k2,hk,hk2⟩
  |k+13,ht=>simp at ht
 ·intro a2 V2 hC hF hf
  obtain⟨s8,p48,_⟩:=(hf 5 48 rfl:RepN (X/G) (a2.tmps.getD 48 undef) V2)
  obtain⟨b9,s9,p49,_⟩:=(hf 6 49 rfl:RepZ (zOf b1 (X/G)) (a2.tmps.getD 49 undef) V2)
  obtain⟨s10,p50,_⟩:=(hf 7 50 rfl:RepT (zOf b1 (X/G)) (a2.tmps.getD 50 undef) V2)
  obtain⟨s11,p54,_⟩:=(hf 11 54 rfl:RepN (Y/G) (a2.tmps.getD 54 undef) V2)
  obtain⟨p,k,p55,p1,p2,k1,k2,hk,hk2⟩:=(hf 12 55 rfl:RepQ7 (zOf b1 (X/G)) (Y/G) (a2.tmps.getD 55 undef) V2)
  have hC2:=C8.out.below hC C8.out.lt
  obtain⟨c1,c2,c3,c4,c5,c6⟩:=hC2.cells
  have HF:=zvY ((((HW8.out.step hC).add hk2).add hk).box3 hC2 (by have:=HS.out;omega) (.bool (decide (zOf b1 (X/G)<0))) (.slice p.A p.n p.c) (.slice k.A k.n k.c))
  have HC2:=zvY hC2
  have IQ:=zvY (zk3 (b:=b) (X:=X) (D:=Y) (M:=X/G) (p:=p) (q:=k) H0.out (by rw[HGG.out]) (by rw[HN1.out];exact p1) (by rw[HN1.out];exact p2) (by rw[HGG.out];exact k1) (by rw[k2,k1]))
  rw[HN1.out]at IQ
  have hlit:=zi1 (a:=a2) (.agg #[.bool b,.slice x.A x.n x.c]:: .slice y.A y.n y.c:: .pointer (some ⟨W.heap.size,0,none⟩)::undef:: .pointer (some ⟨W.heap.size+1,0,none⟩):: .int .i64 0:: .int .u64 (X:Nat):: .bool true:: .int .u64 (Y:Nat):: .bool true:: .int .u64 (G:Nat)::undef::undef::undef::undef::undef::undef::undef:: .slice y.A y.n y.c:: .slice r0.A r0.n r0.c:: .int .i64 (r0.n:Nat):: .bool false::undef:: .agg #[.bool b,.slice x.A x.n x.c]:: .agg #[.bool b1,.slice r.A r.n r.c]:: .tuple #[.int .u64 (X:Nat),.bool true]:: .pointer (some ⟨W.heap.size,1,none⟩):: .slice r.A r.n r.c:: .tuple #[.int .u64 (X:Nat),.bool true]:: .int .u64 (X:Nat):: .bool true:: .tuple #[.int .u64 (Y:Nat),.bool true]:: .slice y.A y.n y.c:: .tuple #[.int .u64 (Y:Nat),.bool true]:: .int .u64 (Y:Nat):: .bool true:: .bool true:: .bool true:: .bool true:: .bool true:: .int .u64 (X:Nat):: .int .u64 (Y:Nat):: .int .u64 (G:Nat):: .pointer (some ⟨W.heap.size,0,none⟩):: .bool b1:: .int .u64 (X:Nat):: .int .u64 (G:Nat):: .int .u64 ((X/G:Nat):Int):: .slice s8.A s8.n s8.c:: .agg #[.bool b9,.slice s9.A s9.n s9.c]:: .agg #[.bool (decide (zOf b1 (X/G)<0)),.slice s10.A s10.n s10.c]:: .int .u64 (Y:Nat):: .int .u64 (G:Nat):: .int .u64 ((Y/G:Nat):Int):: .slice s11.A s11.n s11.c:: .agg #[.bool (decide (zOf b1 (X/G)<0)),.slice p.A p.n p.c,.slice k.A k.n k.c]::undef::undef::undef::undef::undef::undef::undef::undef::undef::undef::undef::undef::undef::undef::undef::undef::undef::undef::undef::undef::undef::undef::undef::undef::undef::undef::[]) (by simpa using hF.size) hF.defers (fun i hi=>match i,hi with
   |0,_=>(hF.same 0 (by decide)).trans rfl
   |1,_=>(hF.same 1 (by decide)).trans rfl
   |2,_=>(hF.same 2 (by decide)).trans rfl
   |3,_=>(hF.same 3 (by decide)).trans rfl
   |4,_=>(hF.same 4 (by decide)).trans rfl
   |5,_=>(hF.same 5 (by decide)).trans rfl
   |6,_=>(hF.same 6 (by decide)).trans rfl
   |7,_=>(hF.same 7 (by decide)).trans rfl
   |8,_=>(hF.same 8 (by decide)).trans rfl
   |9,_=>(hF.same 9 (by decide)).trans rfl
   |10,_=>(hF.same 10 (by decide)).trans rfl
   |11,_=>(hF.same 11 (by decide)).trans rfl
   |12,_=>(hF.same 12 (by decide)).trans rfl
   |13,_=>(hF.same 13 (by decide)).trans rfl
   |14,_=>(hF.same 14 (by decide)).trans rfl
   |15,_=>(hF.same 15 (by decide)).trans rfl
   |16,_=>(hF.same 16 (by decide)).trans rfl
   |17,_=>(hF.same 17 (by decide)).trans rfl
   |18,_=>(hF.same 18 (by decide)).trans rfl
   |19,_=>(hF.same 19 (by decide)).trans rfl
   |20,_=>(hF.same 20 (by decide)).trans rfl
   |21,_=>(hF.same 21 (by decide)).trans rfl
   |22,_=>(hF.same 22 (by decide)).trans rfl
   |23,_=>(hF.same 23 (by decide)).trans rfl
   |24,_=>(hF.same 24 (by decide)).trans rfl
   |25,_=>(hF.same 25 (by decide)).trans rfl
   |26,_=>(hF.same 26 (by decide)).trans rfl
   |27,_=>(hF.same 27 (by decide)).trans rfl
   |28,_=>(hF.same 28 (by decide)).trans rfl
   |29,_=>(hF.same 29 (by decide)).trans rfl
   |30,_=>(hF.same 30 (by decide)).trans rfl
   |31,_=>(hF.same 31 (by decide)).trans rfl
   |32,_=>(hF.same 32 (by decide)).trans rfl
   |33,_=>(hF.same 33 (by decide)).trans rfl
   |34,_=>(hF.same 34 (by decide)).trans rfl
   |35,_=>(hF.same 35 (by decide)).trans rfl
   |36,_=>(hF.same 36 (by decide)).trans rfl
   |37,_=>(hF.same 37 (by decide)).trans rfl
   |38,_=>(hF.same 38 (by decide)).trans rfl
   |39,_=>(hF.same 39 (by decide)).trans rfl
   |40,_=>(hF.same 40 (by decide)).trans rfl
   |41,_=>(hF.same 41 (by decide)).trans rfl
   |42,_=>(hF.same 42 (by decide)).trans rfl
   |43,_=>(hf 0 43 rfl:a2.tmps.getD 43 undef=_)
   |44,_=>(hf 1 44 rfl:a2.tmps.getD 44 undef=_)
   |45,_=>(hf 2 45 rfl:a2.tmps.getD 45 undef=_)
   |46,_=>(hf 3 46 rfl:a2.tmps.getD 46 undef=_)
   |47,_=>(hf 4 47 rfl:a2.tmps.getD 47 undef=_)
   |48,_=>p48
   |49,_=>p49
   |50,_=>p50
   |51,_=>(hf 8 51 rfl:a2.tmps.getD 51 undef=_)
   |52,_=>(hf 9 52 rfl:a2.tmps.getD 52 undef=_)
   |53,_=>(hf 10 53 rfl:a2.tmps.getD 53 undef=_)
   |54,_=>p54
   |55,_=>p55
   |56,_=>(hF.same 56 (by decide)).trans rfl
   |57,_=>(hF.same 57 (by decide)).trans rfl
   |58,_=>(hF.same 58 (by decide)).trans rfl
   |59,_=>(hF.same 59 (by decide)).trans rfl
   |60,_=>(hF.same 60 (by decide)).trans rfl
   |61,_=>(hF.same 61 (by decide)).trans rfl
   |62,_=>(hF.same 62 (by decide)).trans rfl
   |63,_=>(hF.same 63 (by decide)).trans rfl
   |64,_=>(hF.same 64 (by decide)).trans rfl
   |65,_=>(hF.same 65 (by decide)).trans rfl
   |66,_=>(hF.same 66 (by decide)).trans rfl
   |67,_=>(hF.same 67 (by decide)).trans rfl
   |68,_=>(hF.same 68 (by decide)).trans rfl
   |69,_=>(hF.same 69 (by decide)).trans rfl
   |70,_=>(hF.same 70 (by decide)).trans rfl
   |71,_=>(hF.same 71 (by decide)).trans rfl
   |72,_=>(hF.same 72 (by decide)).trans rfl
   |73,_=>(hF.same 73 (by decide)).trans rfl
   |74,_=>(hF.same 74 (by decide)).trans rfl
   |75,_=>(hF.same 75 (by decide)).trans rfl
   |76,_=>(hF.same 76 (by decide)).trans rfl
   |77,_=>(hF.same 77 (by decide)).trans rfl
   |78,_=>(hF.same 78 (by decide)).trans rfl
   |79,_=>(hF.same 79 (by decide)).trans rfl
   |80,_=>(hF.same 80 (by decide)).trans rfl
   |81,_=>(hF.same 81 (by decide)).trans rfl
   |_+82,h=>absurd h (by simp only[List.length_cons,List.length_nil];omega))
  subst hlit
  clear hf hF p1 p2 k1 k2 hk hk2 hC2 p48 p49 p50 p54 p55
  show wpList _ _ _ [_,_] _ V2
  go_wp2
  exact bodyPost_ret (zgo (HC2.out.set _ _ _) rfl rfl rfl) rfl ⟨_,p,k,rfl,by rw[HXY.out.1,HXY.out.2];exact IQ.out,HF.out.pick (by intro z hz;simp only[List.mem_cons]at hz ⊢;rcases hz with hz|hz|hz <;> simp[hz])⟩
theorem znb (b:Bool)(h:Env w e W)(hx:x∈e)(hy:y∈e)(bx:x.n<=700)(by':y.n<=700):
  Calls Tryz.prog 87 #[.agg #[.bool b,.slice x.A x.n x.c],.slice y.A y.n y.c] W (zjF w e (qOf b x.N y.N) (if y.N=0 then 30 else 0)):=by
 by_cases h0:y.N=0
 ·rw[if_pos h0];exact zml b h hx hy h0
 ·rw[if_neg h0]
  by_cases hs:x.N<18446744073709551616/\y.N<18446744073709551616
  ·exact zk5 b h hx hy bx by' h0 hs.1 hs.2
  ·exact zk4 b h hx hy bx by' h0 (fun h1 h2=>hs ⟨h1,h2⟩)
theorem zqQ (b:Bool)(h:Env w e W)(hx:x∈e)(hy:y∈e)(bx:x.n<=700)(by':y.n<=700):
  Calls Tryz.prog 69 #[.agg #[.bool b,.slice x.A x.n x.c,.slice y.A y.n y.c]] W (zqK w e (qOf b x.N y.N)):=by
 have HE:=(h.alloc (.cells #[.bool b,.slice x.A x.n x.c,.slice y.A y.n y.c] 27)).alloc (.cells #[.bool false,.slice none 0 0,.slice none 0 0] 27)
 have B1:=zvY ((Box3.new W 27 (.bool b) (.slice x.A x.n x.c) (.slice y.A y.n y.c)).alloc (.cells #[.bool false,.slice none 0 0,.slice none 0 0] 27))
 have B2:=zvY (Box3.new (W.alloc (.cells #[.bool b,.slice x.A x.n x.c,.slice y.A y.n y.c] 27)) 27 (.bool false) (.slice none 0 0) (.slice none 0 0))
 obtain⟨W1,hW1⟩:∃W1,(W.alloc (.cells #[.bool b,.slice x.A x.n x.c,.slice y.A y.n y.c] 27)).alloc (.cells #[.bool false,.slice none 0 0,.slice none 0 0] 27)=W1:=⟨_,rfl⟩
 rw[hW1]at HE B1 B2
 rw[World.size_alloc]at B2
 have EN:=zvY (znb b HE.here hx hy bx by')
 have HS:=zvY (show w.heap.size<=W.heap.size+1 by have:=h.1.size;omega)
 have HB1:=zvY HE.1
 obtain⟨c1,c2,c3,-,-,-⟩:=B1.out.cells
 clear h HE hx hy bx by'
 go_enter Tryz.func69,Tryz.ntmps69
 go_wp2_with fail
 clear hW1
 refine EN.out.mono ?_
 rintro e1 W2 ⟨b2,p,q,rfl,hQ,hE2⟩
 obtain⟨er,hr⟩:∃er:Int,(if y.N=0 then 30 else 0)=er:=⟨_,rfl⟩
 rw[hr]
 have hE3:=hE2.alloc (.cells #[.bool b2,.slice p.A p.n p.c,.slice q.A q.n q.c] 27)
 have C3:=(B2.out.below hE2.1 B2.out.lt).alloc (.cells #[.bool b2,.slice p.A p.n p.c,.slice q.A q.n q.c] 27)
 have D3:=Box3.new W2 27 (.bool b2) (.slice p.A p.n p.c) (.slice q.A q.n q.c)
 obtain⟨W3,hW3⟩:∃W3,W2.alloc (.cells #[.bool b2,.slice p.A p.n p.c,.slice q.A q.n q.c] 27)=W3:=⟨_,rfl⟩
 rw[hW3]at hE3 C3 D3
 have HF:=zvY ((hE3.over HB1.out).box3 C3 HS.out (.bool b2) (.slice p.A p.n p.c) (.slice q.A q.n q.c))
 have HC3:=zvY C3
 have IQ:=zvY hQ
 clear c1 c2 c3 hr hE2 hE3 hQ EN
 obtain⟨c1,c2,c3,c4,c5,c6⟩:=C3.cells
 obtain⟨d1,d2,d3,-,-,-⟩:=D3.cells
 clear C3 D3
 go_wp2
 exact bodyPost_ret (zm8 (HC3.out.set _ _ _) rfl rfl) rfl ⟨_,p,q,rfl,IQ.out,HF.out⟩
theorem zqR (b:Bool)(h:Env w e W)(hx:x∈e)(hy:y∈e):
  Calls Tryz.prog 26 #[.agg #[.bool b,.slice x.A x.n x.c,.slice y.A y.n y.c]] W fun e' W'=>e'= .returned (.int .i64 (qOf b x.N y.N).num.sign)/\Env w e W':=by
 have HE:=h.alloc (.cells #[.bool b,.slice x.A x.n x.c,.slice y.A y.n y.c] 27)
 have B1:=zvY (Box3.new W 27 (.bool b) (.slice x.A x.n x.c) (.slice y.A y.n y.c))
 obtain⟨W1,hW1⟩:∃W1,W.alloc (.cells #[.bool b,.slice x.A x.n x.c,.slice y.A y.n y.c] 27)=W1:=⟨_,rfl⟩
 rw[hW1]at HE B1
 have ET:=zvY (zb1 HE.here hy)
 have HB1:=zvY HE.1
 have HX:=zvY (And.intro hx hy)
 obtain⟨c1,c2,c3,-,-,-⟩:=B1.out.cells
 clear h HE hx hy
 go_enter Tryz.func26,Tryz.ntmps26
 go_wp2_with fail
 clear hW1
 refine ET.out.mono ?_
 rintro e1 W2 ⟨r,rfl,rN,rn,hE2,-⟩
 have hr0:r.n=lenL y.N:=rn
 by_cases h0:y.N=0
 ·rw[h0,zaS]at hr0
  have hz:((r.n:Int)==0)=true:=by rw[hr0];rfl
  have HQ:=zvY (show(qOf b x.N y.N).num.sign=0 by unfold qOf;rw[h0];simp)
  have HF:=zvY ((hE2.over HB1.out).pick (e':=e) (by intro z hz;simp[hz]))
  clear c1 c2 c3 rN rn hr0 h0 hE2 ET
  go_wp2
  go_ret
  exact⟨by rw[HQ.out];rfl,HF.out⟩
 ·have hpos:=zcd h0
  have hz:((r.n:Int)==0)=false:=by rw[beq_eq_false_iff_ne];omega
  have HQ:=zvY (show(zOf b x.N).sign=(qOf b x.N y.N).num.sign by
   obtain⟨a1,a2⟩:=zd1 (z:=zOf b x.N) h0
   rcases Int.lt_trichotomy (zOf b x.N) 0 with hz|hz|hz
   ·have h3:(qOf b x.N y.N).num<0:=by
     have h5:=a2.trans (decide_eq_true hz)
     exact of_decide_eq_true h5
    rw[Int.sign_eq_neg_one_of_neg hz,Int.sign_eq_neg_one_of_neg h3]
   ·unfold qOf;rw[hz];simp
   ·have h3: ¬(qOf b x.N y.N).num<0:=by
     have h5:=a2.trans (decide_eq_false (show¬zOf b x.N<0 by omega))
     exact of_decide_eq_false h5
    have h4:(qOf b x.N y.N).num≠0:=by
     intro h5
     have h6:(qOf b x.N y.N).num.natAbs=0:=by rw[h5];rfl
     have h7:(mkRat (zOf b x.N) y.N).num.natAbs=0:=h6
     rw[a1]at h7
     have h8:Nat.gcd (zOf b x.N).natAbs y.N∣(zOf b x.N).natAbs:=Nat.gcd_dvd_left _ _
     have h9:=Nat.div_mul_cancel h8
     rw[h7]at h9
     omega
    rw[Int.sign_eq_one_of_pos hz,Int.sign_eq_one_of_pos (by omega)])
  have D2:=zvY (B1.out.below hE2.1 B1.out.lt)
  have EG:=zvY (zk9 (b:=b) (Z:=zOf b x.N) (hE2.over HB1.out) (x:=x) (by simp[HX.out.1]) rfl)
  clear c1 c2 c3 rN rn hr0 h0 hE2 ET hpos
  obtain⟨c1,c2,c3,-,-,-⟩:=D2.out.cells
  go_wp2_with fail
  refine EG.out.mono ?_
  rintro e2 W3 ⟨rfl,hE3⟩
  rw[HQ.out]
  have HF:=zvY (hE3.pick (e':=e) (by intro z hz;simp[hz]))
  clear hE3 EG
  go_wp2
  go_ret
  exact⟨rfl,HF.out⟩
end
section
variable {w W:World}{e:List Num}{x y x' y':Num}
theorem zk6 (h:Env w e W)(hx:x∈e)(hy:y∈e)(h1:x.n=y.n)(h2:x.N=y.N):
  Calls Tryz.prog 52 #[.slice x.A x.n x.c,.slice y.A y.n y.c] W fun e' W'=>e'= .returned (.bool true)/\Env w e W':=by
 obtain⟨a1,a2,a3,a4⟩:=h.2 x hx
 obtain⟨b1,b2,b3,b4⟩:=h.2 y hy
 refine(zoL W _ _ _ _ _ _ _ _ _ _ a1 b1 (by omega)).mono ?_
 rintro e' W' ⟨rfl,hb⟩
 exact⟨by rw[show zfN x.n y.n x.N y.N=true by simp[zfN,h1,h2]],h.step hb⟩
theorem zqS (b:Bool)(h:Env w e W)(hx:x∈e)(hy:y∈e)(h1:x.n=y.n)(h2:x.N=y.N):
  Calls Tryz.prog 51 #[.agg #[.bool b,.slice x.A x.n x.c],.agg #[.bool b,.slice y.A y.n y.c]] W fun e' W'=>e'= .returned (.bool true)/\Env w e W':=by
 have HE:=(h.alloc (.cells #[.bool b,.slice x.A x.n x.c] 25)).alloc (.cells #[.bool b,.slice y.A y.n y.c] 25)
 have B1:=(Box2.new W 25 (.bool b) (.slice x.A x.n x.c)).alloc (.cells #[.bool b,.slice y.A y.n y.c] 25)
 have B2:=Box2.new (W.alloc (.cells #[.bool b,.slice x.A x.n x.c] 25)) 25 (.bool b) (.slice y.A y.n y.c)
 rw[World.size_alloc]at B2
 have ES:=zvY (zk6 HE hx hy h1 h2)
 obtain⟨W2,hW2⟩:∃W2,(W.alloc (.cells #[.bool b,.slice x.A x.n x.c] 25)).alloc (.cells #[.bool b,.slice y.A y.n y.c] 25)=W2:=⟨_,rfl⟩
 rw[hW2]at B1 B2 ES
 obtain⟨c1,c2,-,-⟩:=B1.cells
 obtain⟨d1,d2,-,-⟩:=B2.cells
 clear HE B1 B2 h h1 h2
 cases b
 all_goals
  go_enter Tryz.func51,Tryz.ntmps51
  go_wp2_with fail
  refine ES.out.mono ?_
  rintro e' W' ⟨rfl,hE⟩
  go_wp2
  go_ret
  exact⟨rfl,hE⟩
theorem zqT {q:Rat}{b b':Bool}(h:Env w e W)(hx:x∈e)(hy:y∈e)(hx':x'∈e)(hy':y'∈e)(hq:IsQ q b x y)(hq':IsQ q b' x' y'):
  Calls Tryz.prog 14 #[.agg #[.bool b,.slice x.A x.n x.c,.slice y.A y.n y.c],.agg #[.bool b',.slice x'.A x'.n x'.c,.slice y'.A y'.n y'.c]] W fun e' W'=>e'= .returned (.bool true)/\Env w e W':=by
 obtain⟨rfl,s1,s2,s3,s4⟩:=hq.same hq'
 have HE:=(h.alloc (.cells #[.bool b,.slice x.A x.n x.c,.slice y.A y.n y.c] 27)).alloc (.cells #[.bool b,.slice x'.A x'.n x'.c,.slice y'.A y'.n y'.c] 27)
 have B1:=(Box3.new W 27 (.bool b) (.slice x.A x.n x.c) (.slice y.A y.n y.c)).alloc (.cells #[.bool b,.slice x'.A x'.n x'.c,.slice y'.A y'.n y'.c] 27)
 have B2:=Box3.new (W.alloc (.cells #[.bool b,.slice x.A x.n x.c,.slice y.A y.n y.c] 27)) 27 (.bool b) (.slice x'.A x'.n x'.c) (.slice y'.A y'.n y'.c)
 rw[World.size_alloc]at B2
 obtain⟨W2,hW2⟩:∃W2,(W.alloc (.cells #[.bool b,.slice x.A x.n x.c,.slice y.A y.n y.c] 27)).alloc (.cells #[.bool b,.slice x'.A x'.n x'.c,.slice y'.A y'.n y'.c] 27)=W2:=⟨_,rfl⟩
 rw[hW2]at B1 B2 HE
 have ES:=zvY (zqS b HE.here hx hx' s2 s1)
 have P1:=zvY B1
 have P2:=zvY B2
 have HB:=zvY HE.1
 have HS:=zvY (And.intro s3 s4)
 have HM:=zvY (And.intro hy hy')
 obtain⟨c1,c2,c3,-,-,-⟩:=B1.cells
 obtain⟨d1,d2,d3,-,-,-⟩:=B2.cells
 clear HE B1 B2 h s1 s2 s3 s4 hq hq' hx hx' hy hy'
 go_enter Tryz.func14,Tryz.ntmps14
 go_wp2_with fail
 clear hW2
 refine ES.out.mono ?_
 rintro e1 W3 ⟨rfl,hE⟩
 have Q1:=P1.out.below hE.1 P1.out.lt
 have Q2:=P2.out.below hE.1 P2.out.lt
 have ES2:=zvY (zk6 (hE.over HB.out) HM.out.1 HM.out.2 HS.out.2 HS.out.1)
 clear c1 c2 c3 d1 d2 d3 hE ES
 obtain⟨c1,c2,c3,-,-,-⟩:=Q1.cells
 obtain⟨d1,d2,d3,-,-,-⟩:=Q2.cells
 clear Q1 Q2
 go_wp2_with fail
 refine ES2.out.mono ?_
 rintro e2 W4 ⟨rfl,hE2⟩
 go_wp2
 go_ret
 exact⟨rfl,hE2⟩
end
section
variable {v v':Value}{V:World}{K K' N M:Nat}{Z Z':Int}{q q':Rat}{ls:List (Tmp × Value)}{lb:List Bx}{w V':World}{e:List Num}{a:Act}{o:Oper}{t t1 t2 t3:Tmp}{v1 v2 v3:Value}
def erz (N:Nat):Int:=if N=0 then 30 else 0
theorem gq {f:FuncId}{args:Array Value}(h:Calls Tryz.prog f args V (zqK V e q))(h1:q.num.natAbs<Bw^K)(h2:q.den<Bw^K):Calls Tryz.prog f args V (zaf V (QT K q)):=h.mono (by
 rintro en V' ⟨b,x,y,rfl,hq,hE⟩
 exact⟨_,rfl,⟨b,x,y,rfl,hq,by rw[hq.2.2.1,hq.2.1];exact zai.2 h1,by rw[hq.2.2.2.2,hq.2.2.2.1];exact zai.2 h2,hE.2 x (by simp),hE.2 y (by simp)⟩,hE.1⟩)
theorem ztm {z:Int}{d:Nat}(h:z.natAbs<Bw^K)(h':d<Bw^K'):(mkRat z d).num.natAbs<Bw^(max (max K K') 1)/\(mkRat z d).den<Bw^(max (max K K') 1):=by
 have a1:=zf1 (z:=z) (d:=d)
 have a2:=zeK (show K<=max (max K K') 1 by omega)
 have a3:=zeK (show K'<=max (max K K') 1 by omega)
 have a4:=zeK (show 1<=max (max K K') 1 by omega)
 rw[Nat.pow_one]at a4
 have:=za4
 omega
theorem ztn (h:Z1 K Z v V)(h':N1 K' N v' V)(b:K<=700)(b':K'<=700):Calls Tryz.prog 87 #[v,v'] V (zaf V (QE (max (max K K') 1) (mkRat Z N) (erz N))):=by
 have l1:=h.lt
 have l2:=h'.lt
 obtain⟨b,x,rfl,rfl,hk,ho⟩:=h
 obtain⟨y,rfl,rfl,hk',ho'⟩:=h'
 refine(znb b (zmi ho ho') (by simp) (by simp) (by omega) (by omega)).mono ?_
 rintro en V' ⟨b',p,r,rfl,hq,hE⟩
 have hl:=ztm l1 l2
 refine⟨_,rfl,⟨b',p,r,rfl,hq,?_,?_,hE.2 p (by simp),hE.2 r (by simp)⟩,hE.1⟩
 ·rw[hq.2.2.1,hq.2.1];exact zai.2 hl.1
 ·rw[hq.2.2.2.2,hq.2.2.2.1];exact zai.2 hl.2
theorem Q1.lt1 (h:Q1 K q v V):q.num.natAbs<Bw^(max K 1)/\q.den<Bw^(max K 1):=by
 obtain⟨b,x,y,h1,rfl,h3,h4,h5,h6⟩:=h
 have a1:=zaz h5.1.1 h3
 have a2:=zaz h6.1.1 h4
 have:=ztm (z:=zOf b x.N) (d:=y.N) (by rw[zbu];exact a1) a2
 rw[show max (max K K) 1=max K 1 by omega]at this
 exact this
theorem zgu (h:Q1 K q v V)(b:K<=700:=by omega):Calls Tryz.prog 69 #[v] V (zaf V (QT (max K 1) q)):=by
 have hl:=h.lt1
 obtain⟨b,x,y,rfl,rfl,k1,k2,o1,o2⟩:=h
 exact gq (zqQ b (zmi o1 o2) (by simp) (by simp) (by omega) (by omega)) hl.1 hl.2
theorem zhO (h:Q1 K q v V):Calls Tryz.prog 26 #[v] V (zaf V fun v _=>v= .int .i64 (zan q 0)):=by
 obtain⟨b,x,y,rfl,rfl,k1,k2,o1,o2⟩:=h
 rw[<-zqI]
 exact gv (zqR b (zmi o1 o2) (by simp) (by simp))
theorem zsr {x:Num}(h:NT K N (.slice x.A x.n x.c) V):ZT K (N:Int) (.agg #[.bool false,.slice x.A x.n x.c]) V:=by
 obtain⟨y,h1,h2,h3,h4,h5⟩:=h
 injection h1 with e1 e2 e3
 exact⟨false,y,by rw[e1,e2,e3],⟨by simp,by simp[h2],by rw[Int.natAbs_natCast];exact h3⟩,h4,h5⟩
end
section
variable {v v':Value}{V:World}{K K' N M:Nat}{q q':Rat}
theorem zt9 (q1 q2:Rat):mkRat (q1.num*(q2.den:Int)+q2.num*(q1.den:Int)) (q1.den*q2.den)=q1+q2:=(Rat.add_def' q1 q2).symm
theorem zss {b:Bool}{x y:Num}(h:b=decide (-q.num<0)/\x.N=(-q.num).natAbs/\x.n=lenL (-q.num).natAbs)(h1:y.N=q.den)(h2:y.n=lenL q.den):IsQ (-q) b x y:=by
 refine⟨?_,?_,?_,?_,?_⟩
 ·exact h.1
 ·exact h.2.1
 ·rw[h.2.1];exact h.2.2
 ·exact h1
 ·rw[h1];exact h2
theorem zjI {K N:Nat}{v1:Value}{V:World}(h1:NT K (N) v1 V):
  Calls Tryz.prog 72 #[v1] V (zaf V (ZT K (N:Int))):=by
 obtain⟨x1,rfl,hN1,hn1,hk1,ok1⟩:=h1
 refine fb Tryz.func72 Tryz.ntmps72 (zaa ok1 zau) (fun a S=>?_)
 refine wsp fun K1 hK1=>?_
 refine ti S (cs:=[.bool false,.slice none 0 0]) (zam rfl (Tryz.zeroValue25 _) rfl) (fun g1=>[⟨g1,25,[.bool false,.slice none 0 0]⟩]) fun g1 a V1 hgg1 S=>?_
 refine hK1 _ _ ?_
 refine wsp fun K2 hK2=>?_
 refine mv S 1 fun a S=>?_
 refine tv S (zcG rfl (S.at 0 rfl) (zsn _ _ _)) fun a S=>?_
 refine sto S 0 (fun ht=>zaj rfl (S.at 2 rfl) (S.at 0 rfl) zca rfl (zvZ rfl) ht) fun V2 S=>?_
 refine hK2 _ _ ?_
 refine wp_ret ?_
 exact zar rfl S (S.at 2 rfl) (i:=0) rfl Tryz.underlying25 rfl zca ⟨_,rfl,zsr (show NT K (N) (aS x1) _ from⟨x1,rfl,hN1,hn1,hk1,(S.num 0 rfl)⟩),S.below⟩
theorem zvk {q:Rat}{v1:Value}{V:World}(h1:Q1 700 (q) v1 V):
  Calls Tryz.prog 89 #[v1] V (zaf V (QT 700 (-q))):=by
 obtain⟨b1,x1,y1,rfl,hq1,hk1,hk2,ok1,ok2⟩:=h1
 refine fb Tryz.func89 Tryz.ntmps89 (zaa ok1 (zaa ok2 zau)) (fun a S=>?_)
 refine wsp fun K1 hK1=>?_
 refine tb S 0 (aL b1 x1 y1) fun g1 a V1 hgg1 S=>?_
 refine ti S (cs:=lZ) (zam rfl (Tryz.zeroValue27 _) rfl) (fun g2=>[⟨g1,27,(aL b1 x1 y1)⟩,⟨g2,27,lZ⟩]) fun g2 a V2 hgg2 S=>?_
 refine hK1 _ _ ?_
 refine wsp fun K2 hK2=>?_
 refine tv S (zad rfl (S.at 1 rfl) (S.bx 0 rfl) Tryz.underlying27 rfl (vs:=(aL b1 x1 y1)) zah rfl) fun a S=>?_
 refine tc S (F:=QT 700 (q)) (rc1 Tryz.func69 (S.at 0 rfl)) (zgu (q2m S 0 hq1 hk1 hk2)) fun v a V3 hF hb S=>?_
 obtain⟨b2,x2,y2,rfl,hq2,hk3,hk4,ok3,ok4⟩:=hF
 have S:=S.know ok3
 have S:=S.know ok4
 refine sto S 0 (fun ht=>zaj rfl (S.at 3 rfl) (S.at 0 rfl) zah rfl (zvZ rfl) ht) fun V4 S=>?_
 refine hK2 _ _ ?_
 refine wp_seq_k fun K3 hK3=>?_
 obtain⟨W1,hW1⟩:∃W,W=V4:=⟨_,rfl⟩
 rw[<-hW1]at S ⊢
 have S0:=S
 refine fr 6 [5,6,7,8,9,10] [IsV (pT g1 0),IsV ((aZ b2 x2)),ZT 700 (-((q).num)),IsV (pT g1 2),IsV (aS y2),QP 700 (-((q).num)) ((q).den)] S ?_ ?_
 ·refine sc (fun _ _ S _ _=>sv rfl (zab rfl (S.at 3 rfl) (zbD _))) ?_
  refine sc (fun _ _ S _ hd=>sv rfl (zad rfl (hd.v 0 rfl rfl) (S.bx 0 rfl) Tryz.underlying25 rfl (vs:=[.bool b2,aS x2]) zca rfl)) ?_
  refine sc (fun _ _ S _ hd=>sl rfl (rc1 Tryz.func110 (hd.v 1 rfl rfl)) (zvm (show ZT 700 ((q).num) ((aZ b2 x2)) _ from⟨b2,x2,rfl,(show b2=decide ((q).num<0)/\x2.N=(q).num.natAbs/\x2.n=lenL (q).num.natAbs from⟨hq2.1,hq2.2.1,by rw[<-hq2.2.1];exact hq2.2.2.1⟩),hk3,(S.num 1 rfl)⟩).any)) ?_
  refine sc (fun _ _ S _ _=>sv rfl (zab rfl (S.at 3 rfl) (zbc _))) ?_
  refine sc (fun _ _ S _ hd=>sv rfl (zap rfl (hd.v 3 rfl rfl) (S.bx 0 rfl) (Tryz.isAgg23 _) rfl)) ?_
  refine sc (fun _ _ S _ hd=>by
   obtain⟨v,hv,hq⟩:=zqO (T:=27) (K3:=700) (by decide) (hd.r 2 rfl rfl) (show NT 700 ((q).den) (aS y2) _ from⟨y2,rfl,hq2.2.2.2.1,(by rw[<-hq2.2.2.2.1];exact hq2.2.2.2.2),hk4,(S.num 0 rfl)⟩) (by omega) (by omega)
   exact sv rfl (zaU rfl rfl (hd.v 4 rfl rfl) hv) hq) ?_
  exact sn
 ·intro a1 V5 S hB hf
  obtain⟨b3,x3,y3,hv1,hq3,hk5,hk6,ok5,ok6⟩:=hf.r 5 rfl rfl
  have S:=S.add hv1
  have S:=S.know ok5
  have S:=S.know ok6
  clear hf S0
  show wpList _ _ _ [_] _ _
  refine sto S 1 (fun ht=>zaj rfl (S.at 3 rfl) (S.at 0 rfl) zah rfl (zvZ rfl) ht) fun V6 S=>?_
  refine hK3 _ _ ?_
  refine wp_ret ?_
  exact zar rfl S (S.at 3 rfl) (i:=1) rfl Tryz.underlying27 rfl zah ⟨_,rfl,⟨b3,x3,y3,rfl,zss hq3.1 hq3.2.1 hq3.2.2,hk5,hk6,(S.num 1 rfl),(S.num 0 rfl)⟩,S.below⟩
end
def erq (q:Rat):Int:=if q=0 then 30 else 0
open Classical in
noncomputable def zvS (lo hi:Rat)(s:Nat):Bool:=decide (room lo hi s)
def Sm (k:Nat)(q:Rat):Prop:=q.num.natAbs<Bw^k/\q.den<Bw^k
theorem zoI {l:List Rat}{k:Nat}(h:k<l.length):zdw (l.take (k+1))=zdw (l.take k)+l[k]:=by
 rw[List.take_succ_eq_append_getElem h,zoC]
theorem zmm {l:List Rat}{k:Nat}(h:k<l.length):zbb (l.take (k+1))=zbb (l.take k)*l[k]:=by
 rw[List.take_succ_eq_append_getElem h,zmg]
theorem zst (k:Nat):Bw^k=2^(32*k):=by rw[show Bw=2^32 by rw[za4],<-Nat.pow_mul]
open Classical in
open Classical in
open Classical in
noncomputable def zvW (lo hi:Rat):Rat:=if h:lo<hi then btw lo hi (Classical.choose (zmf h))else 0
theorem zg7 {a b:Rat}:decide (0<=zan a b)=true↔ ¬a<b:=by
 rw[decide_eq_true_iff]
 constructor
 ·intro h h2;rw[zcO h2]at h;exact absurd h (by decide)
 ·intro h;unfold zan;rw[if_neg h];split <;> decide
section
variable {v v' v1 v2:Value}{V:World}{K K' N M:Nat}{q q' q1 q2:Rat}
theorem Q1.sm (h:Q1 K q v V):Sm (max K 1) q:=h.lt1
theorem QT.sm (h:QT K q v V):Sm K q:=h.lt
theorem QT.sml (h:QT K q v V)(hs:Sm K' q):QT K' q v V:=h.lim hs.1 hs.2
theorem Sm.mono (h:Sm K q)(hk:K<=K'):Sm K' q:=⟨zv3 h.1 (zeK hk),zv3 h.2 (zeK hk)⟩
theorem Sm.neg (h:Sm K q):Sm K (-q):=⟨by rw[show(-q).num= -q.num from rfl,Int.natAbs_neg];exact h.1,h.2⟩
theorem Sm.add (h:Sm K q1)(h':Sm K' q2):Sm (K+K'+1) (q1+q2):=by
 have:=zjD q1 q2
 have e1:=Nat.mul_lt_mul'' h.1 h'.2
 have e2:=Nat.mul_lt_mul'' h'.1 h.2
 have e3:=Nat.mul_lt_mul'' h.2 h'.2
 rw[Nat.mul_comm (Bw^K') (Bw^K),<-Nat.pow_add]at e2
 rw[<-Nat.pow_add]at e1 e3
 refine⟨zv4 this.1 (zg8 e1 e2),zv4 this.2 (zv3 e3 (zeK (by omega)))⟩
theorem Sm.mul (h:Sm K q1)(h':Sm K' q2):Sm (K+K') (q1*q2):=by
 have:=zjE q1 q2
 have e1:=Nat.mul_lt_mul'' h.1 h'.1
 have e3:=Nat.mul_lt_mul'' h.2 h'.2
 rw[<-Nat.pow_add]at e1 e3
 exact⟨zv4 this.1 e1,zv4 this.2 e3⟩
theorem zvl (h:Q1 K q v V)(b:K<=700):Calls Tryz.prog 89 #[v] V (zaf V (QT (max K 1) (-q))):=
 zdd (zvk (h.to rfl b)) (fun _ _ h2=>h2.sml h.sm.neg)
theorem zmn {n:Int}(hn: -9223372036854775808<=n/\n<=9223372036854775807):Calls Tryz.prog 28 #[.int .i64 n] V (zaf V (QT 2 (n:Rat))):=by
 refine gq (zqP (e:=[]) (Env.start (by simp)) hn) ?_ ?_
 ·rw[show Bw^2=18446744073709551616 by rw[za4]]
  show(n:Rat).num.natAbs<_
  rw[Rat.num_intCast]
  omega
 ·rw[show Bw^2=18446744073709551616 by rw[za4],Rat.den_intCast];omega
theorem zb0 {b:Bool}{x y:Num}(h:IsQ q b x y)(hs:Sm K q):x.n<=K/\y.n<=K:=
 ⟨by rw[h.2.2.1,h.2.1];exact zai.2 hs.1,by rw[h.2.2.2.2,h.2.2.2.1];exact zai.2 hs.2⟩
theorem zua (q1 q2:Rat):mkRat (q1.num*q2.num) (q1.den*q2.den)=q1*q2:=(Rat.mul_def' q1 q2).symm
theorem zub {ps:List (Bool×Num×Num)}{k:Nat}(h:k<ps.length):zdw ((ps.map qP).take k)+qP ps[k]=zdw ((ps.map qP).take (k+1)):=by
 rw[zoI (by simpa using h)];simp
theorem zsu {ps:List (Bool×Num×Num)}{k:Nat}(h:k<ps.length):zbb ((ps.map qP).take k)*qP ps[k]=zbb ((ps.map qP).take (k+1)):=by
 rw[zmm (by simpa using h)];simp
theorem zsv {ps:List (Bool×Num×Num)}{k:Nat}(h:ps.length<=k):zdw ((ps.map qP).take k)=zdw (ps.map qP):=by rw[List.take_of_length_le (by simpa using h)]
theorem zqU {ps:List (Bool×Num×Num)}{k:Nat}(h:ps.length<=k):zbb ((ps.map qP).take k)=zbb (ps.map qP):=by rw[List.take_of_length_le (by simpa using h)]
theorem QRow.el (h:QRow K [q1,q2] v V):Sm (max K 1) q1/\Sm (max K 1) q2:=by
 obtain⟨A,c,ps,rfl,hR,hm,hb,-⟩:=h
 rcases ps with _|⟨p,_|⟨p',_|⟨p'',ps⟩⟩⟩
 ·simp at hm
 ·simp at hm
 ·simp only[List.map_cons,List.map_nil,List.cons.injEq,and_true]at hm
  obtain⟨rfl,rfl⟩:=hm
  have e1:=(hR 0 (by simp)).2
  have e2:=(hR 1 (by simp)).2
  have b1:=hb p (by simp)
  have b2:=hb p' (by simp)
  exact⟨(show Q1 K _ (.agg #[.bool p.1,.slice p.2.1.A p.2.1.n p.2.1.c,.slice p.2.2.A p.2.2.n p.2.2.c]) V from⟨p.1,p.2.1,p.2.2,rfl,rfl,b1.1,b1.2,e1.1,e1.2⟩).sm,(show Q1 K _ (.agg #[.bool p'.1,.slice p'.2.1.A p'.2.1.n p'.2.1.c,.slice p'.2.2.A p'.2.2.n p'.2.2.c]) V from⟨p'.1,p'.2.1,p'.2.2,rfl,rfl,b2.1,b2.2,e2.1,e2.2⟩).sm⟩
 ·simp at hm
theorem QRow.to {l:List Rat}(h:QRow K l v V)(hk:K<=K'):QRow K' l v V:=by
 obtain⟨A,c,ps,h1,h2,h3,h4,h5⟩:=h
 exact⟨A,c,ps,h1,h2,h3,fun p hp=>⟨zv2 (h4 p hp).1 hk,zv2 (h4 p hp).2 hk⟩,h5⟩
theorem znc:Sm 1 0:=⟨by show(0:Nat)<_;rw[za4];decide,by show(1:Nat)<_;rw[za4];decide⟩
theorem zuc:Sm 1 1:=⟨by show(1:Nat)<_;rw[za4];decide,by show(1:Nat)<_;rw[za4];decide⟩
end
end Go.Proofs.YtipckjmgdghkiaaGreatDoor
