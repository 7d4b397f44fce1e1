/- Contract of the reference's Sub of layer 1. -/
import Derived.Test.YtipckjmgdghkiaaGreatDoorGRefA
set_option maxHeartbeats 4000000
set_option maxRecDepth 100000
namespace Go.Proofs.YtipckjmgdghkiaaGreatDoor
open Go Go.RowKit
theorem zjL (w:World)(A A':Option Addr)(n n' c c' N M:Nat)(h:Rd w w.heap.size A n N)(h':Rd w w.heap.size A' n' M)(hn:n<=35184372087808)(hn':n'<=35184372087808)(hlt:N<M):
  Calls Tryz.prog 166 #[.slice A n c,.slice A' n' c'] w fun e w'=>e= .returned (.tuple #[.slice none 0 0,.int .i64 10])/\w=w':=by
 have hC:=zhP w _ _ A A' n n' c c' N M h h' (by omega) (by omega)
 rw[zfO hlt]at hC
 have HC:=zvY hC
 clear hC
 go_enter Tryz.func166,Tryz.ntmps166
 go_wp2_with (go_at_call 165;refine HC.out.mono ?_;rintro e w' ⟨rfl,rfl⟩)
 go_ret2
 exact⟨rfl,rfl⟩
theorem zq0 (w:World)(A A':Option Addr)(n n' c c' N M:Nat)(h:Rd w w.heap.size A n N)(h':Rd w w.heap.size A' n' M)(hn:n<=100000)(hn':n'<=100000)(hle:M<=N):
  Calls Tryz.prog 166 #[.slice A n c,.slice A' n' c'] w (zpS w (N - M)):=by
 have hC:=zhP w _ _ A A' n n' c c' N M h h' (by omega) (by omega)
 have hcn:0<=zcj N M:=by unfold zcj;rw[if_neg (by omega)];split <;> omega
 obtain⟨r,hr⟩:∃r,zcj N M=r:=⟨_,rfl⟩
 rw[hr]at hC hcn
 have HC:=zvY hC
 obtain⟨D,hD⟩:∃D,N - M=D:=⟨_,rfl⟩
 have HE:=zvY (show N=D+M by omega)
 have HX:=zvY h.1
 obtain⟨i0,hi,hz0,hz1,hz2⟩:=info_parts zbJ
 rw[hD]
 clear hC hr hD hle
 go_enter Tryz.func166,Tryz.ntmps166
 go_wp2_with (go_at_call 165;refine HC.out.mono ?_;rintro e w1 ⟨rfl,rfl⟩)
 go_loopw [6,7,8] (fun ov cy i wr=>∃k:Nat,k<=n/\i= .int .i64 k/\cy= .int .u64 (car D M k:Nat)/\wr.ownsRow w.heap.size 92 1 ov k (limbs D k)/\Below w.heap.size w wr) (fun _ _ i _=>n - (intOf i).toNat)
 case atStart=>exact⟨0,Nat.zero_le _,rfl,by rw[zfG];rfl,World.ownsRow_nil _ _ _ _,Below.refl _ _⟩
 case round=>
  rename_i ov
  obtain⟨k,hk,rfl,rfl,hown,hB⟩:=hrel
  have hsz:=hB.size
  have hcl:=zgb D M k
  by_cases hlt:k<n
  ·have E1:=zvY (zcH wr w.heap.size A n c N (h.below hB) k)
   have E2:=zvY (zcH wr w.heap.size A' n' c' M (h'.below hB) k)
   have h1:=zav N k
   have h2:=zav M k
   have hdc:=zgY D M k
   rw[<-HE.out]at hdc
   have h3:=zav D k
   have hcl':=zgb D M (k+1)
   have HV1:=zvY (show Value.int .u32 (((dig N k:Int)+4294967296 - (dig M k:Int) - (car D M k:Int))%4294967296)= .int .u32 (dig D k:Nat) by congr 1;omega)
   have HV2:=zvY (show 1 - ((dig N k:Int)+4294967296 - (dig M k:Int) - (car D M k:Int))/4294967296=(car D M (k+1):Nat) by omega)
   have HO:=zvY hown
   clear hdc h3 hown hcl'
   go_wp2_with (first
    |(go_at_call 206;(with_reducible refine E1.out.mono ?_);rintro e w' ⟨rfl,rfl⟩)
    |(go_at_call 206;(with_reducible refine E2.out.mono ?_);rintro e w' ⟨rfl,rfl⟩)
    |(at_builtin;refine zaC _ rfl (.tmp 30) (.tmp 33) _ rfl w.heap.size 92 i0 (.int .u32 0) 4 Tryz.underlying23 hi hz0 hz1 hz2 rfl _ k (limbs D k) rfl (HO.out.alloc _) (some ⟨wr.heap.size,0,none⟩) 1 1 [.int .u32 (((dig N k:Int)+4294967296 - (dig M k:Int) - (car D M k:Int))%4294967296)] rfl rfl (zcK _ _ _) (zbU _) (by simp only[maxLen];omega) (by omega) (by simp;omega) ?_;intro v' w1 hown' hg' _;have HS:=zvY (zcL hB HO.out HV1.out hown' hg');clear hown' hg'))
   go_roundw
   case rel=>exact⟨k+1,by omega,by go_num,by rw[HV2.out],HS.out.1,HS.out.2⟩
   case measure=>simp[intOf];omega
  ·obtain rfl:k=n:=by omega
   have HD:=zvY (show D<Bw^k by have:=HX.out;have:=HE.out;omega)
   have HO:=zvY hown
   clear hown
   go_wp2_with fail
   refine(zc5 hB HO.out HD.out).mono ?_
   intro e w2 hgv
   obtain⟨A2,c2,rfl,g1,g2,g3,g4⟩:=hgv
   go_wp2
   go_ret2
   exact⟨A2,c2,rfl,g1,g2,g3,g4⟩
theorem zgv {w W:World}{e:List Num}{x y:Num}(h:Env w e W)(hx:x∈e)(hy:y∈e)(bx:x.n<=100000)(by':y.n<=100000)(hle:y.N<=x.N):
  Calls Tryz.prog 166 #[.slice x.A x.n x.c,.slice y.A y.n y.c] W (zh5 w e W.heap.size (x.N - y.N) (fun r=> .tuple #[.slice r.A r.n r.c,.int .i64 0])):=by
 have hlen:=zv2 (zaG (Nat.sub_le x.N y.N)) (zai.2 (h.2 x hx).1.1)
 refine(zq0 W _ _ _ _ _ _ _ _ (h.2 x hx).1 (h.2 y hy).1 bx by' hle).mono fun e W' hg=>?_
 obtain⟨A,c,he,hc,hm,hF,hb⟩:=hg
 exact⟨⟨A,lenL (x.N - y.N),c,x.N - y.N⟩,he,rfl,rfl,(h.step hb).add (hF.ok hc hm (by omega)),hF⟩
theorem zq1 {w wr:World}{n c O:Nat}(hB:Below w.heap.size w wr)(hsz:w.heap.size<wr.heap.size)(hb:Buf wr w.heap.size n O)(hO:O<Bw^n)(hn:n<=c)(hc:c<=maxLen)(hn':n<=35184372087808):
  Calls Tryz.prog 67 #[.slice (some ⟨w.heap.size,0,none⟩) n c] wr (Gives w O):=
 (zbs wr _ n c O (hb.rd hO (fun _=>hsz)) hn hc hn').mono fun _ _ hg=>hg.later hB
theorem zq2 (w:World)(A A':Option Addr)(n n' c c' N M:Nat)(h:Rd w w.heap.size A n N)(h':Rd w w.heap.size A' n' M)(hn:n<=1000000)(hn':n'<=1000000):
  Calls Tryz.prog 88 #[.slice A n c,.slice A' n' c'] w (Gives w (N*M)):=by
 obtain⟨w1,hmk,hF1,hb1,hs1⟩:=zb6 w (n+n') (by omega)
 rw[show(((n+n':Nat)):Int)=(n:Int)+(n':Int)from by omega]at hmk
 have HB:=zvY (Buf.of_fr hF1)
 have HS1:=zvY hs1
 have HX:=zvY h.1
 have HY:=zvY h'.1
 clear hF1 hs1
 go_enter Tryz.func88,Tryz.ntmps88
 go_wp2
 clear hmk
 go_loopw [6] (fun i wr=>∃k:Nat,k<=n/\i= .int .i64 k/\Below w.heap.size w wr/\w.heap.size<wr.heap.size/\Hid (∃O,Buf wr w.heap.size (n+n') O/\O<Bw^(k+n')/\O=N%Bw^k*M)) (fun i _=>n - (intOf i).toNat)
 case atStart=>exact⟨0,Nat.zero_le _,rfl,hb1,by have:=HS1.out;omega,zvY ⟨0,HB.out,zag _,by simp[Nat.mod_one]⟩⟩
 case round=>
  obtain⟨k,hk,rfl,hB,hsz,hO⟩:=hrel
  by_cases hlt:k<n
  ·obtain⟨ad,rfl,hadb,hcw⟩:=h.at_ hlt
   go_wp2
   go_loopw [7,8] (fun ov kk wi=>∃j v:Nat,j<=n'/\kk= .int .i64 j/\ov= .int .u64 v/\v<4294967296/\Below w.heap.size w wi/\w.heap.size<wi.heap.size/\Hid (∃O,Buf wi w.heap.size (n+n') O/\O<Bw^(k+n')/\O+v*Bw^(k+j)=N%Bw^k*M+dig N k*Bw^k*(M%Bw^j))) (fun _ kk _=>n' - (intOf kk).toNat)
   case atStart=>
    obtain⟨O,o1,o2,o3⟩:=hO.out
    exact⟨0,0,Nat.zero_le _,rfl,rfl,by omega,hB,hsz,zvY ⟨O,o1,o2,by rw[o3];simp[Nat.mod_one]⟩⟩
   case round=>
    obtain⟨j,v,hj,rfl,rfl,hv,hBi,hszi,hOi⟩:=hrel
    obtain⟨O,o1,o2,o3⟩:=hOi.out
    by_cases hjt:j<n'
    ·obtain⟨ad',rfl,hadb',hcw'⟩:=h'.at_ hjt
     obtain⟨p,hp⟩:∃p,p=k+j:=⟨_,rfl⟩
     have hidx:(k:Int)+(j:Int)=(p:Int):=by omega
     have hpl:p<n+n':=by omega
     have hc1:=(hBi.cell (p:=ad.add k) (by rw[zaM];exact hadb)).trans hcw
     have hc2:=(hBi.cell (p:=ad'.add j) (by rw[zaM];exact hadb')).trans hcw'
     obtain⟨hc3,hc4⟩:=o1 p hpl
     have d1:=zav N k
     have d2:=zav M j
     have d3:=zav O p
     have dm:dig N k*dig M j<=4294967295*4294967295:=Nat.mul_le_mul (by omega) (by omega)
     obtain⟨x,hx⟩:∃x,x=dig N k*dig M j+dig O p+v:=⟨_,rfl⟩
     have hxi:((dig N k:Int)*(dig M j:Int)+(dig O p:Int)+(v:Int))=(x:Int):=by rw[hx];simp
     have hxb:x<18446744073709551616:=by omega
     have hm0:0<=(dig N k:Int)*(dig M j:Int):=by rw[<-Int.natCast_mul];omega
     have hm1:(dig N k:Int)*(dig M j:Int)<=18446744065119617025:=by rw[<-Int.natCast_mul];omega
     have hv':x/4294967296<4294967296:=by omega
     have HP:=zvY hp
     have HX0:=zvY hx
     have HXI:=zvY hxi
     have O1:=zvY o1
     have O2:=zvY o2
     have O3:=zvY o3
     clear hp hx hxi dm o1 o2 o3 hcw hcw'
     go_wp2
     go_quiet (fail)
     obtain⟨O',b1,b2,b3⟩:=(O1.out.drew nq).set (p:=p) (x:=x%4294967296) O2.out (by have:=HP.out;omega) (Nat.mod_lt _ (by omega))
     have HV1:=zvY (show Value.int .u32 (((dig N k:Int)*(dig M j:Int)+(dig O p:Int)+(v:Int))%4294967296)= .int .u32 (x%4294967296:Nat) by rw[HXI.out];rfl)
     have HV2:=zvY (show Value.int .u64 (((dig N k:Int)*(dig M j:Int)+(dig O p:Int)+(v:Int))/4294967296)= .int .u64 (x/4294967296:Nat) by rw[HXI.out];rfl)
     have HN:=zvY (zfP HX0.out b3 HP.out (by rw[HP.out];exact O3.out))
     rw[<-HV1.out]at b1
     have HB1:=zvY b1
     have HB2:=zvY b2
     have HBn:=zvY ((zdF hBi nq).setCell (p:=⟨w.heap.size,p,none⟩) zv0 (.int .u32 (((dig N k:Int)*(dig M j:Int)+(dig O p:Int)+(v:Int))%4294967296)))
     clear b1 b2 b3
     go_wp2
     go_roundw
     case rel=>exact⟨j+1,x/4294967296,by omega,by go_num,HV2.out,hv',HBn.out,by simp;omega,zvY ⟨O',HB1.out,HB2.out,by have:=HN.out;rwa [HP.out]at this⟩⟩
     case measure=>simp[intOf];omega
    ·obtain rfl:j=n':=by omega
     obtain⟨p,hp⟩:∃p,p=k+j:=⟨_,rfl⟩
     have hidx:(k:Int)+(j:Int)=(p:Int):=by omega
     have hpl:p<n+j:=by omega
     obtain⟨hc3,hc4⟩:=o1 p hpl
     obtain⟨O',b1,b2,b3⟩:=o1.set (m:=k+1+j) (p:=p) (x:=v) (zaz o2 (by omega)) (by omega) hv
     have HV1:=zvY (show Value.int .u32 ((v:Int)%4294967296)= .int .u32 (v:Nat) by congr 1;omega)
     have HN:=zvY (zrS b3 (by rw[hp];exact o2) HY.out (by rw[hp];exact o3))
     have HB1:=zvY b1
     have HB2:=zvY b2
     have hBn:=hBi.setCell (p:=⟨w.heap.size,p,none⟩) zv0 (.int .u32 (v:Nat))
     have HBn:=zvY hBn
     clear hp b1 b2 b3 o1 o2 o3 hBn hcw
     go_wp2
     go_roundw
     case rel=>exact⟨k+1,by omega,by go_num,HBn.out,by simp;omega,zvY ⟨O',HB1.out,HB2.out,HN.out⟩⟩
     case measure=>simp[intOf];omega
  ·obtain rfl:k=n:=by omega
   obtain⟨O,hb,hlO,hOe⟩:=hO.out
   rw[zbV HX.out]at hOe
   have E:=zvY (zq1 (c:=k+n') hB hsz hb hlO zv0 (by simp only[maxLen];omega) (by omega))
   rw[hOe]at E
   clear hb hlO hOe
   go_wp2_with fail
   refine E.out.mono ?_
   rintro e w2 ⟨A2,c2,rfl,g1,g2,g3,g4⟩
   go_wp2
   go_ret
   exact⟨A2,c2,rfl,g1,g2,g3,g4⟩
section
variable {w W:World}{e:List Num}{x y:Num}
theorem zq3 (h:Env w e W)(hx:x∈e)(hy:y∈e)(bx:x.n<=100000)(by':y.n<=100000):
  Calls Tryz.prog 88 #[.slice x.A x.n x.c,.slice y.A y.n y.c] W (zh5 w e W.heap.size (x.N*y.N) (fun r=> .slice r.A r.n r.c)):=
 (zq2 W _ _ _ _ _ _ _ _ (h.2 x hx).1 (h.2 y hy).1 (by omega) (by omega)).mono fun _ _ hg=>zbh h hg (zv2 (zrU (h.2 x hx).1.1 (h.2 y hy).1.1) (by omega))
end
end Go.Proofs.YtipckjmgdghkiaaGreatDoor
