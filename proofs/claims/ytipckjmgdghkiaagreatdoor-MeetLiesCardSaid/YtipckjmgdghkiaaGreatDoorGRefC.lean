/- Contract of the reference's count of layer 2. -/
import Derived.Test.YtipckjmgdghkiaaGreatDoorGRefA
set_option maxHeartbeats 2000000
set_option maxRecDepth 100000
namespace Go.Proofs.YtipckjmgdghkiaaGreatDoor
open Go Go.RowKit
theorem ziO (w:World)(k:Int)(m:Nat)(hk: -9223372036854775808<=k/\k<=9223372036854775807)(hm:m<=1000000):
  Calls Tryz.prog 205 #[.int .i64 k,.int .i64 m] w fun e w'=>e= .returned (.int .i64 (min k.toNat m:Nat))/\w=w':=by
 by_cases h0:k<0
 ·have HV:=zvY (show min k.toNat m=0 by omega)
  go_enter Tryz.func205,Tryz.ntmps205
  go_wp2
  go_ret
  exact⟨by rw[HV.out];first|rfl|(refine zde ?_;omega),rfl⟩
 ·obtain⟨K,rfl⟩:=Int.eq_ofNat_of_zero_le (show 0<=k by omega)
  by_cases h1:K<=m
  ·go_enter Tryz.func205,Tryz.ntmps205
   go_wp2
   go_ret
   exact⟨by refine zde ?_;omega,rfl⟩
  ·go_enter Tryz.func205,Tryz.ntmps205
   go_wp2
   go_ret
   exact⟨by refine zde ?_;omega,rfl⟩
theorem zsy (w:World)(A:Option Addr)(n c N:Nat)(k:Int)(h:Rd w w.heap.size A n N)(hn:n<=1000000)(hk: -9223372036854775808<=k/\k<=9223372036854775807):
  Calls Tryz.prog 167 #[.slice A n c,.int .i64 k] w (Gives w (N*2^min k.toNat 65536)):=by
 have HC:=zvY (fun W=>ziO W k 65536 hk (by omega))
 obtain⟨m,hm⟩:∃m,min k.toNat 65536=m:=⟨_,rfl⟩
 have hmb:m<=65536:=by omega
 rw[hm]at HC ⊢
 clear hm
 obtain⟨q,r,hr,rfl⟩:∃q r,r<32/\m=32*q+r:=⟨m/32,m%32,by omega,by omega⟩
 obtain⟨V,hV⟩:∃V,N*2^(32*q+r)=V:=⟨_,rfl⟩
 rw[hV]
 have hD:∀i,dig V (q+i)=(dig N i*2^r+zfr N r i)%Bw:=fun i=>by rw[<-hV,ztK,ztJ]
 have hz:∀j,j<q->dig V j=0:=fun j hj=>by rw[<-hV];exact ztL N q r j hj
 have HL:=zvY (ztb (q:=q) (r:=r) h.1 (by omega))
 have HX:=zvY h.1
 rw[hV]at HL
 have HD:=zvY hD
 obtain⟨w1,hmk,ho1,hb1⟩:=zpV w q (by omega)
 rw[zh7 hz]at ho1
 have HO1:=zvY ho1
 have HB1:=zvY hb1
 clear hV hD hz ho1 hb1
 obtain⟨i0,hi,hz0,hz1,hz2⟩:=info_parts zbJ
 have hq:((32*q+r:Nat):Int)/32=(q:Int):=by omega
 have hr':((32*q+r:Nat):Int)%32=(r:Int):=by omega
 have hqb:q<=2048:=by omega
 obtain⟨m,hm⟩:∃m,32*q+r=m:=⟨_,rfl⟩
 rw[hm]at HC hq hr' hmb
 clear hm
 go_enter Tryz.func167,Tryz.ntmps167
 go_wp2_with (go_at_call 205;refine(HC.out w).mono ?_;rintro e w' ⟨rfl,rfl⟩)
 clear hmk
 go_loopw [5,6,7] (fun ov lv i wr=>∃j t:Nat,j<=n/\i= .int .i64 j/\lv= .int .u32 t/\t<4294967296/\Hid (t=zfr N r j)/\wr.ownsRow w.heap.size 92 1 ov (q+j) (limbs V (q+j))/\Below w.heap.size w wr) (fun _ _ i _=>n - (intOf i).toNat)
 case atStart=>exact⟨0,0,Nat.zero_le _,rfl,rfl,by omega,zvY (zn1 N r).symm,HO1.out,HB1.out⟩
 case round=>
  rename_i ov
  obtain⟨j,t,hj,rfl,rfl,htb,ht,hown,hB⟩:=hrel
  have hsz:=hB.size
  have HO:=zvY hown
  clear hown
  by_cases hlt:j<n
  ·obtain⟨ad,rfl,hadb,hc⟩:=(h.below hB).at_ hlt
   have d1:=zav N j
   have htl:t<2^r:=by rw[ht.out];exact zrX N r j
   obtain⟨cc,u1,u2,u3,u4,u5'⟩:=zpW (d:=dig N j) (low:=t) (r:=r) (by omega) htl
   have hpi:(dig N j:Int)*2^r=((dig N j*2^r:Nat):Int):=by rw[Int.natCast_mul,Int.natCast_pow];rfl
   have hpb:dig N j*2^r<=18446744073709551615:=by
    have h1:(2:Nat)^r<=2^31:=zv5 (by omega) (by omega)
    have h2:=Nat.mul_le_mul (show dig N j<=4294967295 by omega) h1
    omega
   have hm0:0<=(dig N j:Int)*2^r:=by rw[hpi];omega
   have hm1:(dig N j:Int)*2^r<=18446744073709551615:=by rw[hpi];omega
   have HV1:=zvY (show Value.int .u32 (bits BinOp.or IntKind.u32 ((dig N j:Int)*2^r%4294967296) (t:Int))= .int .u32 (dig V (q+j):Nat) by
    rw[hpi,show((dig N j*2^r:Nat):Int)%4294967296=((dig N j*2^r%4294967296:Nat):Int)from by omega,u2,zuM htl u5',HD.out j,<-ht.out,za4,u4])
   have HV2:=zvY (show Value.int .u32 ((dig N j:Int)*2^r/4294967296)= .int .u32 (dig N j*2^r/4294967296:Nat) by rw[hpi];congr 1)
   have HT:=zvY (show dig N j*2^r/4294967296=zfr N r (j+1) by rw[zn2,<-ht.out,za4,u3])
   have htn:dig N j*2^r/4294967296<4294967296:=by omega
   clear u1 u2 u3 u4 u5' htl hpi hpb
   go_wp2_with (at_builtin;refine zaC _ rfl (.tmp 29) (.tmp 34) _ rfl w.heap.size 92 i0 (.int .u32 0) 4 Tryz.underlying23 hi hz0 hz1 hz2 rfl _ (q+j) (limbs V (q+j)) rfl (HO.out.alloc _) (some ⟨wr.heap.size,0,none⟩) 1 1 [.int .u32 (bits BinOp.or IntKind.u32 ((dig N j:Int)*2^r%4294967296) (t:Int))] rfl rfl (zcK _ _ _) (zbU _) (by simp only[maxLen];omega) (by omega) (by simp;omega) ?_;intro v' w1 hown' hg' _;have HW:=zvY (zcL hB HO.out HV1.out hown' hg');clear hown' hg')
   go_roundw
   case rel=>exact⟨j+1,dig N j*2^r/4294967296,by omega,by go_num,HV2.out,htn,HT,HW.out.1,HW.out.2⟩
   case measure=>simp[intOf];omega
  ·obtain rfl:j=n:=by omega
   have HV1:=zvY (show Value.int .u32 (t:Int)= .int .u32 (dig V (q+j):Nat) by
    have hl:=HD.out j
    rw[zbN HX.out zv0,Nat.zero_mul,Nat.zero_add,<-ht.out,Nat.mod_eq_of_lt (by rw[za4];exact htb)]at hl
    rw[hl])
   go_wp2_with (at_builtin;refine zaC _ rfl (.tmp 39) (.tmp 41) _ rfl w.heap.size 92 i0 (.int .u32 0) 4 Tryz.underlying23 hi hz0 hz1 hz2 rfl _ (q+j) (limbs V (q+j)) rfl (HO.out.alloc _) (some ⟨wr.heap.size,0,none⟩) 1 1 [.int .u32 (t:Int)] rfl rfl (zcK _ _ _) (zbU _) (by simp only[maxLen];omega) (by omega) (by simp;omega) ?_;intro v' w1 hown' hg' _;have HW:=zvY (zcL hB HO.out HV1.out hown' hg');clear hown' hg')
   refine(zc5 HW.out.2 HW.out.1 HL.out).mono ?_
   rintro e w2 ⟨A2,c2,rfl,g1,g2,g3,g4⟩
   go_wp2
   go_ret
   exact⟨A2,c2,rfl,g1,g2,g3,g4⟩
section
variable {w W:World}{e:List Num}{x y:Num}
theorem ztp {k:Int}(h:Env w e W)(hx:x∈e)(bx:x.n<=100000:=by omega)(hk: -9223372036854775808<=k/\k<=9223372036854775807:=by omega):
  Calls Tryz.prog 167 #[.slice x.A x.n x.c,.int .i64 k] W (zh5 w e W.heap.size (x.N*2^min k.toNat 65536) (fun r=> .slice r.A r.n r.c)):=
 (zsy W _ _ _ _ _ (h.2 x hx).1 (by omega) hk).mono fun _ _ hg=>zbh h hg (by have:=zpX (h.2 x hx).1.1 (min k.toNat 65536);omega)
end
theorem zoM (w:World)(A:Option Addr)(n c N:Nat)(k:Int)(h:Rd w w.heap.size A n N)(hn:n<=1000000)(hk: -9223372036854775808<=k/\k<=9223372036854775807):
  Calls Tryz.prog 164 #[.slice A n c,.int .i64 k] w (Gives w (N/2^min k.toNat 65536)):=by
 have HC:=zvY (fun W=>ziO W k 65536 hk (by omega))
 obtain⟨m,hm⟩:∃m,min k.toNat 65536=m:=⟨_,rfl⟩
 have hmb:m<=65536:=by omega
 rw[hm]at HC ⊢
 clear hm
 obtain⟨q,r,hr,rfl⟩:∃q r,r<32/\m=32*q+r:=⟨m/32,m%32,by omega,by omega⟩
 obtain⟨V,hV⟩:∃V,N/2^(32*q+r)=V:=⟨_,rfl⟩
 rw[hV]
 have HD:=zvY (fun j=>zhz (N:=N) (q:=q) (r:=r) (j:=j) (by omega))
 have HL:=zvY (fun j=>zrW (q:=q) (r:=r) (j:=j) h.1)
 rw[hV]at HD HL
 clear hV
 obtain⟨i0,hi,hz0,hz1,hz2⟩:=info_parts zbJ
 have hq:((32*q+r:Nat):Int)/32=(q:Int):=by omega
 have hr':((32*q+r:Nat):Int)%32=(r:Int):=by omega
 obtain⟨m,hm⟩:∃m,32*q+r=m:=⟨_,rfl⟩
 rw[hm]at HC hq hr' hmb
 clear hm
 go_enter Tryz.func164,Tryz.ntmps164
 go_wp2_with (go_at_call 205;refine(HC.out w).mono ?_;rintro e w' ⟨rfl,rfl⟩)
 go_loopw [5,6] (fun ov i wr=>∃j:Nat,(q+j<=n\/j=0)/\i= .int .i64 (q+j:Nat)/\wr.ownsRow w.heap.size 92 1 ov j (limbs V j)/\Below w.heap.size w wr) (fun _ i _=>n - (intOf i).toNat)
 case atStart=>exact⟨0,.inr rfl,by go_num,World.ownsRow_nil _ _ _ _,Below.refl _ _⟩
 case round=>
  rename_i ov
  obtain⟨j,hj,rfl,hown,hB⟩:=hrel
  have hjb:j<=1000000:=by omega
  have hsz:=hB.size
  obtain⟨p,hp⟩:∃p,q+j=p:=⟨_,rfl⟩
  rw[hp]at hj ⊢
  have HO:=zvY hown
  have HP:=zvY hp
  clear hown hp
  by_cases hlt:p<n
  ·obtain⟨ad,rfl,hadb,hc⟩:=(h.below hB).at_ hlt
   have d1:=zav N p
   obtain⟨s,hs⟩:∃s,p+1=s:=⟨_,rfl⟩
   have HDj:=zvY (show dig V j=(dig N p+4294967296*dig N s)/2^r%4294967296 by have:=HD.out j;rw[HP.out,hs]at this;exact this)
   have hidx:(p:Int)+1=(s:Int):=by omega
   have hps:p<s:=by omega
   have HS:=zvY hs
   clear hs
   by_cases hlast:s<n
   ·obtain⟨ad',e',_,hc'⟩:=(h.below hB).at_ hlast
    cases e'
    have d2:=zav N s
    have HV1:=zvY (show Value.int .u32 (bits BinOp.or IntKind.u64 (dig N p:Int) ((dig N s:Int)*4294967296)/2^r%4294967296)= .int .u32 (dig V j:Nat) by rw[zn0 d1 d2,HDj.out,zhA])
    go_wp2_with (at_builtin;refine zaC _ rfl (.tmp 37) (.tmp 44) _ rfl w.heap.size 92 i0 (.int .u32 0) 4 Tryz.underlying23 hi hz0 hz1 hz2 rfl _ j (limbs V j) rfl (HO.out.alloc _) (some ⟨wr.heap.size,0,none⟩) 1 1 [.int .u32 (bits BinOp.or IntKind.u64 (dig N p:Int) ((dig N s:Int)*4294967296)/2^r%4294967296)] rfl rfl (zcK _ _ _) (zbU _) (by simp only[maxLen];omega) (by omega) (by simp;omega) ?_;intro v' w1 hown' hg' _;have HW:=zvY (zcL hB HO.out HV1.out hown' hg');clear hown' hg')
    go_roundw
    case rel=>exact⟨j+1,.inl (by have:=HP.out;have:=HS.out;omega),by have:=HP.out;have:=HS.out;refine zfR ?_;omega,HW.out.1,HW.out.2⟩
    case measure=>have:=HS.out;simp[intOf];omega
   ·have HV1:=zvY (show Value.int .u32 ((dig N p:Int)/2^r%4294967296)= .int .u32 (dig V j:Nat) by rw[HDj.out,zbN h.1 (by omega:n<=s),Nat.mul_zero,Nat.add_zero,zhA])
    go_wp2_with (at_builtin;refine zaC _ rfl (.tmp 37) (.tmp 44) _ rfl w.heap.size 92 i0 (.int .u32 0) 4 Tryz.underlying23 hi hz0 hz1 hz2 rfl _ j (limbs V j) rfl (HO.out.alloc _) (some ⟨wr.heap.size,0,none⟩) 1 1 [.int .u32 ((dig N p:Int)/2^r%4294967296)] rfl rfl (zcK _ _ _) (zbU _) (by simp only[maxLen];omega) (by omega) (by simp;omega) ?_;intro v' w1 hown' hg' _;have HW:=zvY (zcL hB HO.out HV1.out hown' hg');clear hown' hg')
    go_roundw
    case rel=>exact⟨j+1,.inl (by have:=HP.out;have:=HS.out;omega),by have:=HP.out;have:=HS.out;refine zfR ?_;omega,HW.out.1,HW.out.2⟩
    case measure=>have:=HS.out;simp[intOf];omega
  ·have HV:=zvY (HL.out j (by have:=HP.out;omega))
   have E:=zvY (zc5 hB HO.out HV.out)
   go_wp2_with fail
   refine E.out.mono ?_
   rintro e w2 ⟨A2,c2,rfl,g1,g2,g3,g4⟩
   go_wp2
   go_ret
   exact⟨A2,c2,rfl,g1,g2,g3,g4⟩
section
variable {w W:World}{e:List Num}{x y:Num}
theorem znd {k:Int}(h:Env w e W)(hx:x∈e)(bx:x.n<=100000:=by omega)(hk: -9223372036854775808<=k/\k<=9223372036854775807:=by omega):
  Calls Tryz.prog 164 #[.slice x.A x.n x.c,.int .i64 k] W (zh5 w e W.heap.size (x.N/2^min k.toNat 65536) (fun r=> .slice r.A r.n r.c)):=
 (zoM W _ _ _ _ _ (h.2 x hx).1 (by omega) hk).mono fun _ _ hg=>zbh h hg (by have:=zaG (Nat.div_le_self x.N (2^min k.toNat 65536));have:=zai.2 (h.2 x hx).1.1;omega)
end
end Go.Proofs.YtipckjmgdghkiaaGreatDoor
