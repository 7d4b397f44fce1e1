/- Contract of the reference's count of layer 2. -/
import Derived.Test.YtipckjmgdghkiaaGreatDoorGRefA
set_option maxHeartbeats 2000000
set_option maxRecDepth 100000
namespace Go.Proofs.YtipckjmgdghkiaaGreatDoor
open Go Go.RowKit
theorem zi1 (w:World)(k:Int)(m:Nat)(hk: -9223372036854775808<=k/\k<=9223372036854775807)(hm:m<=1000000):
  Calls Tryz.prog 205 #[.int .i64 k,.int .i64 m] w fun e w'=>e= .returned (.int .i64 (min k.toNat m:Nat))/\w=w':=by
 by_cases h0:k<0
 ·have HV:=zv4 (show min k.toNat m=0 by omega)
  go_enter Tryz.func205,Tryz.ntmps205
  go_wp2
  go_ret
  exact⟨by rw[HV.out];first|rfl|(refine zdg ?_;omega),rfl⟩
 ·obtain⟨K,rfl⟩:=Int.eq_ofNat_of_zero_le (show 0<=k by omega)
  by_cases h1:K<=m
  ·go_enter Tryz.func205,Tryz.ntmps205
   go_wp2
   go_ret
   exact⟨by refine zdg ?_;omega,rfl⟩
  ·go_enter Tryz.func205,Tryz.ntmps205
   go_wp2
   go_ret
   exact⟨by refine zdg ?_;omega,rfl⟩
theorem zsP (w:World)(A:Option Addr)(n c N:Nat)(k:Int)(h:Rd w w.heap.size A n N)(hn:n<=1000000)(hk: -9223372036854775808<=k/\k<=9223372036854775807):
  Calls Tryz.prog 167 #[.slice A n c,.int .i64 k] w (Gives w (N*2^min k.toNat 65536)):=by
 have HC:=zv4 (fun W=>zi1 W k 65536 hk (by omega))
 obtain⟨m,hm⟩:∃m,min k.toNat 65536=m:=⟨_,rfl⟩
 have hmb:m<=65536:=by omega
 rw[hm]at HC ⊢
 clear hm
 obtain⟨q,r,hr,rfl⟩:∃q r,r<32/\m=32*q+r:=⟨m/32,m%32,by omega,by omega⟩
 obtain⟨V,hV⟩:∃V,N*2^(32*q+r)=V:=⟨_,rfl⟩
 rw[hV]
 have hD:∀i,dig V (q+i)=(dig N i*2^r+zfB N r i)%Bw:=fun i=>by rw[<-hV,zt0,ztZ]
 have hz:∀j,j<q->dig V j=0:=fun j hj=>by rw[<-hV];exact zt1 N q r j hj
 have HL:=zv4 (ztq (q:=q) (r:=r) h.1 (by omega))
 have HX:=zv4 h.1
 rw[hV]at HL
 have HD:=zv4 hD
 obtain⟨w1,hmk,ho1,hb1⟩:=zqd w q (by omega)
 rw[zig hz]at ho1
 have HO1:=zv4 ho1
 have HB1:=zv4 hb1
 clear hV hD hz ho1 hb1
 obtain⟨i0,hi,hz0,hz1,hz2⟩:=info_parts zbF
 have hq:((32*q+r:Nat):Int)/32=(q:Int):=by omega
 have hr':((32*q+r:Nat):Int)%32=(r:Int):=by omega
 have hqb:q<=2048:=by omega
 obtain⟨m,hm⟩:∃m,32*q+r=m:=⟨_,rfl⟩
 rw[hm]at HC hq hr' hmb
 clear hm
 go_enter Tryz.func167,Tryz.ntmps167
 go_wp2_with (go_at_call 205;refine(HC.out w).mono ?_;rintro e w' ⟨rfl,rfl⟩)
 clear hmk
 go_loopw [5,6,7] (fun ov lv i wr=>∃j t:Nat,j<=n/\i= .int .i64 j/\lv= .int .u32 t/\t<4294967296/\Hid (t=zfB N r j)/\wr.ownsRow w.heap.size 92 1 ov (q+j) (limbs V (q+j))/\Below w.heap.size w wr) (fun _ _ i _=>n - (intOf i).toNat)
 case atStart=>exact⟨0,0,Nat.zero_le _,rfl,rfl,by omega,zv4 (zog N r).symm,HO1.out,HB1.out⟩
 case round=>
  rename_i ov
  obtain⟨j,t,hj,rfl,rfl,htb,ht,hown,hB⟩:=hrel
  have hsz:=hB.size
  have HO:=zv4 hown
  clear hown
  by_cases hlt:j<n
  ·obtain⟨ad,rfl,hadb,hc⟩:=(h.below hB).at_ hlt
   have d1:=zat N j
   have htl:t<2^r:=by rw[ht.out];exact zse N r j
   obtain⟨cc,u1,u2,u3,u4,u5'⟩:=zqe (d:=dig N j) (low:=t) (r:=r) (by omega) htl
   have hpi:(dig N j:Int)*2^r=((dig N j*2^r:Nat):Int):=by rw[Int.natCast_mul,Int.natCast_pow];rfl
   have hpb:dig N j*2^r<=18446744073709551615:=by
    have h1:(2:Nat)^r<=2^31:=zwb (by omega) (by omega)
    have h2:=Nat.mul_le_mul (show dig N j<=4294967295 by omega) h1
    omega
   have hm0:0<=(dig N j:Int)*2^r:=by rw[hpi];omega
   have hm1:(dig N j:Int)*2^r<=18446744073709551615:=by rw[hpi];omega
   have HV1:=zv4 (show Value.int .u32 (bits BinOp.or IntKind.u32 ((dig N j:Int)*2^r%4294967296) (t:Int))= .int .u32 (dig V (q+j):Nat) by
    rw[hpi,show((dig N j*2^r:Nat):Int)%4294967296=((dig N j*2^r%4294967296:Nat):Int)from by omega,u2,zuY htl u5',HD.out j,<-ht.out,za3,u4])
   have HV2:=zv4 (show Value.int .u32 ((dig N j:Int)*2^r/4294967296)= .int .u32 (dig N j*2^r/4294967296:Nat) by rw[hpi];congr 1)
   have HT:=zv4 (show dig N j*2^r/4294967296=zfB N r (j+1) by rw[zoh,<-ht.out,za3,u3])
   have htn:dig N j*2^r/4294967296<4294967296:=by omega
   clear u1 u2 u3 u4 u5' htl hpi hpb
   go_wp2_with (at_builtin;refine zaD _ rfl (.tmp 29) (.tmp 34) _ rfl w.heap.size 92 i0 (.int .u32 0) 4 Tryz.underlying23 hi hz0 hz1 hz2 rfl _ (q+j) (limbs V (q+j)) rfl (HO.out.alloc _) (some ⟨wr.heap.size,0,none⟩) 1 1 [.int .u32 (bits BinOp.or IntKind.u32 ((dig N j:Int)*2^r%4294967296) (t:Int))] rfl rfl (zcJ _ _ _) (zbP _) (by simp only[maxLen];omega) (by omega) (by simp;omega) ?_;intro v' w1 hown' hg' _;have HW:=zv4 (zcK hB HO.out HV1.out hown' hg');clear hown' hg')
   go_roundw
   case rel=>exact⟨j+1,dig N j*2^r/4294967296,by omega,by go_num,HV2.out,htn,HT,HW.out.1,HW.out.2⟩
   case measure=>simp[intOf];omega
  ·obtain rfl:j=n:=by omega
   have HV1:=zv4 (show Value.int .u32 (t:Int)= .int .u32 (dig V (q+j):Nat) by
    have hl:=HD.out j
    rw[zbJ HX.out zv6,Nat.zero_mul,Nat.zero_add,<-ht.out,Nat.mod_eq_of_lt (by rw[za3];exact htb)]at hl
    rw[hl])
   go_wp2_with (at_builtin;refine zaD _ rfl (.tmp 39) (.tmp 41) _ rfl w.heap.size 92 i0 (.int .u32 0) 4 Tryz.underlying23 hi hz0 hz1 hz2 rfl _ (q+j) (limbs V (q+j)) rfl (HO.out.alloc _) (some ⟨wr.heap.size,0,none⟩) 1 1 [.int .u32 (t:Int)] rfl rfl (zcJ _ _ _) (zbP _) (by simp only[maxLen];omega) (by omega) (by simp;omega) ?_;intro v' w1 hown' hg' _;have HW:=zv4 (zcK hB HO.out HV1.out hown' hg');clear hown' hg')
   refine(zc9 HW.out.2 HW.out.1 HL.out).mono ?_
   rintro e w2 ⟨A2,c2,rfl,g1,g2,g3,g4⟩
   go_wp2
   go_ret
   exact⟨A2,c2,rfl,g1,g2,g3,g4⟩
section
variable {w W:World}{e:List Num}{x y:Num}
theorem ztF {k:Int}(h:Env w e W)(hx:x∈e)(bx:x.n<=100000:=by omega)(hk: -9223372036854775808<=k/\k<=9223372036854775807:=by omega):
  Calls Tryz.prog 167 #[.slice x.A x.n x.c,.int .i64 k] W (zie w e W.heap.size (x.N*2^min k.toNat 65536) (fun r=> .slice r.A r.n r.c)):=
 (zsP W _ _ _ _ _ (h.2 x hx).1 (by omega) hk).mono fun _ _ hg=>zbi h hg (by have:=zqf (h.2 x hx).1.1 (min k.toNat 65536);omega)
end
theorem zo1 (w:World)(A:Option Addr)(n c N:Nat)(k:Int)(h:Rd w w.heap.size A n N)(hn:n<=1000000)(hk: -9223372036854775808<=k/\k<=9223372036854775807):
  Calls Tryz.prog 164 #[.slice A n c,.int .i64 k] w (Gives w (N/2^min k.toNat 65536)):=by
 have HC:=zv4 (fun W=>zi1 W k 65536 hk (by omega))
 obtain⟨m,hm⟩:∃m,min k.toNat 65536=m:=⟨_,rfl⟩
 have hmb:m<=65536:=by omega
 rw[hm]at HC ⊢
 clear hm
 obtain⟨q,r,hr,rfl⟩:∃q r,r<32/\m=32*q+r:=⟨m/32,m%32,by omega,by omega⟩
 obtain⟨V,hV⟩:∃V,N/2^(32*q+r)=V:=⟨_,rfl⟩
 rw[hV]
 have HD:=zv4 (fun j=>zhI (N:=N) (q:=q) (r:=r) (j:=j) (by omega))
 have HL:=zv4 (fun j=>zsd (q:=q) (r:=r) (j:=j) h.1)
 rw[hV]at HD HL
 clear hV
 obtain⟨i0,hi,hz0,hz1,hz2⟩:=info_parts zbF
 have hq:((32*q+r:Nat):Int)/32=(q:Int):=by omega
 have hr':((32*q+r:Nat):Int)%32=(r:Int):=by omega
 obtain⟨m,hm⟩:∃m,32*q+r=m:=⟨_,rfl⟩
 rw[hm]at HC hq hr' hmb
 clear hm
 go_enter Tryz.func164,Tryz.ntmps164
 go_wp2_with (go_at_call 205;refine(HC.out w).mono ?_;rintro e w' ⟨rfl,rfl⟩)
 go_loopw [5,6] (fun ov i wr=>∃j:Nat,(q+j<=n\/j=0)/\i= .int .i64 (q+j:Nat)/\wr.ownsRow w.heap.size 92 1 ov j (limbs V j)/\Below w.heap.size w wr) (fun _ i _=>n - (intOf i).toNat)
 case atStart=>exact⟨0,.inr rfl,by go_num,World.ownsRow_nil _ _ _ _,Below.refl _ _⟩
 case round=>
  rename_i ov
  obtain⟨j,hj,rfl,hown,hB⟩:=hrel
  have hjb:j<=1000000:=by omega
  have hsz:=hB.size
  obtain⟨p,hp⟩:∃p,q+j=p:=⟨_,rfl⟩
  rw[hp]at hj ⊢
  have HO:=zv4 hown
  have HP:=zv4 hp
  clear hown hp
  by_cases hlt:p<n
  ·obtain⟨ad,rfl,hadb,hc⟩:=(h.below hB).at_ hlt
   have d1:=zat N p
   obtain⟨s,hs⟩:∃s,p+1=s:=⟨_,rfl⟩
   have HDj:=zv4 (show dig V j=(dig N p+4294967296*dig N s)/2^r%4294967296 by have:=HD.out j;rw[HP.out,hs]at this;exact this)
   have hidx:(p:Int)+1=(s:Int):=by omega
   have hps:p<s:=by omega
   have HS:=zv4 hs
   clear hs
   by_cases hlast:s<n
   ·obtain⟨ad',e',_,hc'⟩:=(h.below hB).at_ hlast
    cases e'
    have d2:=zat N s
    have HV1:=zv4 (show Value.int .u32 (bits BinOp.or IntKind.u64 (dig N p:Int) ((dig N s:Int)*4294967296)/2^r%4294967296)= .int .u32 (dig V j:Nat) by rw[zof d1 d2,HDj.out,zhJ])
    go_wp2_with (at_builtin;refine zaD _ rfl (.tmp 37) (.tmp 44) _ rfl w.heap.size 92 i0 (.int .u32 0) 4 Tryz.underlying23 hi hz0 hz1 hz2 rfl _ j (limbs V j) rfl (HO.out.alloc _) (some ⟨wr.heap.size,0,none⟩) 1 1 [.int .u32 (bits BinOp.or IntKind.u64 (dig N p:Int) ((dig N s:Int)*4294967296)/2^r%4294967296)] rfl rfl (zcJ _ _ _) (zbP _) (by simp only[maxLen];omega) (by omega) (by simp;omega) ?_;intro v' w1 hown' hg' _;have HW:=zv4 (zcK hB HO.out HV1.out hown' hg');clear hown' hg')
    go_roundw
    case rel=>exact⟨j+1,.inl (by have:=HP.out;have:=HS.out;omega),by have:=HP.out;have:=HS.out;refine zf3 ?_;omega,HW.out.1,HW.out.2⟩
    case measure=>have:=HS.out;simp[intOf];omega
   ·have HV1:=zv4 (show Value.int .u32 ((dig N p:Int)/2^r%4294967296)= .int .u32 (dig V j:Nat) by rw[HDj.out,zbJ h.1 (by omega:n<=s),Nat.mul_zero,Nat.add_zero,zhJ])
    go_wp2_with (at_builtin;refine zaD _ rfl (.tmp 37) (.tmp 44) _ rfl w.heap.size 92 i0 (.int .u32 0) 4 Tryz.underlying23 hi hz0 hz1 hz2 rfl _ j (limbs V j) rfl (HO.out.alloc _) (some ⟨wr.heap.size,0,none⟩) 1 1 [.int .u32 ((dig N p:Int)/2^r%4294967296)] rfl rfl (zcJ _ _ _) (zbP _) (by simp only[maxLen];omega) (by omega) (by simp;omega) ?_;intro v' w1 hown' hg' _;have HW:=zv4 (zcK hB HO.out HV1.out hown' hg');clear hown' hg')
    go_roundw
    case rel=>exact⟨j+1,.inl (by have:=HP.out;have:=HS.out;omega),by have:=HP.out;have:=HS.out;refine zf3 ?_;omega,HW.out.1,HW.out.2⟩
    case measure=>have:=HS.out;simp[intOf];omega
  ·have HV:=zv4 (HL.out j (by have:=HP.out;omega))
   have E:=zv4 (zc9 hB HO.out HV.out)
   go_wp2_with fail
   refine E.out.mono ?_
   rintro e w2 ⟨A2,c2,rfl,g1,g2,g3,g4⟩
   go_wp2
   go_ret
   exact⟨A2,c2,rfl,g1,g2,g3,g4⟩
section
variable {w W:World}{e:List Num}{x y:Num}
theorem zns {k:Int}(h:Env w e W)(hx:x∈e)(bx:x.n<=100000:=by omega)(hk: -9223372036854775808<=k/\k<=9223372036854775807:=by omega):
  Calls Tryz.prog 164 #[.slice x.A x.n x.c,.int .i64 k] W (zie w e W.heap.size (x.N/2^min k.toNat 65536) (fun r=> .slice r.A r.n r.c)):=
 (zo1 W _ _ _ _ _ (h.2 x hx).1 (by omega) hk).mono fun _ _ hg=>zbi h hg (by have:=zaI (Nat.div_le_self x.N (2^min k.toNat 65536));have:=zah.2 (h.2 x hx).1.1;omega)
end
end Go.Proofs.YtipckjmgdghkiaaGreatDoor
