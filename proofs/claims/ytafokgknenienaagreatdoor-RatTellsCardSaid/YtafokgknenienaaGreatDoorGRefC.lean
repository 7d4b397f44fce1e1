/- Contract of the reference's count of layer 2. -/
import Derived.Test.YtafokgknenienaaGreatDoorGRefA
set_option maxHeartbeats 2000000
set_option maxRecDepth 100000
namespace Go.Proofs.YtafokgknenienaaGreatDoor
open Go Go.RowKit
theorem ziy (w:World)(k:Int)(m:Nat)(hk: -9223372036854775808≤k∧k≤9223372036854775807)(hm:m≤1000000):
  Calls Tryz.prog 109 #[.int .i64 k,.int .i64 m] w fun e w'=>e= .returned (.int .i64 (min k.toNat m:Nat))∧w=w':=by
 by_cases h0:k<0
 ·have HV:=zuy (show min k.toNat m=0 by omega)
  go_enter Tryz.func109,Tryz.ntmps109
  go_wp2
  go_ret
  exact⟨by rw[HV.out];first|rfl|(refine zcT ?_;omega),rfl⟩
 ·obtain⟨K,rfl⟩:=Int.eq_ofNat_of_zero_le (show 0≤k by omega)
  by_cases h1:K≤m
  ·go_enter Tryz.func109,Tryz.ntmps109
   go_wp2
   go_ret
   exact⟨by refine zcT ?_;omega,rfl⟩
  ·go_enter Tryz.func109,Tryz.ntmps109
   go_wp2
   go_ret
   exact⟨by refine zcT ?_;omega,rfl⟩
theorem zrX (w:World)(A:Option Addr)(n c N:Nat)(k:Int)(h:Rd w w.heap.size A n N)(hn:n≤1000000)(hk: -9223372036854775808≤k∧k≤9223372036854775807):
  Calls Tryz.prog 43 #[.slice A n c,.int .i64 k] w (Gives w (N*2^min k.toNat 65536)):=by
 have HC:=zuy (fun W=>ziy W k 65536 hk (by omega))
 obtain⟨m,hm⟩:∃m,min k.toNat 65536=m:=⟨_,rfl⟩
 have hmb:m≤65536:=by omega
 rw[hm]at HC ⊢
 clear hm
 obtain⟨q,r,hr,rfl⟩:∃q r,r<32∧m=32*q+r:=⟨m/32,m%32,by omega,by omega⟩
 obtain⟨V,hV⟩:∃V,N*2^(32*q+r)=V:=⟨_,rfl⟩
 rw[hV]
 have hD:∀i,dig V (q+i)=(dig N i*2^r+zeY N r i)%Bw:=fun i=>by rw[←hV,zsO,zsN]
 have hz:∀j,j<q→dig V j=0:=fun j hj=>by rw[←hV];exact zsP N q r j hj
 have HL:=zuy (zsc (q:=q) (r:=r) h.1 (by omega))
 have HX:=zuy h.1
 rw[hV]at HL
 have HD:=zuy hD
 obtain⟨w1,hmk,ho1,hb1⟩:=zoR w q (by omega)
 rw[zhJ hz]at ho1
 have HO1:=zuy ho1
 have HB1:=zuy hb1
 clear hV hD hz ho1 hb1
 obtain⟨i0,hi,hz0,hz1,hz2⟩:=info_parts zbz
 have hq:((32*q+r:Nat):Int)/32=(q:Int):=by omega
 have hr':((32*q+r:Nat):Int)%32=(r:Int):=by omega
 have hqb:q≤2048:=by omega
 obtain⟨m,hm⟩:∃m,32*q+r=m:=⟨_,rfl⟩
 rw[hm]at HC hq hr' hmb
 clear hm
 go_enter Tryz.func43,Tryz.ntmps43
 go_wp2_with (go_at_call 109;refine(HC.out w).mono ?_;rintro e w' ⟨rfl,rfl⟩)
 clear hmk
 go_loopw [5,6,7] (fun ov lv i wr=>∃j t:Nat,j≤n∧i= .int .i64 j∧lv= .int .u32 t∧t<4294967296∧Hid (t=zeY N r j)∧wr.ownsRow w.heap.size 50 1 ov (q+j) (limbs V (q+j))∧Below w.heap.size w wr) (fun _ _ i _=>n - (intOf i).toNat)
 case atStart=>exact⟨0,0,Nat.zero_le _,rfl,rfl,by omega,zuy (zm7 N r).symm,HO1.out,HB1.out⟩
 case round=>
  rename_i ov
  obtain⟨j,t,hj,rfl,rfl,htb,ht,hown,hB⟩:=hrel
  have hsz:=hB.size
  have HO:=zuy hown
  clear hown
  by_cases hlt:j<n
  ·obtain⟨ad,rfl,hadb,hc⟩:=(h.below hB).at_ hlt
   have d1:=zaz N j
   have htl:t<2^r:=by rw[ht.out];exact zq1 N r j
   obtain⟨cc,u1,u2,u3,u4,u5'⟩:=zoS (d:=dig N j) (low:=t) (r:=r) (by omega) htl
   have hpi:(dig N j:Int)*2^r=((dig N j*2^r:Nat):Int):=by rw[Int.natCast_mul,Int.natCast_pow];rfl
   have hpb:dig N j*2^r≤18446744073709551615:=by
    have h1:(2:Nat)^r≤2^31:=zuF (by omega) (by omega)
    have h2:=Nat.mul_le_mul (show dig N j≤4294967295 by omega) h1
    omega
   have hm0:0≤(dig N j:Int)*2^r:=by rw[hpi];omega
   have hm1:(dig N j:Int)*2^r≤18446744073709551615:=by rw[hpi];omega
   have HV1:=zuy (show Value.int .u32 (bits BinOp.or IntKind.u32 ((dig N j:Int)*2^r%4294967296) (t:Int))= .int .u32 (dig V (q+j):Nat) by
    rw[hpi,show((dig N j*2^r:Nat):Int)%4294967296=((dig N j*2^r%4294967296:Nat):Int)from by omega,u2,ztI htl u5',HD.out j,←ht.out,zaX,u4])
   have HV2:=zuy (show Value.int .u32 ((dig N j:Int)*2^r/4294967296)= .int .u32 (dig N j*2^r/4294967296:Nat) by rw[hpi];congr 1)
   have HT:=zuy (show dig N j*2^r/4294967296=zeY N r (j+1) by rw[zm8,←ht.out,zaX,u3])
   have htn:dig N j*2^r/4294967296<4294967296:=by omega
   clear u1 u2 u3 u4 u5' htl hpi hpb
   go_wp2_with (at_builtin;refine zaJ _ rfl (.tmp 29) (.tmp 34) _ rfl w.heap.size 50 i0 (.int .u32 0) 4 Tryz.underlying23 hi hz0 hz1 hz2 rfl _ (q+j) (limbs V (q+j)) rfl (HO.out.alloc _) (some ⟨wr.heap.size,0,none⟩) 1 1 [.int .u32 (bits BinOp.or IntKind.u32 ((dig N j:Int)*2^r%4294967296) (t:Int))] rfl rfl (zcC _ _ _) (zbN _) (by simp only[maxLen];omega) (by omega) (by simp;omega) ?_;intro v' w1 hown' hg' _;have HW:=zuy (zcD hB HO.out HV1.out hown' hg');clear hown' hg')
   go_roundw
   case rel=>exact⟨j+1,dig N j*2^r/4294967296,by omega,by go_num,HV2.out,htn,HT,HW.out.1,HW.out.2⟩
   case measure=>simp[intOf];omega
  ·obtain rfl:j=n:=by omega
   have HV1:=zuy (show Value.int .u32 (t:Int)= .int .u32 (dig V (q+j):Nat) by
    have hl:=HD.out j
    rw[zbK HX.out zuA,Nat.zero_mul,Nat.zero_add,←ht.out,Nat.mod_eq_of_lt (by rw[zaX];exact htb)]at hl
    rw[hl])
   go_wp2_with (at_builtin;refine zaJ _ rfl (.tmp 39) (.tmp 41) _ rfl w.heap.size 50 i0 (.int .u32 0) 4 Tryz.underlying23 hi hz0 hz1 hz2 rfl _ (q+j) (limbs V (q+j)) rfl (HO.out.alloc _) (some ⟨wr.heap.size,0,none⟩) 1 1 [.int .u32 (t:Int)] rfl rfl (zcC _ _ _) (zbN _) (by simp only[maxLen];omega) (by omega) (by simp;omega) ?_;intro v' w1 hown' hg' _;have HW:=zuy (zcD hB HO.out HV1.out hown' hg');clear hown' hg')
   refine(zc1 HW.out.2 HW.out.1 HL.out (by omega)).mono ?_
   rintro e w2 ⟨A2,c2,rfl,g1,g2,g3,g4⟩
   go_wp2
   go_ret
   exact⟨A2,c2,rfl,g1,g2,g3,g4⟩
section
variable {w W:World}{e:List Num}{x y:Num}
theorem zqv {k:Int}(h:Env w e W)(hx:x∈e)(bx:x.n≤100000)(hk: -9223372036854775808≤k∧k≤9223372036854775807):
  Calls Tryz.prog 43 #[.slice x.A x.n x.c,.int .i64 k] W (zhH w e W.heap.size (x.N*2^min k.toNat 65536) (fun r=> .slice r.A r.n r.c)):=
 (zrX W _ _ _ _ _ (h.2 x hx).1 (by omega) hk).mono fun _ _ hg=>zbl h hg (by have:=zoT (h.2 x hx).1.1 (min k.toNat 65536);omega)
end
theorem zn5 (w:World)(A:Option Addr)(n c N:Nat)(k:Int)(h:Rd w w.heap.size A n N)(hn:n≤1000000)(hk: -9223372036854775808≤k∧k≤9223372036854775807):
  Calls Tryz.prog 122 #[.slice A n c,.int .i64 k] w (Gives w (N/2^min k.toNat 65536)):=by
 have HC:=zuy (fun W=>ziy W k 65536 hk (by omega))
 obtain⟨m,hm⟩:∃m,min k.toNat 65536=m:=⟨_,rfl⟩
 have hmb:m≤65536:=by omega
 rw[hm]at HC ⊢
 clear hm
 obtain⟨q,r,hr,rfl⟩:∃q r,r<32∧m=32*q+r:=⟨m/32,m%32,by omega,by omega⟩
 obtain⟨V,hV⟩:∃V,N/2^(32*q+r)=V:=⟨_,rfl⟩
 rw[hV]
 have HD:=zuy (fun j=>zgZ (N:=N) (q:=q) (r:=r) (j:=j) (by omega))
 have HL:=zuy (fun j=>zq0 (q:=q) (r:=r) (j:=j) h.1)
 rw[hV]at HD HL
 clear hV
 obtain⟨i0,hi,hz0,hz1,hz2⟩:=info_parts zbz
 have hq:((32*q+r:Nat):Int)/32=(q:Int):=by omega
 have hr':((32*q+r:Nat):Int)%32=(r:Int):=by omega
 obtain⟨m,hm⟩:∃m,32*q+r=m:=⟨_,rfl⟩
 rw[hm]at HC hq hr' hmb
 clear hm
 go_enter Tryz.func122,Tryz.ntmps122
 go_wp2_with (go_at_call 109;refine(HC.out w).mono ?_;rintro e w' ⟨rfl,rfl⟩)
 go_loopw [5,6] (fun ov i wr=>∃j:Nat,(q+j≤n∨j=0)∧i= .int .i64 (q+j:Nat)∧wr.ownsRow w.heap.size 50 1 ov j (limbs V j)∧Below w.heap.size w wr) (fun _ i _=>n - (intOf i).toNat)
 case atStart=>exact⟨0,.inr rfl,by go_num,World.ownsRow_nil _ _ _ _,Below.refl _ _⟩
 case round=>
  rename_i ov
  obtain⟨j,hj,rfl,hown,hB⟩:=hrel
  have hjb:j≤1000000:=by omega
  have hsz:=hB.size
  obtain⟨p,hp⟩:∃p,q+j=p:=⟨_,rfl⟩
  rw[hp]at hj ⊢
  have HO:=zuy hown
  have HP:=zuy hp
  clear hown hp
  by_cases hlt:p<n
  ·obtain⟨ad,rfl,hadb,hc⟩:=(h.below hB).at_ hlt
   have d1:=zaz N p
   obtain⟨s,hs⟩:∃s,p+1=s:=⟨_,rfl⟩
   have HDj:=zuy (show dig V j=(dig N p+4294967296*dig N s)/2^r%4294967296 by have:=HD.out j;rw[HP.out,hs]at this;exact this)
   have hidx:(p:Int)+1=(s:Int):=by omega
   have hps:p<s:=by omega
   have HS:=zuy hs
   clear hs
   by_cases hlast:s<n
   ·obtain⟨ad',e',_,hc'⟩:=(h.below hB).at_ hlast
    cases e'
    have d2:=zaz N s
    have HV1:=zuy (show Value.int .u32 (bits BinOp.or IntKind.u64 (dig N p:Int) ((dig N s:Int)*4294967296)/2^r%4294967296)= .int .u32 (dig V j:Nat) by rw[zm6 d1 d2,HDj.out,zg0])
    go_wp2_with (at_builtin;refine zaJ _ rfl (.tmp 37) (.tmp 44) _ rfl w.heap.size 50 i0 (.int .u32 0) 4 Tryz.underlying23 hi hz0 hz1 hz2 rfl _ j (limbs V j) rfl (HO.out.alloc _) (some ⟨wr.heap.size,0,none⟩) 1 1 [.int .u32 (bits BinOp.or IntKind.u64 (dig N p:Int) ((dig N s:Int)*4294967296)/2^r%4294967296)] rfl rfl (zcC _ _ _) (zbN _) (by simp only[maxLen];omega) (by omega) (by simp;omega) ?_;intro v' w1 hown' hg' _;have HW:=zuy (zcD hB HO.out HV1.out hown' hg');clear hown' hg')
    go_roundw
    case rel=>exact⟨j+1,.inl (by have:=HP.out;have:=HS.out;omega),by have:=HP.out;have:=HS.out;refine zfp ?_;omega,HW.out.1,HW.out.2⟩
    case measure=>have:=HS.out;simp[intOf];omega
   ·have HV1:=zuy (show Value.int .u32 ((dig N p:Int)/2^r%4294967296)= .int .u32 (dig V j:Nat) by rw[HDj.out,zbK h.1 (by omega:n≤s),Nat.mul_zero,Nat.add_zero,zg0])
    go_wp2_with (at_builtin;refine zaJ _ rfl (.tmp 37) (.tmp 44) _ rfl w.heap.size 50 i0 (.int .u32 0) 4 Tryz.underlying23 hi hz0 hz1 hz2 rfl _ j (limbs V j) rfl (HO.out.alloc _) (some ⟨wr.heap.size,0,none⟩) 1 1 [.int .u32 ((dig N p:Int)/2^r%4294967296)] rfl rfl (zcC _ _ _) (zbN _) (by simp only[maxLen];omega) (by omega) (by simp;omega) ?_;intro v' w1 hown' hg' _;have HW:=zuy (zcD hB HO.out HV1.out hown' hg');clear hown' hg')
    go_roundw
    case rel=>exact⟨j+1,.inl (by have:=HP.out;have:=HS.out;omega),by have:=HP.out;have:=HS.out;refine zfp ?_;omega,HW.out.1,HW.out.2⟩
    case measure=>have:=HS.out;simp[intOf];omega
  ·have HV:=zuy (HL.out j (by have:=HP.out;omega))
   have E:=zuy (zc1 hB HO.out HV.out (by omega))
   go_wp2_with fail
   refine E.out.mono ?_
   rintro e w2 ⟨A2,c2,rfl,g1,g2,g3,g4⟩
   go_wp2
   go_ret
   exact⟨A2,c2,rfl,g1,g2,g3,g4⟩
section
variable {w W:World}{e:List Num}{x y:Num}
theorem zmF {k:Int}(h:Env w e W)(hx:x∈e)(bx:x.n≤100000)(hk: -9223372036854775808≤k∧k≤9223372036854775807):
  Calls Tryz.prog 122 #[.slice x.A x.n x.c,.int .i64 k] W (zhH w e W.heap.size (x.N/2^min k.toNat 65536) (fun r=> .slice r.A r.n r.c)):=
 (zn5 W _ _ _ _ _ (h.2 x hx).1 (by omega) hk).mono fun _ _ hg=>zbl h hg (by have:=zaI (Nat.div_le_self x.N (2^min k.toNat 65536));have:=zaj.2 (h.2 x hx).1.1;omega)
end
theorem zn6 (w:World)(A:Option Addr)(n c N:Nat)(h:Rd w w.heap.size A n N)(hn:n≤c)(hcm:c≤maxLen)(hb:n≤1000000):
  Calls Tryz.prog 41 #[.slice A n c] w fun e w'=>e= .returned (.int .i64 (bitsN N:Nat))∧Below w.heap.size w w':=by
 have hl:=zaj.2 h.1
 have E:=zuy (zbq w A n c N h hn hcm (by omega))
 go_enter Tryz.func41,Tryz.ntmps41
 go_wp2_with fail
 refine E.out.mono ?_
 rintro e w' ⟨A1,c1,rfl,g1,g2,hF,hBl⟩
 rcases zuH (lenL N)with h0|h0
 ·have hN0:=zuy (zbb.1 h0)
  rw[h0]at hF g1 ⊢
  clear h0
  go_wp2
  go_ret
  exact⟨by rw[hN0.out];rfl,hBl⟩
 ·obtain⟨m,hm⟩:∃m,lenL N=m+1:=⟨lenL N - 1,by omega⟩
  obtain⟨ad,rfl,_,hc⟩:=hF.rd.at_ (k:=m) (by omega)
  have HM:=zuy hm
  rw[hm]at hl g1 ⊢
  have hdl:=zaz N m
  clear hm h0
  go_wp2
  go_loop [3,4] (fun nv tv=>∃s t:Nat,s≤32∧nv= .int .i64 (32*m+s:Nat)∧tv= .int .u32 t∧Hid (t=zeL (dig N m) s∧(s=0∨zeL (dig N m) (s - 1)≠0))) (fun _ tv=>(intOf tv).toNat)
  case atStart=>exact⟨0,dig N m,by omega,by go_num,rfl,zuy ⟨(zh3 _).symm,.inl rfl⟩⟩
  case round=>
   obtain⟨s,t,hs,rfl,rfl,hH⟩:=hrel
   have htl:t<4294967296:=by have:=zqZ (dig N m) s;have:=hH.out.1;omega
   by_cases ht:t=0
   ·have HB:=zuy (zmf HM.out (by rw[←hH.out.1];exact ht) hH.out.2)
    subst ht
    go_wp2
    go_ret
    exact⟨by rw[HB.out];first|rfl|(refine zcT ?_;omega),hBl⟩
   ·have hs32:s<32:=zoQ hdl (by rw[←hH.out.1];exact ht)
    have HN:=zuy (show t/2=zeL (dig N m) (s+1)∧(s+1=0∨zeL (dig N m) (s+1 - 1)≠0)from⟨by rw[hH.out.1,zm4],.inr (by rw[Nat.add_sub_cancel,←hH.out.1];exact ht)⟩)
    have htp:0<t:=by omega
    clear ht
    go_wp2
    go_round
    case rel=>exact⟨s+1,t/2,by omega,by go_num,by go_num,HN⟩
    case measure=>simp[intOf];omega
end Go.Proofs.YtafokgknenienaaGreatDoor
