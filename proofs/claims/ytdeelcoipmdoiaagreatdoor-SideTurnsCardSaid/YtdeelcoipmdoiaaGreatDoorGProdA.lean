/- A part. -/
import Derived.Lib.Strings
import Derived.Lib.Slices
import Derived.Lib.Small
import Derived.Lib.Walk
import Derived.Lib.BitFns
import Derived.Laws.EntriesVeiled
import Derived.Test.YtdeelcoipmdoiaaGreatDoorGNatA
set_option maxHeartbeats 8000000
set_option maxRecDepth 100000
namespace Go.Proofs.YtdeelcoipmdoiaaGreatDoor
section
open Go
theorem zdo (w:World)(z:Int)(h0:0≤z)(h1:z≤255):(Instr.index 9 (.string Lib.len8tab) (.int .u8 z)).run Tryz.prog w= .ok (.int .u8 (Lib.len8 z)) w:=
 Lib.run_index_len8tab w 9 .u8 z Tryz.underlying9 h0 h1
theorem zo3 (w:World)(y:Int)(h0:0≤y)(h1:y≤4294967295)(c1:y<65536)(c2:y<256):
  Calls Tryz.prog 116 #[.int .u32 y] w fun e w'=>e= .returned (.int .i64 (Lib.bitLen y.toNat))∧w=w':=by
 have hx:=zdo w y (by omega) (by omega)
 have he:y.toNat=y.toNat:=by omega
 have hl:=Lib.bitLen_le8' y (by omega) (by omega)
 have hv:=Lib.len8_of y (by omega) (by omega)
 rw[he]at hl hv
 have HV:=zsi hv
 clear hv he
 go_enter Tryz.func116,Tryz.ntmps116
 go_wp2
 go_ret
 refine⟨congrArg Ending.returned (congrArg (Value.int IntKind.i64) ?_),rfl⟩
 rw[HV.out]
 simp only[RowKit.wrap64]
 omega
theorem zo4 (w:World)(y:Int)(h0:0≤y)(h1:y≤4294967295)(c1:y<65536)(c2: ¬y<256):
  Calls Tryz.prog 116 #[.int .u32 y] w fun e w'=>e= .returned (.int .i64 (Lib.bitLen y.toNat))∧w=w':=by
 have hx:=zdo w (y/256) (by omega) (by omega)
 have he:(y/256).toNat=y.toNat/256:=by omega
 have hl:=Lib.bitLen_le8' (y/256) (by omega) (by omega)
 have hv:=Lib.len8_of (y/256) (by omega) (by omega)
 rw[he]at hl hv
 have HS:=zsi (Lib.bitLen_shift8 y.toNat (by omega) (by omega))
 have HV:=zsi hv
 clear hv he
 go_enter Tryz.func116,Tryz.ntmps116
 go_wp2
 go_ret
 refine⟨congrArg Ending.returned (congrArg (Value.int IntKind.i64) ?_),rfl⟩
 rw[HV.out,HS.out]
 simp only[RowKit.wrap64]
 omega
theorem zo5 (w:World)(y:Int)(h0:0≤y)(h1:y≤4294967295)(c1: ¬y<65536)(c2:y/65536<256):
  Calls Tryz.prog 116 #[.int .u32 y] w fun e w'=>e= .returned (.int .i64 (Lib.bitLen y.toNat))∧w=w':=by
 have hx:=zdo w (y/65536) (by omega) (by omega)
 have he:(y/65536).toNat=y.toNat/65536:=by omega
 have hl:=Lib.bitLen_le8' (y/65536) (by omega) (by omega)
 have hv:=Lib.len8_of (y/65536) (by omega) (by omega)
 rw[he]at hl hv
 have HS:=zsi (Lib.bitLen_shift16 y.toNat (by omega) (by omega))
 have HV:=zsi hv
 clear hv he
 go_enter Tryz.func116,Tryz.ntmps116
 go_wp2
 go_ret
 refine⟨congrArg Ending.returned (congrArg (Value.int IntKind.i64) ?_),rfl⟩
 rw[HV.out,HS.out]
 simp only[RowKit.wrap64]
 omega
theorem zo6 (w:World)(y:Int)(h0:0≤y)(h1:y≤4294967295)(c1: ¬y<65536)(c2: ¬y/65536<256):
  Calls Tryz.prog 116 #[.int .u32 y] w fun e w'=>e= .returned (.int .i64 (Lib.bitLen y.toNat))∧w=w':=by
 have hx:=zdo w (y/65536/256) (by omega) (by omega)
 have he:(y/65536/256).toNat=y.toNat/16777216:=by omega
 have hl:=Lib.bitLen_le8' (y/65536/256) (by omega) (by omega)
 have hv:=Lib.len8_of (y/65536/256) (by omega) (by omega)
 rw[he]at hl hv
 have HS:=zsi (Lib.bitLen_shift24 y.toNat (by omega) (by omega))
 have HV:=zsi hv
 clear hv he
 go_enter Tryz.func116,Tryz.ntmps116
 go_wp2
 go_ret
 refine⟨congrArg Ending.returned (congrArg (Value.int IntKind.i64) ?_),rfl⟩
 rw[HV.out,HS.out]
 simp only[RowKit.wrap64]
 omega
theorem zlI (w:World)(y:Int)(h0:0≤y)(h1:y≤4294967295):
  Calls Tryz.prog 116 #[.int .u32 y] w fun e w'=>e= .returned (.int .i64 (Lib.bitLen y.toNat))∧w=w':=by
 by_cases c1:y<65536
 ·by_cases c2:y<256
  ·exact zo3 w y h0 h1 c1 c2
  ·exact zo4 w y h0 h1 c1 c2
 ·by_cases c2:y/65536<256
  ·exact zo5 w y h0 h1 c1 c2
  ·exact zo6 w y h0 h1 c1 c2
end
section
open Go Go.RowKit
theorem zbU (w:World)(hi:Nat)(A:Option Addr)(n c N:Nat)(h:Rd w hi A n N)(hn:n≤c)(hc:c≤9223372036854775807):
  Calls Tryz.prog 115 #[.slice A n c] w fun e w'=>e= .returned (.slice (zer N A) (lenL N) (lenL N))∧w=w':=by
 go_enter Tryz.func115,Tryz.ntmps115
 go_wp2
 go_loop [3] (fun i=>∃k:Nat,k≤n∧i= .int .i64 k∧Hid (N<Bw^k)) (fun i=>(intOf i).toNat)
 case atStart=>exact⟨n,Nat.le_refl _,rfl,zsi h.1⟩
 case round=>
  obtain⟨k,hk,rfl,hN⟩:=hrel
  rcases zsr k with rfl|hpos
  ·have h0:N=0:=by simpa using hN.out
   subst h0
   go_wp2
   go_ret
   exact⟨rfl,rfl⟩
  ·obtain⟨j,rfl⟩:∃j,k=j+1:=⟨k - 1,by omega⟩
   obtain⟨ad,rfl,_,hcell⟩:=h.at_ (k:=j) (by omega)
   by_cases hd:dig N j=0
   ·rw[hd]at hcell
    go_wp2
    go_round
    case rel=>exact⟨j,by omega,by go_num,zsi (zcU hN.out hd)⟩
    case measure=>simp[intOf]
   ·have hb:((dig N j:Int)==0)=false:=by simpa using hd
    have hlen:=zsi (zhv hN.out hd)
    have hN0: ¬N=0:=fun h0=>hd (by rw[h0];exact zbm j)
    clear hd
    go_wp2
    go_ret
    exact⟨by rw[hlen.out,zdb hN0];rfl,rfl⟩
theorem zge (w:World)(k:Int)(m:Nat)(hk: -9223372036854775808≤k∧k≤9223372036854775807)(hm:m≤1000000):
  Calls Tryz.prog 174 #[.int .i64 k,.int .i64 m] w fun e w'=>e= .returned (.int .i64 (min k.toNat m:Nat))∧w=w':=by
 by_cases h0:k<0
 ·have HV:=zsi (show min k.toNat m=0 by omega)
  go_enter Tryz.func174,Tryz.ntmps174
  go_wp2
  go_ret
  exact⟨by rw[HV.out];first|rfl|(refine zcD ?_;omega),rfl⟩
 ·obtain⟨K,rfl⟩:=Int.eq_ofNat_of_zero_le (show 0≤k by omega)
  by_cases h1:K≤m
  ·go_enter Tryz.func174,Tryz.ntmps174
   go_wp2
   go_ret
   exact⟨by refine zcD ?_;omega,rfl⟩
  ·go_enter Tryz.func174,Tryz.ntmps174
   go_wp2
   go_ret
   exact⟨by refine zcD ?_;omega,rfl⟩
def digI (N:Nat)(i:Int):Nat:=if i<0 then 0 else dig N i.toNat
theorem zkR (N:Nat)(i:Int):digI N i<4294967296:=by
 unfold digI
 split
 ·omega
 ·exact zar _ _
theorem zfz (w:World)(hi:Nat)(A:Option Addr)(n c N:Nat)(h:Rd w hi A n N)(i:Int):
  Calls Tryz.prog 183 #[.slice A n c,.int .i64 i] w fun e w'=>e= .returned (.int .u32 (digI N i:Nat))∧w=w':=by
 by_cases h0:i<0
 ·have HV:=zsi (show digI N i=0 from if_pos h0)
  rw[HV.out]
  go_enter Tryz.func183,Tryz.ntmps183
  go_wp2
  go_ret
  exact⟨rfl,rfl⟩
 ·obtain⟨k,rfl⟩:=Int.eq_ofNat_of_zero_le (show 0≤i by omega)
  have HV:=zsi (show digI N (k:Int)=dig N k by unfold digI;rw[if_neg h0,Int.toNat_natCast])
  rw[HV.out]
  clear h0
  by_cases hk:k<n
  ·obtain⟨ad,rfl,_,hc⟩:=h.at_ hk
   go_enter Tryz.func183,Tryz.ntmps183
   go_wp2
   go_ret
   exact⟨rfl,rfl⟩
  ·have hd:=zbp h.1 (by omega:n≤k)
   rw[hd]
   go_enter Tryz.func183,Tryz.ntmps183
   go_wp2
   go_ret
   exact⟨rfl,rfl⟩
theorem zlJ {a b c d:Int}(h1:a=c)(h2:b=d):Ending.returned (.tuple #[.int .u32 a,.int .u32 b])= .returned (.tuple #[.int .u32 c,.int .u32 d]):=by rw[h1,h2]
theorem zfc (w:World)(x y z:Nat)(hx:x<4294967296)(hy:y<4294967296)(hz:z≤1):
  Calls Tryz.prog 166 #[.int .u32 x,.int .u32 y,.int .u32 z] w fun e w'=>e= .returned (.tuple #[.int .u32 ((x+y+z)%4294967296:Nat),.int .u32 ((x+y+z)/4294967296:Nat)])∧w=w':=by
 go_enter Tryz.func166,Tryz.ntmps166
 go_wp2
 go_ret2
 exact⟨by refine zlJ ?_ ?_ <;> omega,rfl⟩
theorem zlK:∀(k x:Nat),x<2^k→k≤64→Lib.bitLen x=bitsN x:=by
 intro k
 induction k with
 |zero=>
  intro x hx _
  obtain rfl:x=0:=by simp at hx;exact hx
  decide
 |succ k ih=>
  intro x hx hk
  by_cases h0:x=0
  ·subst h0;decide
  ·have h64:x<2^64:=zsn hx (zsp (by omega) hk)
   rw[Lib.bitLen_half x h0 h64,ih (x/2) (by rw[Nat.pow_succ]at hx;omega) (by omega)]
   unfold bitsN
   rw[if_neg h0]
   have:=Nat.log2_def x
   split
   ·next h=>rw[this,if_neg (by omega)]
   ·next h=>rw[this,if_pos (by omega)];omega
theorem zg2 (w:World)(x:Nat)(h1:x<4294967296):
  Calls Tryz.prog 116 #[.int .u32 x] w fun e w'=>e= .returned (.int .i64 (bitsN x:Nat))∧w=w':=by
 have h:=zlI w (x:Int) (by omega) (by omega)
 rwa [Int.toNat_natCast,zlK 32 x (by omega) (by omega)]at h
theorem zg3 {N m:Nat}(hm:lenL N=m+1):bitsN N=32*m+bitsN (dig N m):=by
 have hd:=zfN hm
 have e:bitsN (dig N m)=(dig N m).log2+1:=if_neg hd
 rw[e]
 refine zoV hm ?_ (.inr ?_)
 ·exact Nat.div_eq_of_lt ((Nat.log2_lt hd).1 (by omega))
 ·rw[Nat.add_sub_cancel]
  unfold zjP
  have:=Nat.div_pos (Nat.log2_self_le hd) (zss (dig N m).log2)
  omega
theorem zev {d:Nat}(h:d<4294967296):bitsN d≤32:=zaD.2 (by omega)
theorem zcc (w:World)(hi:Nat)(A:Option Addr)(n c N:Nat)(h:Rd w hi A n N)(hn:n≤c)(hc:c≤maxLen)(hb:n≤35184372087808):
  Calls Tryz.prog 99 #[.slice A n c] w fun e w'=>e= .returned (.int .i64 (bitsN N:Nat))∧w=w':=by
 have hl:=zai.2 h.1
 have hc:c≤9223372036854775807:=by simpa[maxLen]using hc
 rcases zsr (lenL N)with h0|h0
 ·have hN0:=zsi (zbt.1 h0)
  have E:=zsi (zbU w hi A n c N h hn hc)
  rw[h0]at E
  clear h0
  go_enter Tryz.func99,Tryz.ntmps99
  go_wp2_with (go_at_call 115;refine E.out.mono ?_;rintro e w' ⟨rfl,rfl⟩)
  go_ret
  exact⟨by rw[hN0.out];rfl,rfl⟩
 ·obtain⟨m,hm⟩:∃m,lenL N=m+1:=⟨lenL N - 1,by omega⟩
  have E:=zsi (zbU w hi A n c N h hn hc)
  have hN0: ¬N=0:=fun e=>by rw[e,zaT]at hm;omega
  obtain⟨ad,rfl,_,hcl⟩:=h.at_ (k:=m) (by omega)
  have HB:=zsi (zg3 hm)
  have hd:=zar N m
  have hle:=zev hd
  rw[zdb hN0,hm]at E
  rw[hm]at hl
  clear hm h0 hN0
  go_enter Tryz.func99,Tryz.ntmps99
  go_wp2_with (first
   |(go_at_call 115;refine E.out.mono ?_;rintro e w' ⟨rfl,rfl⟩)
   |(go_at_call 116;refine(zg2 w _ hd).mono ?_;rintro e w' ⟨rfl,rfl⟩))
  go_ret
  exact⟨by rw[HB.out];refine zcD ?_;omega,rfl⟩
end
section
open Go Go.RowKit
attribute [local go_sem] Oper.semAt_some
theorem znv (A:Option Addr)(n c:Nat)(w:World):
  CallsIn Fence.wide 0 Tryz.prog 147 #[.slice A n c] w fun e w'=>
   e= .returned (.func (.func 164) #[] #[.pointer (some ⟨w.heap.size,0,none⟩)])∧w'=w.alloc (.cells #[.slice A n c] 23):=by
 refine callsIn_wide.2 ?_
 go_enter Tryz.func147,Tryz.ntmps147
 go_wp2
 go_ret
 exact⟨rfl,rfl⟩
def Src (b hi:Nat)(A:Option Addr)(n c M:Nat)(W:World):Prop:=W.cell? ⟨b,0,none⟩=some (.slice A n c)∧Rd W hi A n M
theorem zhM (b hi:Nat)(A:Option Addr)(n c M:Nat)(hn:n≤9223372036854775806)(I:Nat→World→Prop)(hI:∀s W,I s W→Src b hi A n c M W)(F:Fence)(hF:F=Fence.wide):
  zei F 9 Tryz.prog 164 #[.pointer (some ⟨b,0,none⟩)] (fun x:Nat×Nat=> #[.int .i64 (x.1:Nat),.int .u32 (x.2:Nat)])
   (fun s x=>s≤x.1∧x.1<n∧x.2=dig M x.1∧∀j,s≤j→j<x.1→dig M j=0) (fun _ x=>x.1+1) 0 (fun s=>∀j,s≤j→j<n→dig M j=0) (fun _=>True) I:=by
 subst hF
 intro l J Jx W hJI hJ hJx hY h0
 obtain⟨hb1,_⟩:=hI _ _ (hJI _ _ h0)
 refine callsIn_of_wp Tryz.func164 rfl trivial ?_ rfl
 simp only[Tryz.ntmps164,List.size_toArray,List.length_cons,List.length_nil,Nat.reduceAdd,Nat.reduceSub,Array.replicate_succ,Array.replicate_zero,List.push_toArray,List.append_toArray,List.nil_append,List.cons_append]
 gi_wp2
 gi_loopw [7] (fun i wr=>∃k s:Nat,k≤n∧i= .int .i64 k∧s≤k∧Hid (∀j,s≤j→j<k→dig M j=0)∧J s wr) (fun i _=>n - (intOf i).toNat)
 case atStart=>exact⟨0,0,Nat.zero_le _,rfl,Nat.le_refl _,zsi (fun j _ h=>by omega),h0⟩
 case round=>
  obtain⟨k,s,hk,rfl,hsk,hz,hJs⟩:=hrel
  obtain⟨hc1,hR⟩:=hI _ _ (hJI _ _ hJs)
  by_cases hlt:k<n
  ·obtain⟨ad,rfl,_,hcw⟩:=hR.at_ hlt
   have hx:=zar M k
   by_cases hd:dig M k=0
   ·have HD:=zsi hd
    rw[hd]at hcw
    clear hd
    gi_wp2
    refine⟨fun f e=>(by cases e),?_⟩
    gi_wp2
    go_roundw
    case rel=>exact⟨k+1,s,by omega,by go_num,by omega,zsi (fun j h1 h2=>by
     rcases zsq j k with h3|h3
     ·exact hz.out j h1 h3
     ·obtain rfl:j=k:=by omega
      exact HD.out),hJs⟩
    case measure=>simp[intOf];omega
   ·have hb:((dig M k:Int)==0)=false:=by simpa using hd
    obtain⟨fn,tmps,assign,body,hy,hRd⟩:=hY s (k,dig M k) wr hJs ⟨hsk,hlt,rfl,hz.out⟩
    dsimp only at hy
    have hb2:((dig M k:Int) != 0)=true:=by simpa using hd
    have hb3: ¬((dig M k:Int)=0):=by omega
    clear hd
    gi_wp2
    refine hRd.mono ?_
    rintro e W3 ⟨b,rfl,hb1,hb2⟩
    have g1:=zsi hb1
    have g2:=zsi hb2
    clear hb1 hb2
    cases b
    ·gi_wp2
     refine bodyPost_ret (results_none rfl _ _ _) rfl ?_
     exact⟨⟨_,rfl⟩,.inr ⟨k+1,(by first|exact⟨trivial,g2.out (by first|rfl|trivial)⟩|exact g2.out (by first|rfl|trivial))⟩⟩
    ·gi_wp2
     go_roundw
     case rel=>exact⟨k+1,k+1,by omega,by go_num,Nat.le_refl _,zsi (fun j h1 h2=>by omega),g1.out (by first|rfl|trivial)⟩
     case measure=>simp[intOf];omega
  ·obtain rfl:k=n:=by omega
   gi_wp2
   go_end0
   exact⟨⟨_,rfl⟩,.inl ⟨s,hz.out,hJs⟩⟩
theorem zlL (A:Option Addr)(n c m:Nat)(w:World):
  CallsIn Fence.wide 0 Tryz.prog 149 #[.slice A n c,.int .i64 m] w fun e w'=>
   e= .returned (.func (.func 165) #[] #[.pointer (some ⟨w.heap.size,0,none⟩),.pointer (some ⟨w.heap.size+1,0,none⟩)])∧w'=(w.alloc (.cells #[.slice A n c] 23)).alloc (.cells #[.int .i64 m] 3):=by
 refine callsIn_wide.2 ?_
 go_enter Tryz.func149,Tryz.ntmps149
 go_wp2
 go_ret
 exact⟨rfl,rfl⟩
def zgf (A:Option Addr)(n c m s:Nat):Value:= .slice (A.map fun ad=>ad.add s) (min (s+m) n - s) (c - s)
theorem zgE (b hi:Nat)(A:Option Addr)(n c m M:Nat)(hn:n≤1000000000000)(hm:m≤1000000000000)(hm0:0<m)(hnc:n≤c)(hc:c≤9223372036854775807)(I:Nat→World→Prop)(hI:∀s W,I s W→Src b hi A n c M W∧W.cell? ⟨b+1,0,none⟩=some (.int .i64 m))(F:Fence)(hF:F=Fence.wide):
  zei F 9 Tryz.prog 165 #[.pointer (some ⟨b,0,none⟩),.pointer (some ⟨b+1,0,none⟩)] (fun x:Nat=> #[.int .i64 (x:Nat),zgf A n c m x])
   (fun s x=>x=s∧s<n) (fun s _=>s+m) 0 (fun s=>n≤s) (fun _=>True) I:=by
 subst hF
 intro l J Jx W hJI hJ hJx hY h0
 obtain⟨⟨hb1,_⟩,hb2⟩:=hI _ _ (hJI _ _ h0)
 refine callsIn_of_wp Tryz.func165 rfl trivial ?_ rfl
 simp only[Tryz.ntmps165,List.size_toArray,List.length_cons,List.length_nil,Nat.reduceAdd,Nat.reduceSub,Array.replicate_succ,Array.replicate_zero,List.push_toArray,List.append_toArray,List.nil_append,List.cons_append]
 gi_wp2
 gi_loopw [4] (fun i wr=>∃k:Nat,k≤n+m∧i= .int .i64 k∧J k wr) (fun i _=>n+m - (intOf i).toNat)
 case atStart=>exact⟨0,Nat.zero_le _,rfl,h0⟩
 case round=>
  obtain⟨k,hk,rfl,hJs⟩:=hrel
  obtain⟨⟨hc1,hR⟩,hc2⟩:=hI _ _ (hJI _ _ hJs)
  by_cases hlt:k<n
  ·obtain⟨ad,rfl,_,hcw⟩:=hR.at_ hlt
   obtain⟨fn,tmps,assign,body,hy,hRd⟩:=hY k k wr hJs ⟨rfl,hlt⟩
   dsimp only[zgf,Option.map_some]at hy
   by_cases hkm:k+m≤n
   ·obtain⟨p,hp⟩:∃p,k+m=p:=⟨_,rfl⟩
    have hpi:(k:Int)+(m:Int)=(p:Int):=by omega
    have hq1:k≤p:=by omega
    have hq2:p≤n:=by omega
    rw[show min (k+m) n=p by omega]at hy
    have HP:=zsi hp
    clear hp hcw hkm
    gi_wp2
    refine hRd.mono ?_
    rintro e W3 ⟨b,rfl,hb1,hb2⟩
    have g1:=zsi hb1
    have g2:=zsi hb2
    clear hb1 hb2
    cases b
    ·gi_wp2
     refine bodyPost_ret (results_none rfl _ _ _) rfl ?_
     exact⟨⟨_,rfl⟩,.inr ⟨_,(by first|exact⟨trivial,g2.out (by first|rfl|trivial)⟩|exact g2.out (by first|rfl|trivial))⟩⟩
    ·obtain⟨⟨hd1,_⟩,hd2⟩:=hI _ _ (hJI _ _ (g1.out (by first|rfl|trivial)))
     gi_wp2
     go_roundw
     case rel=>exact⟨k+m,by omega,by rw[HP.out],g1.out (by first|rfl|trivial)⟩
     case measure=>have:=HP.out;simp[intOf];omega
   ·have hki:(n:Int)<(k:Int)+(m:Int):=by omega
    rw[show min (k+m) n=n by omega]at hy
    clear hcw hkm
    gi_wp2
    refine hRd.mono ?_
    rintro e W3 ⟨b,rfl,hb1,hb2⟩
    have g1:=zsi hb1
    have g2:=zsi hb2
    clear hb1 hb2
    cases b
    ·gi_wp2
     refine bodyPost_ret (results_none rfl _ _ _) rfl ?_
     exact⟨⟨_,rfl⟩,.inr ⟨_,(by first|exact⟨trivial,g2.out (by first|rfl|trivial)⟩|exact g2.out (by first|rfl|trivial))⟩⟩
    ·obtain⟨⟨hd1,_⟩,hd2⟩:=hI _ _ (hJI _ _ (g1.out (by first|rfl|trivial)))
     gi_wp2
     go_roundw
     case rel=>exact⟨k+m,by omega,by go_num,g1.out (by first|rfl|trivial)⟩
     case measure=>simp[intOf];omega
  ·have hS:n≤k:=by omega
   gi_wp2
   go_end0
   exact⟨⟨_,rfl⟩,.inl ⟨k,hS,hJs⟩⟩
end
section
open Go Go.RowKit
theorem wrote (W:World)(g p:Nat)(u:Value):W.grownBy (W.setCell ⟨g,p,none⟩ u) (some g):=
 ⟨rfl,rfl,rfl,(KeepsWalks.setCell W _ u).size,fun k _ hk=>Below.heap_setCell _ _ _ k (fun e=>hk (by rw[e]))⟩
theorem Rd.grown {W W':World}{hi g n N:Nat}{A:Option Addr}(h:Rd W hi A n N)(hg:W.grownBy W' (some g))(hne:hi≤g)(hlt:hi≤W.heap.size):Rd W' hi A n N:=
 h.keep fun p hp=>World.cell?_of_block (hg.block _ (by omega) (by intro e;cases e;omega))
theorem zaK {W W':World}{g:Nat}(hg:W.grownBy W' (some g))(hlt:g≤W.heap.size):Below g W W':=⟨hg.os,hg.tape,hg.output,hg.size,fun k hk=>hg.block k (by omega) (by simp;omega)⟩
theorem zjU (w:World)(g n i m c1 n' c' O M d:Nat)(A':Option Addr)(hb:Buf w g n O)(hO:O<Bw^(i+n'))(hin:i+n'+1≤n)(hc1:n'+1≤c1)(hc2:c1≤9223372036854775807)(hnb:n≤9223372036854775807)(h':Rd w g A' n' M)(hg:g<w.heap.size)(hd:d<4294967296):
  Calls Tryz.prog 148 #[.slice (some ⟨g,i,none⟩) m c1,.slice A' n' c',.int .u32 d] w fun e w'=>
   (∃v,e= .returned v)∧w.grownBy w' (some g)∧Buf w' g n (O+d*Bw^i*M):=by
 have HY:=zsi h'.1
 have HO:=zsi hO
 have HB:=zsi hb
 clear hb hO
 go_enter Tryz.func148,Tryz.ntmps148
 go_wp2
 go_loopw [6,16] (fun ov kk wi=>∃j v:Nat,j≤n'∧kk= .int .i64 j∧ov= .int .u64 v∧v<4294967296∧w.grownBy wi (some g)∧Hid (∃O',Buf wi g n O'∧O'<Bw^(i+n')∧O'+v*Bw^(i+j)=O+d*Bw^i*(M%Bw^j))) (fun _ kk _=>n' - (intOf kk).toNat)
 case atStart=>exact⟨0,0,Nat.zero_le _,rfl,rfl,by omega,World.grownBy.refl _ _,zsi ⟨O,HB.out,HO.out,by simp[Nat.mod_one]⟩⟩
 case round=>
  obtain⟨j,v,hj,rfl,rfl,hv,hG,hOi⟩:=hrel
  obtain⟨P,o1,o2,o3⟩:=hOi.out
  by_cases hjt:j<n'
  ·have hR:=h'.grown hG zsk (by omega)
   obtain⟨ad',rfl,hadb',hcw'⟩:=hR.at_ hjt
   obtain⟨p,hp⟩:∃p,i+j=p:=⟨_,rfl⟩
   have hpl:p<n:=by omega
   obtain⟨hc3,hc4⟩:=o1 p hpl
   have hc1':=hc3
   have d2:=zar M j
   have d3:=zar P p
   have dm:dig M j*d≤4294967295*4294967295:=Nat.mul_le_mul (by omega) (by omega)
   obtain⟨x,hx⟩:∃x,x=d*dig M j+dig P p+v:=⟨_,rfl⟩
   have hxi:((v:Int)+((dig M j:Int)*(d:Int)+(dig P p:Int)))=(x:Int):=by rw[hx,Nat.mul_comm];simp;omega
   have hm0:0≤(dig M j:Int)*(d:Int):=by rw[←Int.natCast_mul];omega
   have hm1:(dig M j:Int)*(d:Int)≤18446744065119617025:=by rw[←Int.natCast_mul];omega
   have hxb:x<18446744073709551616:=by rw[Nat.mul_comm]at hx;omega
   have hv':x/4294967296<4294967296:=by omega
   have HP:=zsi hp
   have HX0:=zsi hx
   have O1:=zsi o1
   have O2:=zsi o2
   have O3:=zsi o3
   clear hx dm o1 o2 o3 hc1'
   obtain⟨P',b1,b2,b3⟩:=O1.out.set (p:=p) (x:=x%4294967296) O2.out (by have:=HP.out;omega) (Nat.mod_lt _ (by omega))
   have HN:=zsi (zeI HX0.out b3 HP.out.symm (by rw[HP.out]at O3;exact O3.out))
   have hce:((x:Int)%4294967296)=((x%4294967296:Nat):Int):=by omega
   have hce2:((x:Int)/4294967296)=((x/4294967296:Nat):Int):=by omega
   rw[←hce]at b1
   have HB1:=zsi b1
   have HB2:=zsi b2
   have HG:=zsi (hG.trans (wrote wr g p (.int .u32 ((x:Int)%4294967296))))
   have HC:=zsi hce2
   clear b1 b2 b3 hce hce2
   go_wp2
   go_roundw
   case rel=>exact⟨j+1,x/4294967296,by omega,by go_num,by rw[HC.out],hv',HG.out,zsi ⟨P',HB1.out,HB2.out,by have:=HN.out;rwa [←HP.out]at this⟩⟩
   case measure=>simp[intOf];omega
  ·obtain rfl:j=n':=by omega
   obtain⟨p,hp⟩:∃p,i+j=p:=⟨_,rfl⟩
   have hpl:p<n:=by omega
   obtain⟨hc3,hc4⟩:=o1 p hpl
   obtain⟨P',b1,b2,b3⟩:=o1.set (m:=p+1) (p:=p) (x:=v) (zat o2 (by omega)) (by omega) hv
   rw[zbp o2 (by omega:i+j≤p),Nat.zero_mul,Nat.add_zero]at b3
   have HN:=zsi (show P'=O+d*Bw^i*M by rw[b3,←hp,o3,zbv HY.out])
   have hw:(v:Int)%4294967296=(v:Int):=by omega
   have HB1:=zsi b1
   have HG:=zsi (hG.trans (wrote wr g p (.int .u32 (v:Int))))
   have HP:=zsi hp
   clear b1 b2 b3 o1 o2 o3
   go_wp2
   go_end0
   refine⟨⟨_,rfl⟩,HG.out,?_⟩
   rw[←HN.out]
   exact HB1.out
def Rn (W:World)(g:Nat)(A:Option Addr)(n N:Nat):Prop:=
 N<Bw^n∧(0<n→∃ad:Addr,A=some ad∧ad.block≠g∧∀j,j<n→W.cell? (ad.add j)=some (.int .u32 (dig N j:Nat)))
theorem Rn.grown {W W':World}{g n N:Nat}{A:Option Addr}(h:Rn W g A n N)(hg:W.grownBy W' (some g)):Rn W' g A n N:=
 ⟨h.1,fun hn=>by
  obtain⟨ad,e,hb,hc⟩:=h.2 hn
  exact⟨ad,e,hb,fun j hj=>hg.cell (hc j hj) (by rw[zaJ];intro e;injection e;omega)⟩⟩
theorem Rn.at_ {W:World}{g n N k:Nat}{A:Option Addr}(h:Rn W g A n N)(hk:k<n):∃ad:Addr,A=some ad∧ad.block≠g∧W.cell? (ad.add k)=some (.int .u32 (dig N k:Nat)):=by
 obtain⟨ad,e,hb,hc⟩:=h.2 (by omega)
 exact⟨ad,e,hb,hc k hk⟩
theorem Rd.rn {W:World}{hi g n N:Nat}{A:Option Addr}(h:Rd W hi A n N)(hg:hi≤g):Rn W g A n N:=
 ⟨h.1,fun hn=>by
  obtain⟨ad,e,hb,hc⟩:=h.2 hn
  exact⟨ad,e,by omega,hc⟩⟩
theorem Fr.rn {W:World}{lo hi g n N:Nat}{A:Option Addr}(h:Fr W lo hi A n N)(hg:g<lo):Rn W g A n N:=
 ⟨h.1,fun hn=>by
  obtain⟨q,e,hl,hb,hc⟩:=h.2 hn
  exact⟨_,e,by simp;omega,fun j hj=>by rw[zaO];exact(hc j hj).1⟩⟩
theorem zrp {a b:Int}(h:a=b):Value.int .i64 a= .int .i64 b:=by rw[h]
theorem znw {O v n T q:Nat}(h:O+v*Bw^q=T)(hT:T<Bw^n)(hv:0<v):q<n:=by
 rcases zsq q n with h1|h1
 ·exact h1
 ·have:Bw^n≤Bw^q:=zsp zbG h1
  have:Bw^q≤v*Bw^q:=Nat.le_mul_of_pos_left _ hv
  omega
theorem zd2 (w:World)(g n c i n' c' O M:Nat)(A':Option Addr)(hb:Buf w g n O)(hT:O+Bw^i*M<Bw^n)(hin:i+n'≤n)(_hc2:c≤9223372036854775807)(hnb:n≤9223372036854775806)(h':Rn w g A' n' M)(_hg:g<w.heap.size):
  Calls Tryz.prog 150 #[.slice (some ⟨g,0,none⟩) n c,.slice A' n' c',.int .i64 i] w fun e w'=>
   (∃v,e= .returned v)∧w.grownBy w' (some g)∧Buf w' g n (O+Bw^i*M):=by
 have HY:=zsi h'.1
 have HT:=zsi hT
 have HB:=zsi hb
 clear hb hT
 go_enter Tryz.func150,Tryz.ntmps150
 go_wp2
 go_loopw [2,6,11] (fun pv ov kk wi=>∃j v:Nat,j≤n'∧kk= .int .i64 j∧pv= .int .i64 (i+j:Nat)∧ov= .int .u32 v∧v≤1∧w.grownBy wi (some g)∧Hid (∃O',Buf wi g n O'∧O'+v*Bw^(i+j)=O+1*Bw^i*(M%Bw^j))) (fun _ _ kk _=>n' - (intOf kk).toNat)
 case atStart=>exact⟨0,0,Nat.zero_le _,rfl,rfl,rfl,by omega,World.grownBy.refl _ _,zsi ⟨O,HB.out,by simp[Nat.mod_one]⟩⟩
 case round=>
  obtain⟨j,v,hj,rfl,rfl,rfl,hv,hG,hOi⟩:=hrel
  obtain⟨P,o1,o3⟩:=hOi.out
  have hPT:O+1*Bw^i*(M%Bw^j)<Bw^n:=by
   have h1:=Nat.mul_le_mul_left (Bw^i) (Nat.mod_le M (Bw^j))
   have:=HT.out
   rw[Nat.one_mul];omega
  have hP:P<Bw^n:=by omega
  by_cases hjt:j<n'
  ·obtain⟨ad',rfl,hadb',hcw'⟩:=(h'.grown hG).at_ hjt
   obtain⟨p,hp⟩:∃p,i+j=p:=⟨_,rfl⟩
   have hpl:p<n:=by omega
   obtain⟨hc3,hc4⟩:=o1 p hpl
   have d2:=zar M j
   have d3:=zar P p
   obtain⟨x,hx⟩:∃x,x=1*dig M j+dig P p+v:=⟨_,rfl⟩
   have hxb:x<8589934592:=by omega
   have hv':x/4294967296≤1:=by omega
   have E:=zsi (fun W=>zfc W (dig P p) (dig M j) v d3 d2 hv)
   rw[show dig P p+dig M j+v=x by omega]at E
   obtain⟨P',b1,b2,b3⟩:=o1.set (p:=p) (x:=x%4294967296) hP hpl (Nat.mod_lt _ (by omega))
   have HN:=zsi (zeI hx b3 hp.symm (by rw[hp]at o3;exact o3))
   obtain⟨lo,hlo⟩:∃lo,x%4294967296=lo:=⟨_,rfl⟩
   obtain⟨cy,hcy⟩:∃cy,x/4294967296=cy:=⟨_,rfl⟩
   rw[hlo]at b1 E
   rw[hcy]at hv' HN E
   have HB1:=zsi b1
   have HG:=zsi (hG.trans (wrote wr g p (.int .u32 (lo:Nat))))
   have HP:=zsi hp
   rw[hp]
   have hpi:p≤9223372036854775805:=by omega
   clear hx b1 b2 b3 hxb o1 o3 hPT hP hlo hcy
   go_wp2_with (go_at_call 166;refine(E.out _).mono ?_;rintro e w' ⟨rfl,rfl⟩)
   go_roundw
   case rel=>exact⟨j+1,cy,by omega,by go_num,by have:=HP.out;refine zrp ?_;omega,rfl,hv',HG.out,zsi ⟨P',HB1.out,by have:=HN.out;rwa [←HP.out]at this⟩⟩
   case measure=>simp[intOf];omega
  ·obtain rfl:j=n':=by omega
   rw[zbv HY.out,Nat.one_mul]at o3 hPT
   have HO3:=zsi o3
   have HO1:=zsi o1
   clear hPT o3 o1 hP
   go_wp2
   obtain⟨T,hT⟩:∃T,O+Bw^i*M=T:=⟨_,rfl⟩
   rw[hT]at HT HO3
   have HE:=zsi hT
   clear hT
   go_loopw [2,6] (fun pv ov wi=>∃p v:Nat,p≤n∧pv= .int .i64 p∧ov= .int .u32 v∧v≤1∧w.grownBy wi (some g)∧Hid (∃O',Buf wi g n O'∧O'+v*Bw^p=T)) (fun pv _ _=>n - (intOf pv).toNat)
   case atStart=>exact⟨i+j,v,by omega,rfl,rfl,hv,hG,zsi ⟨P,HO1.out,HO3.out⟩⟩
   case round=>
    obtain⟨p,v,hp,rfl,rfl,hv,hG,hOi⟩:=hrel
    obtain⟨P,o1,o3⟩:=hOi.out
    have hP:P<Bw^n:=by have:=HT.out;omega
    rcases zsr v with h0|h0
    ·subst h0
     rw[Nat.zero_mul,Nat.add_zero]at o3
     have HO3:=zsi o3
     have HO1:=zsi o1
     clear o3 o1 hP
     go_wp2
     go_end0
     refine⟨⟨_,rfl⟩,hG,?_⟩
     rw[HE.out,←HO3.out]
     exact HO1.out
    ·have hpl:p<n:=znw o3 HT.out h0
     obtain⟨hc3,hc4⟩:=o1 p hpl
     have d3:=zar P p
     obtain⟨x,hx⟩:∃x,x=1*dig 0 0+dig P p+v:=⟨_,rfl⟩
     have hx':dig P p+0+v=x:=by rw[hx,zbm];omega
     have hv':x/4294967296≤1:=by omega
     have E:=zsi (fun W=>zfc W (dig P p) 0 v d3 (by omega) hv)
     rw[hx']at E
     obtain⟨P',b1,b2,b3⟩:=o1.set (p:=p) (x:=x%4294967296) hP hpl (Nat.mod_lt _ (by omega))
     have HN:=zsi (zeI (k:=0) (i:=p) (p:=p) hx b3 rfl (show P+v*Bw^p=T+1*Bw^p*(0%Bw^0) by rw[Nat.zero_mod,Nat.mul_zero,Nat.add_zero];exact o3))
     rw[Nat.zero_mod,Nat.mul_zero,Nat.add_zero]at HN
     obtain⟨lo,hlo⟩:∃lo,x%4294967296=lo:=⟨_,rfl⟩
     obtain⟨cy,hcy⟩:∃cy,x/4294967296=cy:=⟨_,rfl⟩
     rw[hlo]at b1 E
     rw[hcy]at hv' HN E
     have HB1:=zsi b1
     have HG:=zsi (hG.trans (wrote wr g p (.int .u32 (lo:Nat))))
     have hpi:p≤9223372036854775805:=by omega
     have hvi:(0:Int)<(v:Int):=by omega
     clear hx hx' b1 b2 b3 o1 o3 hP hlo hcy
     go_wp2_with (go_at_call 166;refine(E.out _).mono ?_;rintro e w' ⟨rfl,rfl⟩)
     go_roundw
     case rel=>exact⟨p+1,cy,by omega,by go_num,rfl,hv',HG.out,zsi ⟨P',HB1.out,HN.out⟩⟩
     case measure=>simp[intOf];omega
end
section
open Go Go.RowKit
attribute [local go_sem] Oper.semAt_some
theorem Buf.kept {W W':World}{g n O:Nat}{row:Option Nat}(h:Buf W g n O)(hg:W.grownBy W' row)(hrow:∀r,row=some r→∃o:Obj,W.heap[r]?=some o∧o.isCells=false):Buf W' g n O:=
 fun j hj=>⟨cell_kept (h j hj).1 hg hrow,(frozen_kept (h j hj).1 hg hrow).trans (h j hj).2⟩
def zpX (w:World)(A A':Option Addr)(n n' c c' N M:Nat)(s:Nat)(W:World):Prop:=
 Src (w.heap.size+1+1+1) w.heap.size A' n' c' M W∧Boxed W w.heap.size 23 (.slice A n c)∧Boxed W (w.heap.size+1+1) 23 (.slice (some ⟨w.heap.size+1,0,none⟩) (n+n':Nat) (n+n':Nat))∧
  Rd W w.heap.size A n N∧Buf W (w.heap.size+1) (n+n') (N*(M%Bw^s))∧Below w.heap.size w W
theorem zlM {w:World}{A A':Option Addr}{n n' c c' N M B:Nat}:OwnFrom (w.heap.size+B) (zpX w A A' n n' c c' N M):=by
 rintro s W W' row ⟨⟨h1,h2⟩,h3,h4,h5,h6,h7⟩ hg hr
 have hr':=fun r e=>(hr r e).2
 exact⟨⟨cell_kept h1 hg hr',h2.kept hg hr'⟩,za0 h3 hg hr',za0 h4 hg hr',h5.kept hg hr',h6.kept hg hr',h7.grown hg h7.size (fun r e=>by have:=(hr r e).1;omega)⟩
theorem zan {a b:Nat}(h:a≠b):some a≠some b:=fun e=>h (by injection e)
theorem zg4 {M s:Nat}:∀ {i:Nat},s≤i→(∀j,s≤j→j<i→dig M j=0)→M%Bw^i=M%Bw^s:=by
 intro i
 induction i with
 |zero=>intro h _;rw[show s=0 by omega]
 |succ i ih=>
  intro h hz
  rcases zsq i s with h1|h1
  ·obtain rfl:s=i+1:=by omega
   rfl
  ·rw[zaL,hz i h1 (by omega),Nat.mul_zero,Nat.add_zero]
   exact ih h1 (fun j h2 h3=>hz j h2 (by omega))
theorem zo7 {M s n:Nat}(hM:M<Bw^n)(hz:∀j,s≤j→j<n→dig M j=0):M%Bw^s=M:=by
 rcases zsq n s with h|h
 ·exact Nat.mod_eq_of_lt (zat hM (by omega))
 ·rw[←zg4 h hz,Nat.mod_eq_of_lt hM]
theorem znx {N M i:Nat}:N*(M%Bw^i)+dig M i*Bw^i*N=N*(M%Bw^(i+1)):=by
 rw[zaL,Nat.mul_add,Nat.mul_comm (dig M i),Nat.mul_comm _ N]
theorem Buf.fr {W:World}{lo hi g n O:Nat}(h:Buf W g n O)(hO:O<Bw^n)(hlo:lo≤g)(hhi:g<hi):Fr W lo hi (some ⟨g,0,none⟩) n O:=⟨hO,fun _=>⟨g,rfl,hlo,hhi,h⟩⟩
theorem zaE {W W':World}{B K:Nat}{t:TypeId}{v:Value}(h:Boxed W B t v)(hb:Below K W W')(hB:B<K):Boxed W' B t v:=(hb.block B hB).trans h
theorem zlN (A A':Option Addr)(n n' c c' N M:Nat)(w:World)(hn:n≤1000000000000)(hn':n'≤1000000000000)(h:Rd w w.heap.size A n N)(h':Rd w w.heap.size A' n' M):
  CallsIn Fence.wide 10 Tryz.prog 125 #[.slice A n c,.slice A' n' c'] w (Gives w (N*M)):=by
 obtain⟨w1,hmk,hF1,hb1,hs1⟩:=zbB (w.alloc (.cells #[.slice A n c] 23)) (n+n') (by omega)
 rw[show(((n+n':Nat)):Int)=(n:Int)+(n':Int)from by omega]at hmk
 refine callsIn_of_wp_marks Tryz.func125 rfl trivial ?_ rfl
 simp only[Tryz.ntmps125,List.size_toArray,List.length_cons,List.length_nil,Nat.reduceAdd,Nat.reduceSub,Array.replicate_succ,Array.replicate_zero,List.push_toArray,List.append_toArray,List.nil_append,List.cons_append]
 gi_wp2_with (refine⟨trivial,?_⟩;gi_at_call 147;refine(callsIn_wide.2 (callsIn_wide.1 (znv A' n' c' _))).mono ?_;rintro e w' ⟨rfl,rfl⟩)
 have bA:=Boxed.new w 23 (.slice A n c)
 rw[World.size_alloc]at hF1 hb1 hs1
 replace bA:=zaE bA hb1 (by omega)
 have bS:=Boxed.new w1 23 (.slice (some ⟨w.heap.size+1,0,none⟩) (n+n':Nat) (n+n':Nat))
 have bM:=Boxed.new (w1.alloc (.cells #[.slice (some ⟨w.heap.size+1,0,none⟩) (n+n':Nat) (n+n':Nat)] 23)) 23 (.slice A' n' c')
 rw[hs1]at bS
 rw[World.size_alloc,hs1]at bM
 have hB1:Below w.heap.size w w1:=((Below.refl _ w).alloc zsk _).trans (hb1.mono (by omega))
 have hB0:=(hB1.alloc (by omega) (.cells #[.slice (some ⟨w.heap.size+1,0,none⟩) (n+n':Nat) (n+n':Nat)] 23)).alloc (by rw[World.size_alloc];omega) (.cells #[.slice A' n' c'] 23)
 have hZ:Buf w1 (w.heap.size+1) (n+n') (N*(M%Bw^0)):=by rw[Nat.pow_zero,Nat.mod_one,Nat.mul_zero];exact Buf.of_fr hF1
 have hZ0:=(hZ.kept (World.grownBy_alloc w1 (.cells #[.slice (some ⟨w.heap.size+1,0,none⟩) (n+n':Nat) (n+n':Nat)] 23) none) (fun r e=>by cases e)).kept (World.grownBy_alloc _ (.cells #[.slice A' n' c'] 23) none) (fun r e=>by cases e)
 have hsz:((w1.alloc (.cells #[.slice (some ⟨w.heap.size+1,0,none⟩) (n+n':Nat) (n+n':Nat)] 23)).alloc (.cells #[.slice A' n' c'] 23)).heap.size=w.heap.size+4:=by rw[World.size_alloc,World.size_alloc];omega
 replace bA:=(bA.alloc (.cells #[.slice (some ⟨w.heap.size+1,0,none⟩) (n+n':Nat) (n+n':Nat)] 23)).alloc (.cells #[.slice A' n' c'] 23)
 replace bS:=bS.alloc (.cells #[.slice A' n' c'] 23)
 obtain⟨W0,hW0⟩:∃W0,(w1.alloc (.cells #[.slice (some ⟨w.heap.size+1,0,none⟩) (n+n':Nat) (n+n':Nat)] 23)).alloc (.cells #[.slice A' n' c'] 23)=W0:=⟨_,rfl⟩
 rw[hW0]at bA bS bM hB0 hZ0 hsz ⊢
 clear hW0 hmk hF1 hb1 hs1 hB1 hZ
 have hB4:W0.heap.size=w.heap.size+4:=hsz
 refine zaV rfl (by omega) (gf:=164) (lb:= #[.pointer (some ⟨w.heap.size+1+1+1,0,none⟩)]) rfl trivial (enters_of Tryz.func164 (by kernel_rfl) rfl)
  (fun _=>rfl) (zpX w A A' n n' c c' N M) (fun _ _ _=>False) (by rw[hB4];exact zlM) (fun _ _ _ _ _ h _ _=>h)
  ⟨⟨bM.cell,h'.below hB0⟩,bA,bS,h.below hB0,hZ0,hB0⟩
  (zhM (w.heap.size+1+1+1) w.heap.size A' n' c' M (by omega) _ (fun _ _ h=>h.1) Fence.wide rfl)
  (fun x=> { tmps:= #[.slice A n c,.slice A' n' c',.pointer (some ⟨w.heap.size,0,none⟩),undef,.slice none 0 0,.pointer (some ⟨w.heap.size+1+1,0,none⟩),.int .i64 (x.1:Nat),.int .u32 (x.2:Nat),
    .slice A n c,.int .i64 (n:Nat),.slice A' n' c',.int .i64 (n':Nat),.int .i64 ((n:Int)+(n':Int)),.slice (some ⟨w.heap.size+1,0,none⟩) (n+n') (n+n'),.slice A' n' c',
    .func (.func 164) #[] #[.pointer (some ⟨w.heap.size+1+1+1,0,none⟩)],.int .i64 (x.1:Nat),.int .u32 (x.2:Nat),undef,undef,undef,undef,undef,undef,undef,undef],defers:=[] }) ?assign ?body ?done ?stop
 case assign=>
  intro l x W K hK
  gi_wp2
  exact hK
 case body=>
  rintro l s ⟨i,d⟩ W ⟨⟨hcM,hRM⟩,bA1,bS1,hRN,hBf,hBl⟩ ⟨hs,hi,hdd,hz⟩
  dsimp only at hs hi hz hdd ⊢
  subst hdd
  rw[←zg4 hs hz]at hBf
  have HBf:=zsi hBf
  have hlt:N*(M%Bw^i)<Bw^(i+n):=by rw[Nat.mul_comm];exact zbZ (Nat.mod_lt _ (zag i)) hRN.1
  have hgs:w.heap.size+1<W.heap.size:=by have:=bS1.lt;omega
  have hcA:=bA1.cell
  have hcS:=bS1.cell
  have hd:=zar M i
  have E:=zsi (zjU W.drew (w.heap.size+1) (n+n') i (n+n' - i) (n+n' - i) n c (N*(M%Bw^i)) N (dig M i) A hBf hlt (by omega) (by omega) (by omega) (by omega) (hRN.more (by omega)) hgs hd)
  rw[znx]at E
  have HRM:=zsi (h'.below hBl)
  have HK:=zsi (show w.heap.size+1<W0.heap.size by omega)
  have HRN:=zsi (h.below hBl)
  clear hz hBf hlt hRN hRM
  gi_wp2
  gi_region_with (refine⟨trivial,?_⟩;gi_at_call 148;refine(CallsIn.inRound l (callsIn_wide.2 E.out)).mono ?_;rintro e w' ⟨⟨v,rfl⟩,hG,hb⟩)
  all_goals
   have hG':W.grownBy w' (some (w.heap.size+1)):=(zf2 W _).trans hG
   refine⟨KeepsFrom.of_grownBy hG' (fun j e=>by cases e;exact HK.out),⟨hG'.cell hcM (zan (a:=w.heap.size+1+1+1) (by omega)),HRM.out.grown hG' (by omega) hBl.size⟩,bA1.kept hG' (zan (by omega)),bS1.kept hG' (zan (by omega)),HRN.out.grown hG' (by omega) hBl.size,hb,hBl.trans ((zaK hG' (by omega)).mono (by omega))⟩
 case done=>
  rintro D s W hD hS ⟨⟨hcM,hRM⟩,bA1,bS1,hRN,hBf,hBl⟩ hK
  rw[zo7 hRM.1 hS]at hBf
  have hcS:=bS1.cell
  have hF:Fr W w.heap.size W.heap.size (some ⟨w.heap.size+1,0,none⟩) (n+n') (N*M):=hBf.fr (zbZ h.1 h'.1) (by omega) (by have:=bS1.lt;omega)
  have E:=zsi (zbU W _ (some ⟨w.heap.size+1,0,none⟩) (n+n') (n+n') (N*M) hF.rd zsk (by omega))
  have HF:=zsi hF
  clear hS hRM hRN hBf hF bA1
  gi_wp2_with (refine⟨trivial,?_⟩;gi_at_call 115;refine(callsIn_wide.2 E.out).mono ?_;rintro e w' ⟨rfl,rfl⟩)
  refine⟨by simp,.inl ⟨_,_,rfl,run_takeDeferred hK,?_⟩⟩
  have hs2:(W.putObj D (.deferred none)).heap.size=W.heap.size:=by simp[World.putObj]
  have hg':Gives w (N*M) _ (W.putObj D (.deferred none)):=zcn (by rw[hs2];exact HF.out.kept (grownBy_putObj' _ D (.deferred none)) (fun r e=>by cases e;exact⟨_,hK,rfl⟩)) (by simp only[maxLen];omega) (hBl.trans (belowK_b (w:=w) zsk W D _ _ (by omega) hK rfl rfl))
  refine⟨_,results_tmp rfl _ _ _,?_⟩
  exact hg'
 case stop=>
  rintro D c s W _ _ h _
  exact h.elim
theorem zjV (A A':Option Addr)(n n' c c' N M:Nat)(w:World)(hn:n≤1000000000000)(hn':n'≤1000000000000)(h:Rd w w.heap.size A n N)(h':Rd w w.heap.size A' n' M):
  Calls Tryz.prog 125 #[.slice A n c,.slice A' n' c'] w (Gives w (N*M)):=
 callsIn_wide.1 (zlN A A' n n' c c' N M w hn hn' h h')
theorem zbE {W W':World}(h:Below W.heap.size W W')(row:Option Nat):W.grownBy W' row:=⟨h.os,h.tape,h.output,h.size,fun k hk _=>h.block k hk⟩
theorem zbo {W W':World}{B:Nat}(h:Below B W.drew W'):Below B W W':=⟨h.os,h.tape,h.output,h.size,h.block⟩
def zew (bx m:Nat):Prop:=∀(w:World) (A A':Option Addr) (n n' c c' N M:Nat),Boxed w bx 94 (.func (.func 124) #[] #[.pointer (some ⟨bx,0,none⟩)])→Rd w w.heap.size A n N→Rd w w.heap.size A' n' M→
 n≤c→c≤9223372036854775807→n'≤c'→c'≤9223372036854775807→n≤1000000000000→n'≤1000000000000→lenL N+lenL M<m→
 Calls Tryz.prog 124 #[.slice A n c,.slice A' n' c',.pointer (some ⟨bx,0,none⟩)] w (Gives w (N*M))
theorem zbF {w W w1:World}{A A' A2:Option Addr}{n n' N M s:Nat}(hs:s<n)(hn:n≤1000000000000)(hn':n'≤1000000000000)(h:Rd w w.heap.size A n N)(h':Rd w w.heap.size A' n' M)
  (hBf:Buf W (w.heap.size+1+1) (n+n') (N%Bw^s*M)) (hgs:w.heap.size+1+1<W.heap.size) (g4:Below W.heap.size W w1)
  (g3:Fr w1 W.heap.size w1.heap.size A2 (lenL (N/Bw^s%Bw^(min (s+n') n - s)*M)) (N/Bw^s%Bw^(min (s+n') n - s)*M)) (c:Nat):
  Calls Tryz.prog 150 #[.slice (some ⟨w.heap.size+1+1,0,none⟩) (n+n') (n+n'),.slice A2 (lenL (N/Bw^s%Bw^(min (s+n') n - s)*M)) c,.int .i64 s] w1 fun e w'=>
   (∃v,e= .returned v)∧w1.grownBy w' (some (w.heap.size+1+1))∧Buf w' (w.heap.size+1+1) (n+n') (N%Bw^(s+n')*M):=by
 obtain⟨k,hk⟩:∃k,min (s+n') n - s=k:=⟨_,rfl⟩
 have hkn:s+k≤n:=by omega
 have he:N%Bw^(s+k)=N%Bw^(s+n'):=by rw[←hk];exact zlt h.1 hs
 rw[hk]at g3 ⊢
 have hsum:N%Bw^s*M+Bw^s*(N/Bw^s%Bw^k*M)=N%Bw^(s+n')*M:=by
  rw[←he,←zgB N s k,Nat.add_mul,Nat.mul_assoc]
 have hl:lenL (N/Bw^s%Bw^k*M)≤k+n':=zai.2 (zbZ (Nat.mod_lt _ (zag k)) h'.1)
 have hB1:Buf w1 (w.heap.size+1+1) (n+n') (N%Bw^s*M):=fun j hj=>⟨(g4.cell (p:=⟨w.heap.size+1+1,j,none⟩) hgs).trans (hBf j hj).1,(g4.frozen (p:=⟨w.heap.size+1+1,j,none⟩) hgs).trans (hBf j hj).2⟩
 have hT:N%Bw^s*M+Bw^s*(N/Bw^s%Bw^k*M)<Bw^(n+n'):=by
  rw[hsum]
  exact zso (Nat.mul_le_mul_right M (Nat.mod_le N _)) (zbZ h.1 h'.1)
 have:=zd2 w1 (w.heap.size+1+1) (n+n') (n+n') s (lenL (N/Bw^s%Bw^k*M)) c (N%Bw^s*M) (N/Bw^s%Bw^k*M) A2 hB1 hT (by omega) (by omega) (by omega) (g3.rn hgs) (zsn hgs g4.size)
 rwa [hsum]at this
def zkS (w:World)(bx:Nat)(A A':Option Addr)(n n' c c' N M:Nat)(s:Nat)(W:World):Prop:=
 Src (w.heap.size+1+1+1+1) w.heap.size A n c N W∧W.cell? ⟨w.heap.size+1+1+1+1+1,0,none⟩=some (.int .i64 n')∧Boxed W w.heap.size 23 (.slice A' n' c')∧Boxed W (w.heap.size+1) 94 (.func (.func 124) #[] #[.pointer (some ⟨bx,0,none⟩)])∧
  Boxed W (w.heap.size+1+1+1) 23 (.slice (some ⟨w.heap.size+1+1,0,none⟩) (n+n':Nat) (n+n':Nat))∧
  Rd W w.heap.size A' n' M∧Buf W (w.heap.size+1+1) (n+n') (N%Bw^s*M)∧Below w.heap.size w W
theorem ziN {w:World}{bx:Nat}{A A':Option Addr}{n n' c c' N M B:Nat}:OwnFrom (w.heap.size+B) (zkS w bx A A' n n' c c' N M):=by
 rintro s W W' row ⟨⟨h1,h2⟩,h0,h3,h4,h5,h6,h7,h8⟩ hg hr
 have hr':=fun r e=>(hr r e).2
 exact⟨⟨cell_kept h1 hg hr',h2.kept hg hr'⟩,cell_kept h0 hg hr',za0 h3 hg hr',za0 h4 hg hr',za0 h5 hg hr',h6.kept hg hr',h7.kept hg hr',h8.grown hg h8.size (fun r e=>by have:=(hr r e).1;omega)⟩
theorem ziO (bx m:Nat)(HP:zew bx m)(A A':Option Addr)(n n' c c' N M:Nat)(w:World)(hbx:Boxed w bx 94 (.func (.func 124) #[] #[.pointer (some ⟨bx,0,none⟩)])) (hn:n≤1000000000000) (hn':n'≤1000000000000) (h0:0<n') (hm:n'+n'<m) (h:Rd w w.heap.size A n N) (h':Rd w w.heap.size A' n' M)
  (hnc:n≤c) (hcb:c≤9223372036854775807) (hnc':n'≤c') (hcb':c'≤9223372036854775807):
  CallsIn Fence.wide 10 Tryz.prog 126 #[.slice A n c,.slice A' n' c',.func (.func 124) #[] #[.pointer (some ⟨bx,0,none⟩)]] w (Gives w (N*M)):=by
 obtain⟨w1,hmk,hF1,hb1,hs1⟩:=zbB ((w.alloc (.cells #[.slice A' n' c'] 23)).alloc (.cells #[.func (.func 124) #[] #[.pointer (some ⟨bx,0,none⟩)]] 94)) (n+n') (by omega)
 rw[show(((n+n':Nat)):Int)=(n:Int)+(n':Int)from by omega]at hmk
 rw[World.size_alloc,World.size_alloc]at hF1 hb1 hs1
 have bB:=zaE ((Boxed.new w 23 (.slice A' n' c')).alloc (.cells #[.func (.func 124) #[] #[.pointer (some ⟨bx,0,none⟩)]] 94)) hb1 (by omega)
 have bP:=Boxed.new (w.alloc (.cells #[.slice A' n' c'] 23)) 94 (.func (.func 124) #[] #[.pointer (some ⟨bx,0,none⟩)])
 rw[World.size_alloc]at bP
 replace bP:=zaE bP hb1 (by omega)
 have hcB:=bB.cell
 refine callsIn_of_wp_marks Tryz.func126 rfl trivial ?_ rfl
 simp only[Tryz.ntmps126,List.size_toArray,List.length_cons,List.length_nil,Nat.reduceAdd,Nat.reduceSub,Array.replicate_succ,Array.replicate_zero,List.push_toArray,List.append_toArray,List.nil_append,List.cons_append]
 gi_wp2_with (refine⟨trivial,?_⟩;gi_at_call 149;refine(callsIn_wide.2 (callsIn_wide.1 (zlL A n c n' _))).mono ?_;rintro e w' ⟨rfl,rfl⟩)
 have bS:=Boxed.new w1 23 (.slice (some ⟨w.heap.size+1+1,0,none⟩) (n+n':Nat) (n+n':Nat))
 have bN:=Boxed.new (w1.alloc (.cells #[.slice (some ⟨w.heap.size+1+1,0,none⟩) (n+n':Nat) (n+n':Nat)] 23)) 23 (.slice A n c)
 have bK:=Boxed.new ((w1.alloc (.cells #[.slice (some ⟨w.heap.size+1+1,0,none⟩) (n+n':Nat) (n+n':Nat)] 23)).alloc (.cells #[.slice A n c] 23)) 3 (.int .i64 (n':Nat))
 rw[hs1]at bS
 rw[World.size_alloc,hs1]at bN
 rw[World.size_alloc,World.size_alloc,hs1]at bK
 have hB1:Below w.heap.size w w1:=(((Below.refl _ w).alloc zsk _).alloc (by simp) _).trans (hb1.mono (by omega))
 have hB0:=((hB1.alloc (by omega) (.cells #[.slice (some ⟨w.heap.size+1+1,0,none⟩) (n+n':Nat) (n+n':Nat)] 23)).alloc (by rw[World.size_alloc];omega) (.cells #[.slice A n c] 23)).alloc (by rw[World.size_alloc,World.size_alloc];omega) (.cells #[.int .i64 (n':Nat)] 3)
 have hZ:Buf w1 (w.heap.size+1+1) (n+n') (N%Bw^0*M):=by rw[Nat.pow_zero,Nat.mod_one,Nat.zero_mul];exact Buf.of_fr hF1
 have hZ0:=((hZ.kept (World.grownBy_alloc w1 (.cells #[.slice (some ⟨w.heap.size+1+1,0,none⟩) (n+n':Nat) (n+n':Nat)] 23) none) (fun r e=>by cases e)).kept (World.grownBy_alloc _ (.cells #[.slice A n c] 23) none) (fun r e=>by cases e)).kept (World.grownBy_alloc _ (.cells #[.int .i64 (n':Nat)] 3) none) (fun r e=>by cases e)
 have hsz:(((w1.alloc (.cells #[.slice (some ⟨w.heap.size+1+1,0,none⟩) (n+n':Nat) (n+n':Nat)] 23)).alloc (.cells #[.slice A n c] 23)).alloc (.cells #[.int .i64 (n':Nat)] 3)).heap.size=w.heap.size+6:=by rw[World.size_alloc,World.size_alloc,World.size_alloc];omega
 replace bB:=((bB.alloc (.cells #[.slice (some ⟨w.heap.size+1+1,0,none⟩) (n+n':Nat) (n+n':Nat)] 23)).alloc (.cells #[.slice A n c] 23)).alloc (.cells #[.int .i64 (n':Nat)] 3)
 replace bP:=((bP.alloc (.cells #[.slice (some ⟨w.heap.size+1+1,0,none⟩) (n+n':Nat) (n+n':Nat)] 23)).alloc (.cells #[.slice A n c] 23)).alloc (.cells #[.int .i64 (n':Nat)] 3)
 replace bS:=(bS.alloc (.cells #[.slice A n c] 23)).alloc (.cells #[.int .i64 (n':Nat)] 3)
 replace bN:=bN.alloc (.cells #[.int .i64 (n':Nat)] 3)
 obtain⟨W0,hW0⟩:∃W0,((w1.alloc (.cells #[.slice (some ⟨w.heap.size+1+1,0,none⟩) (n+n':Nat) (n+n':Nat)] 23)).alloc (.cells #[.slice A n c] 23)).alloc (.cells #[.int .i64 (n':Nat)] 3)=W0:=⟨_,rfl⟩
 rw[hW0]at bB bP bS bN bK hB0 hZ0 hsz ⊢
 clear hW0 hmk hF1 hb1 hs1 hB1 hZ hcB
 have hB4:W0.heap.size=w.heap.size+6:=hsz
 refine zaV rfl (by omega) (gf:=165) (lb:= #[.pointer (some ⟨w.heap.size+1+1+1+1,0,none⟩),.pointer (some ⟨w.heap.size+1+1+1+1+1,0,none⟩)]) rfl trivial (enters_of Tryz.func165 (by kernel_rfl) rfl)
  (fun _=>rfl) (zkS w bx A A' n n' c c' N M) (fun _ _ _=>False) (by rw[hB4];exact ziN) (fun _ _ _ _ _ h _ _=>h)
  ⟨⟨bN.cell,h.below hB0⟩,bK.cell,bB,bP,bS,h'.below hB0,hZ0,hB0⟩
  (zgE (w.heap.size+1+1+1+1) w.heap.size A n c n' N hn hn' h0 hnc hcb _ (fun _ _ h=>⟨h.1,h.2.1⟩) Fence.wide rfl)
  (fun x=> { tmps:= #[.slice A n c,.slice A' n' c',.func (.func 124) #[] #[.pointer (some ⟨bx,0,none⟩)],undef,.pointer (some ⟨w.heap.size,0,none⟩),.pointer (some ⟨w.heap.size+1,0,none⟩),.slice none 0 0,.pointer (some ⟨w.heap.size+1+1+1,0,none⟩),.int .i64 (x:Nat),zgf A n c n' x,
     .slice A n c,.int .i64 (n:Nat),.slice A' n' c',.int .i64 (n':Nat),.int .i64 ((n:Int)+(n':Int)),.slice (some ⟨w.heap.size+1+1,0,none⟩) (n+n') (n+n'),.slice A n c,.slice A' n' c',.int .i64 (n':Nat),
     .func (.func 165) #[] #[.pointer (some ⟨w.heap.size+1+1+1+1,0,none⟩),.pointer (some ⟨w.heap.size+1+1+1+1+1,0,none⟩)],.int .i64 (x:Nat),zgf A n c n' x,undef,undef,undef,undef,undef,undef,undef,undef,undef],defers:=[] }) ?assign ?body ?done ?stop
 case assign=>
  intro l x W K hK
  gi_wp2
  exact hK
 case body=>
  rintro l s x W ⟨⟨hcN,hRN⟩,hcn,bB,bP,bS,hRM,hBf,hBl⟩ ⟨rfl,hs⟩
  have HBf:=zsi hBf
  have hgs:w.heap.size+1+1<W.heap.size:=by have:=bS.lt;omega
  have hltS:w.heap.size+1+1+1<W.heap.size:=bS.lt
  have hcB:=bB.cell
  have hcP:=bP.cell
  have hcS:=bS.cell
  have hbW:Boxed W bx 94 (.func (.func 124) #[] #[.pointer (some ⟨bx,0,none⟩)]):=zaE hbx hBl hbx.lt
  have HRN:=zsi (h.below hBl)
  have HRM:=zsi (h'.below hBl)
  have HK:=zsi (show w.heap.size+1+1<W0.heap.size by omega)
  have EP:=zsi (HP W.drew (A.map fun ad=>ad.add x) A' (min (x+n') n - x) n' (c - x) c' (N/Bw^x%Bw^(min (x+n') n - x)) M hbW ((hRN.piece (by omega)).more hBl.size) (hRM.more hBl.size) (by omega) (by omega) hnc' hcb' (by omega) hn'
   (by have h1:=zai.2 (Nat.mod_lt (N/Bw^x) (zag (min (x+n') n - x)));have h2:=zai.2 hRM.1;omega))
  clear hBf hRN hRM hbW
  dsimp only[zgf]
  gi_wp2
  refine zbM (by kernel_rfl) (by kernel_rfl) ?_
  refine wpAnyIn_take (i:=2) (v:=_) rfl rfl (by kernel_rfl) (by kernel_rfl) (by kernel_rfl) (fun _ _ _ h=>h) ⟨Or.inl ⟨by rfl,fun w=>BigFrame.run_move (.tmp 9) rfl w⟩,fun _=>rfl⟩ ?_
  refine wpAnyIn_take (i:=5) (v:=_) rfl rfl (by kernel_rfl) (by kernel_rfl) (by kernel_rfl) (fun _ _ _ h=>h) ⟨Or.inl ⟨by rfl,fun w=>BigFrame.run_move (.tmp 8) rfl w⟩,fun _=>rfl⟩ ?_
  refine wpAnyIn_ready (rs:=[0,1,3]) (by kernel_rfl) (by simp) ?_
  refine AllReadyIn.cons rfl (fun K hK=>?_) ?_
  ·go_simp
   refine hK _ _ ?_
   clear hK K
   refine wpAnyIn_ready (rs:=[1,3]) (by kernel_rfl) (by simp) ?_
   refine AllReadyIn.cons rfl (fun K hK=>?_) ?_
   ·go_simp
    refine hK _ _ ?_
    clear hK K
    refine wpAnyIn_ready (rs:=[3]) (by kernel_rfl) (by simp) ?_
    refine AllReadyIn.cons rfl (fun K hK=>?_) ?_
    ·go_simp
     refine hK _ _ ?_
     clear hK K
     refine wpAnyIn_ready (rs:=[4]) (by kernel_rfl) (by simp) ?_
     refine AllReadyIn.cons rfl (fun K hK=>?_) ?_
     ·go_simp
      refine⟨trivial,(callsIn_wide.2 EP.out).mono ?_⟩
      rintro e w1 ⟨A2,c2,rfl,g1,g2,g3,g4⟩
      replace g4:=zbo g4
      have hcS1:=(g4.cell (p:=⟨w.heap.size+1+1+1,0,none⟩) hltS).trans hcS
      have HA:=zsi (zbF hs hn hn' h h' HBf.out hgs g4 g3)
      clear g1 g3
      refine hK _ _ ?_
      clear hK K
      refine wpAnyIn_ready (rs:=[6]) (by kernel_rfl) (by simp) ?_
      refine AllReadyIn.cons rfl (fun K hK=>?_) ?_
      ·go_simp
       refine⟨trivial,(callsIn_wide.2 (HA.out c2)).mono ?_⟩
       rintro e w2 ⟨⟨v,rfl⟩,hG,hb⟩
       refine hK _ _ ?_
       clear hK K
       refine wpAnyIn_done (by kernel_rfl) ?_ _
       have hG':W.grownBy w2 (some (w.heap.size+1+1)):=(zbE g4 _).trans hG
       exact⟨KeepsFrom.of_grownBy hG' (fun j e=>by cases e;exact HK.out),⟨hG'.cell hcN (zan (a:=w.heap.size+1+1+1+1) (by omega)),HRN.out.grown hG' (by omega) hBl.size⟩,hG'.cell hcn (zan (a:=w.heap.size+1+1+1+1+1) (by omega)),bB.kept hG' (zan (by omega)),bP.kept hG' (zan (by omega)),bS.kept hG' (zan (by omega)),HRM.out.grown hG' (by omega) hBl.size,hb,hBl.trans ((zaK hG' (by omega)).mono (by omega))⟩
      exact AllReadyIn.nil
     exact AllReadyIn.nil
    exact AllReadyIn.nil
   refine AllReadyIn.cons rfl (fun K hK=>?_) ?_
   ·go_simp
    refine hK _ _ ?_
    clear hK K
    refine wpAnyIn_ready (rs:=[1]) (by kernel_rfl) (by simp) ?_
    refine AllReadyIn.cons rfl (fun K hK=>?_) ?_
    ·go_simp
     refine hK _ _ ?_
     clear hK K
     refine wpAnyIn_ready (rs:=[4]) (by kernel_rfl) (by simp) ?_
     refine AllReadyIn.cons rfl (fun K hK=>?_) ?_
     ·go_simp
      refine⟨trivial,(callsIn_wide.2 EP.out).mono ?_⟩
      rintro e w1 ⟨A2,c2,rfl,g1,g2,g3,g4⟩
      replace g4:=zbo g4
      have hcS1:=(g4.cell (p:=⟨w.heap.size+1+1+1,0,none⟩) hltS).trans hcS
      have HA:=zsi (zbF hs hn hn' h h' HBf.out hgs g4 g3)
      clear g1 g3
      refine hK _ _ ?_
      clear hK K
      refine wpAnyIn_ready (rs:=[6]) (by kernel_rfl) (by simp) ?_
      refine AllReadyIn.cons rfl (fun K hK=>?_) ?_
      ·go_simp
       refine⟨trivial,(callsIn_wide.2 (HA.out c2)).mono ?_⟩
       rintro e w2 ⟨⟨v,rfl⟩,hG,hb⟩
       refine hK _ _ ?_
       clear hK K
       refine wpAnyIn_done (by kernel_rfl) ?_ _
       have hG':W.grownBy w2 (some (w.heap.size+1+1)):=(zbE g4 _).trans hG
       exact⟨KeepsFrom.of_grownBy hG' (fun j e=>by cases e;exact HK.out),⟨hG'.cell hcN (zan (a:=w.heap.size+1+1+1+1) (by omega)),HRN.out.grown hG' (by omega) hBl.size⟩,hG'.cell hcn (zan (a:=w.heap.size+1+1+1+1+1) (by omega)),bB.kept hG' (zan (by omega)),bP.kept hG' (zan (by omega)),bS.kept hG' (zan (by omega)),HRM.out.grown hG' (by omega) hBl.size,hb,hBl.trans ((zaK hG' (by omega)).mono (by omega))⟩
      exact AllReadyIn.nil
     exact AllReadyIn.nil
    exact AllReadyIn.nil
   exact AllReadyIn.nil
  refine AllReadyIn.cons rfl (fun K hK=>?_) ?_
  ·go_simp
   refine hK _ _ ?_
   clear hK K
   refine wpAnyIn_ready (rs:=[0,3]) (by kernel_rfl) (by simp) ?_
   refine AllReadyIn.cons rfl (fun K hK=>?_) ?_
   ·go_simp
    refine hK _ _ ?_
    clear hK K
    refine wpAnyIn_ready (rs:=[3]) (by kernel_rfl) (by simp) ?_
    refine AllReadyIn.cons rfl (fun K hK=>?_) ?_
    ·go_simp
     refine hK _ _ ?_
     clear hK K
     refine wpAnyIn_ready (rs:=[4]) (by kernel_rfl) (by simp) ?_
     refine AllReadyIn.cons rfl (fun K hK=>?_) ?_
     ·go_simp
      refine⟨trivial,(callsIn_wide.2 EP.out).mono ?_⟩
      rintro e w1 ⟨A2,c2,rfl,g1,g2,g3,g4⟩
      replace g4:=zbo g4
      have hcS1:=(g4.cell (p:=⟨w.heap.size+1+1+1,0,none⟩) hltS).trans hcS
      have HA:=zsi (zbF hs hn hn' h h' HBf.out hgs g4 g3)
      clear g1 g3
      refine hK _ _ ?_
      clear hK K
      refine wpAnyIn_ready (rs:=[6]) (by kernel_rfl) (by simp) ?_
      refine AllReadyIn.cons rfl (fun K hK=>?_) ?_
      ·go_simp
       refine⟨trivial,(callsIn_wide.2 (HA.out c2)).mono ?_⟩
       rintro e w2 ⟨⟨v,rfl⟩,hG,hb⟩
       refine hK _ _ ?_
       clear hK K
       refine wpAnyIn_done (by kernel_rfl) ?_ _
       have hG':W.grownBy w2 (some (w.heap.size+1+1)):=(zbE g4 _).trans hG
       exact⟨KeepsFrom.of_grownBy hG' (fun j e=>by cases e;exact HK.out),⟨hG'.cell hcN (zan (a:=w.heap.size+1+1+1+1) (by omega)),HRN.out.grown hG' (by omega) hBl.size⟩,hG'.cell hcn (zan (a:=w.heap.size+1+1+1+1+1) (by omega)),bB.kept hG' (zan (by omega)),bP.kept hG' (zan (by omega)),bS.kept hG' (zan (by omega)),HRM.out.grown hG' (by omega) hBl.size,hb,hBl.trans ((zaK hG' (by omega)).mono (by omega))⟩
      exact AllReadyIn.nil
     exact AllReadyIn.nil
    exact AllReadyIn.nil
   refine AllReadyIn.cons rfl (fun K hK=>?_) ?_
   ·go_simp
    refine hK _ _ ?_
    clear hK K
    refine wpAnyIn_ready (rs:=[0,4]) (by kernel_rfl) (by simp) ?_
    refine AllReadyIn.cons rfl (fun K hK=>?_) ?_
    ·go_simp
     refine hK _ _ ?_
     clear hK K
     refine wpAnyIn_ready (rs:=[4]) (by kernel_rfl) (by simp) ?_
     refine AllReadyIn.cons rfl (fun K hK=>?_) ?_
     ·go_simp
      refine⟨trivial,(callsIn_wide.2 EP.out).mono ?_⟩
      rintro e w1 ⟨A2,c2,rfl,g1,g2,g3,g4⟩
      replace g4:=zbo g4
      have hcS1:=(g4.cell (p:=⟨w.heap.size+1+1+1,0,none⟩) hltS).trans hcS
      have HA:=zsi (zbF hs hn hn' h h' HBf.out hgs g4 g3)
      clear g1 g3
      refine hK _ _ ?_
      clear hK K
      refine wpAnyIn_ready (rs:=[6]) (by kernel_rfl) (by simp) ?_
      refine AllReadyIn.cons rfl (fun K hK=>?_) ?_
      ·go_simp
       refine⟨trivial,(callsIn_wide.2 (HA.out c2)).mono ?_⟩
       rintro e w2 ⟨⟨v,rfl⟩,hG,hb⟩
       refine hK _ _ ?_
       clear hK K
       refine wpAnyIn_done (by kernel_rfl) ?_ _
       have hG':W.grownBy w2 (some (w.heap.size+1+1)):=(zbE g4 _).trans hG
       exact⟨KeepsFrom.of_grownBy hG' (fun j e=>by cases e;exact HK.out),⟨hG'.cell hcN (zan (a:=w.heap.size+1+1+1+1) (by omega)),HRN.out.grown hG' (by omega) hBl.size⟩,hG'.cell hcn (zan (a:=w.heap.size+1+1+1+1+1) (by omega)),bB.kept hG' (zan (by omega)),bP.kept hG' (zan (by omega)),bS.kept hG' (zan (by omega)),HRM.out.grown hG' (by omega) hBl.size,hb,hBl.trans ((zaK hG' (by omega)).mono (by omega))⟩
      exact AllReadyIn.nil
     exact AllReadyIn.nil
    refine AllReadyIn.cons rfl (fun K hK=>?_) ?_
    ·go_simp
     refine⟨trivial,(callsIn_wide.2 EP.out).mono ?_⟩
     rintro e w1 ⟨A2,c2,rfl,g1,g2,g3,g4⟩
     replace g4:=zbo g4
     have hcS1:=(g4.cell (p:=⟨w.heap.size+1+1+1,0,none⟩) hltS).trans hcS
     have HA:=zsi (zbF hs hn hn' h h' HBf.out hgs g4 g3)
     clear g1 g3
     refine hK _ _ ?_
     clear hK K
     refine wpAnyIn_ready (rs:=[0]) (by kernel_rfl) (by simp) ?_
     refine AllReadyIn.cons rfl (fun K hK=>?_) ?_
     ·go_simp
      refine hK _ _ ?_
      clear hK K
      refine wpAnyIn_ready (rs:=[6]) (by kernel_rfl) (by simp) ?_
      refine AllReadyIn.cons rfl (fun K hK=>?_) ?_
      ·go_simp
       refine⟨trivial,(callsIn_wide.2 (HA.out c2)).mono ?_⟩
       rintro e w2 ⟨⟨v,rfl⟩,hG,hb⟩
       refine hK _ _ ?_
       clear hK K
       refine wpAnyIn_done (by kernel_rfl) ?_ _
       have hG':W.grownBy w2 (some (w.heap.size+1+1)):=(zbE g4 _).trans hG
       exact⟨KeepsFrom.of_grownBy hG' (fun j e=>by cases e;exact HK.out),⟨hG'.cell hcN (zan (a:=w.heap.size+1+1+1+1) (by omega)),HRN.out.grown hG' (by omega) hBl.size⟩,hG'.cell hcn (zan (a:=w.heap.size+1+1+1+1+1) (by omega)),bB.kept hG' (zan (by omega)),bP.kept hG' (zan (by omega)),bS.kept hG' (zan (by omega)),HRM.out.grown hG' (by omega) hBl.size,hb,hBl.trans ((zaK hG' (by omega)).mono (by omega))⟩
      exact AllReadyIn.nil
     exact AllReadyIn.nil
    exact AllReadyIn.nil
   exact AllReadyIn.nil
  refine AllReadyIn.cons rfl (fun K hK=>?_) ?_
  ·go_simp
   refine hK _ _ ?_
   clear hK K
   refine wpAnyIn_ready (rs:=[0,1]) (by kernel_rfl) (by simp) ?_
   refine AllReadyIn.cons rfl (fun K hK=>?_) ?_
   ·go_simp
    refine hK _ _ ?_
    clear hK K
    refine wpAnyIn_ready (rs:=[1]) (by kernel_rfl) (by simp) ?_
    refine AllReadyIn.cons rfl (fun K hK=>?_) ?_
    ·go_simp
     refine hK _ _ ?_
     clear hK K
     refine wpAnyIn_ready (rs:=[4]) (by kernel_rfl) (by simp) ?_
     refine AllReadyIn.cons rfl (fun K hK=>?_) ?_
     ·go_simp
      refine⟨trivial,(callsIn_wide.2 EP.out).mono ?_⟩
      rintro e w1 ⟨A2,c2,rfl,g1,g2,g3,g4⟩
      replace g4:=zbo g4
      have hcS1:=(g4.cell (p:=⟨w.heap.size+1+1+1,0,none⟩) hltS).trans hcS
      have HA:=zsi (zbF hs hn hn' h h' HBf.out hgs g4 g3)
      clear g1 g3
      refine hK _ _ ?_
      clear hK K
      refine wpAnyIn_ready (rs:=[6]) (by kernel_rfl) (by simp) ?_
      refine AllReadyIn.cons rfl (fun K hK=>?_) ?_
      ·go_simp
       refine⟨trivial,(callsIn_wide.2 (HA.out c2)).mono ?_⟩
       rintro e w2 ⟨⟨v,rfl⟩,hG,hb⟩
       refine hK _ _ ?_
       clear hK K
       refine wpAnyIn_done (by kernel_rfl) ?_ _
       have hG':W.grownBy w2 (some (w.heap.size+1+1)):=(zbE g4 _).trans hG
       exact⟨KeepsFrom.of_grownBy hG' (fun j e=>by cases e;exact HK.out),⟨hG'.cell hcN (zan (a:=w.heap.size+1+1+1+1) (by omega)),HRN.out.grown hG' (by omega) hBl.size⟩,hG'.cell hcn (zan (a:=w.heap.size+1+1+1+1+1) (by omega)),bB.kept hG' (zan (by omega)),bP.kept hG' (zan (by omega)),bS.kept hG' (zan (by omega)),HRM.out.grown hG' (by omega) hBl.size,hb,hBl.trans ((zaK hG' (by omega)).mono (by omega))⟩
      exact AllReadyIn.nil
     exact AllReadyIn.nil
    exact AllReadyIn.nil
   refine AllReadyIn.cons rfl (fun K hK=>?_) ?_
   ·go_simp
    refine hK _ _ ?_
    clear hK K
    refine wpAnyIn_ready (rs:=[0,4]) (by kernel_rfl) (by simp) ?_
    refine AllReadyIn.cons rfl (fun K hK=>?_) ?_
    ·go_simp
     refine hK _ _ ?_
     clear hK K
     refine wpAnyIn_ready (rs:=[4]) (by kernel_rfl) (by simp) ?_
     refine AllReadyIn.cons rfl (fun K hK=>?_) ?_
     ·go_simp
      refine⟨trivial,(callsIn_wide.2 EP.out).mono ?_⟩
      rintro e w1 ⟨A2,c2,rfl,g1,g2,g3,g4⟩
      replace g4:=zbo g4
      have hcS1:=(g4.cell (p:=⟨w.heap.size+1+1+1,0,none⟩) hltS).trans hcS
      have HA:=zsi (zbF hs hn hn' h h' HBf.out hgs g4 g3)
      clear g1 g3
      refine hK _ _ ?_
      clear hK K
      refine wpAnyIn_ready (rs:=[6]) (by kernel_rfl) (by simp) ?_
      refine AllReadyIn.cons rfl (fun K hK=>?_) ?_
      ·go_simp
       refine⟨trivial,(callsIn_wide.2 (HA.out c2)).mono ?_⟩
       rintro e w2 ⟨⟨v,rfl⟩,hG,hb⟩
       refine hK _ _ ?_
       clear hK K
       refine wpAnyIn_done (by kernel_rfl) ?_ _
       have hG':W.grownBy w2 (some (w.heap.size+1+1)):=(zbE g4 _).trans hG
       exact⟨KeepsFrom.of_grownBy hG' (fun j e=>by cases e;exact HK.out),⟨hG'.cell hcN (zan (a:=w.heap.size+1+1+1+1) (by omega)),HRN.out.grown hG' (by omega) hBl.size⟩,hG'.cell hcn (zan (a:=w.heap.size+1+1+1+1+1) (by omega)),bB.kept hG' (zan (by omega)),bP.kept hG' (zan (by omega)),bS.kept hG' (zan (by omega)),HRM.out.grown hG' (by omega) hBl.size,hb,hBl.trans ((zaK hG' (by omega)).mono (by omega))⟩
      exact AllReadyIn.nil
     exact AllReadyIn.nil
    refine AllReadyIn.cons rfl (fun K hK=>?_) ?_
    ·go_simp
     refine⟨trivial,(callsIn_wide.2 EP.out).mono ?_⟩
     rintro e w1 ⟨A2,c2,rfl,g1,g2,g3,g4⟩
     replace g4:=zbo g4
     have hcS1:=(g4.cell (p:=⟨w.heap.size+1+1+1,0,none⟩) hltS).trans hcS
     have HA:=zsi (zbF hs hn hn' h h' HBf.out hgs g4 g3)
     clear g1 g3
     refine hK _ _ ?_
     clear hK K
     refine wpAnyIn_ready (rs:=[0]) (by kernel_rfl) (by simp) ?_
     refine AllReadyIn.cons rfl (fun K hK=>?_) ?_
     ·go_simp
      refine hK _ _ ?_
      clear hK K
      refine wpAnyIn_ready (rs:=[6]) (by kernel_rfl) (by simp) ?_
      refine AllReadyIn.cons rfl (fun K hK=>?_) ?_
      ·go_simp
       refine⟨trivial,(callsIn_wide.2 (HA.out c2)).mono ?_⟩
       rintro e w2 ⟨⟨v,rfl⟩,hG,hb⟩
       refine hK _ _ ?_
       clear hK K
       refine wpAnyIn_done (by kernel_rfl) ?_ _
       have hG':W.grownBy w2 (some (w.heap.size+1+1)):=(zbE g4 _).trans hG
       exact⟨KeepsFrom.of_grownBy hG' (fun j e=>by cases e;exact HK.out),⟨hG'.cell hcN (zan (a:=w.heap.size+1+1+1+1) (by omega)),HRN.out.grown hG' (by omega) hBl.size⟩,hG'.cell hcn (zan (a:=w.heap.size+1+1+1+1+1) (by omega)),bB.kept hG' (zan (by omega)),bP.kept hG' (zan (by omega)),bS.kept hG' (zan (by omega)),HRM.out.grown hG' (by omega) hBl.size,hb,hBl.trans ((zaK hG' (by omega)).mono (by omega))⟩
      exact AllReadyIn.nil
     exact AllReadyIn.nil
    exact AllReadyIn.nil
   exact AllReadyIn.nil
  exact AllReadyIn.nil
 case done=>
  rintro D s W hD hS ⟨⟨hcN,hRN⟩,hcn,bB,bP,bS,hRM,hBf,hBl⟩ hK
  rw[Nat.mod_eq_of_lt (zat hRN.1 hS)]at hBf
  have hcS:=bS.cell
  have hF:Fr W w.heap.size W.heap.size (some ⟨w.heap.size+1+1,0,none⟩) (n+n') (N*M):=hBf.fr (zbZ h.1 h'.1) (by omega) (by have:=bS.lt;omega)
  have E:=zsi (zbU W _ (some ⟨w.heap.size+1+1,0,none⟩) (n+n') (n+n') (N*M) hF.rd zsk (by omega))
  have HF:=zsi hF
  clear hS hRM hRN hBf hF bB bP
  gi_wp2_with (refine⟨trivial,?_⟩;gi_at_call 115;refine(callsIn_wide.2 E.out).mono ?_;rintro e w' ⟨rfl,rfl⟩)
  refine⟨by simp,.inl ⟨_,_,rfl,run_takeDeferred hK,?_⟩⟩
  have hs2:(W.putObj D (.deferred none)).heap.size=W.heap.size:=by simp[World.putObj]
  have hg':Gives w (N*M) _ (W.putObj D (.deferred none)):=zcn (by rw[hs2];exact HF.out.kept (grownBy_putObj' _ D (.deferred none)) (fun r e=>by cases e;exact⟨_,hK,rfl⟩)) (by simp only[maxLen];omega) (hBl.trans (belowK_b (w:=w) zsk W D _ _ (by omega) hK rfl rfl))
  refine⟨_,results_tmp rfl _ _ _,?_⟩
  exact hg'
 case stop=>
  rintro D c s W _ _ h _
  exact h.elim
theorem zhN (bx m:Nat)(HP:zew bx m)(A A':Option Addr)(n n' c c' N M:Nat)(w:World)(hbx:Boxed w bx 94 (.func (.func 124) #[] #[.pointer (some ⟨bx,0,none⟩)])) (hn:n≤1000000000000) (hn':n'≤1000000000000) (h0:0<n') (hm:n'+n'<m) (h:Rd w w.heap.size A n N) (h':Rd w w.heap.size A' n' M)
  (hnc:n≤c) (hcb:c≤9223372036854775807) (hnc':n'≤c') (hcb':c'≤9223372036854775807):
  Calls Tryz.prog 126 #[.slice A n c,.slice A' n' c',.func (.func 124) #[] #[.pointer (some ⟨bx,0,none⟩)]] w (Gives w (N*M)):=
 callsIn_wide.1 (ziO bx m HP A A' n n' c c' N M w hbx hn hn' h0 hm h h' hnc hcb hnc' hcb')
end
section
open Go Go.RowKit
def Lit (W:World)(g:Nat)(a b:Value):Prop:=W.cell? ⟨g,0,none⟩=some a∧W.cell? ⟨g,1,none⟩=some b∧g<W.heap.size
theorem Lit.new (W:World)(t:TypeId)(a b:Value):Lit (W.alloc (.cells #[a,b] t)) W.heap.size a b:=by
 have h:=World.alloc_heap_new' W (.cells #[a,b] t)
 exact⟨by simp only[World.cell?,h];rfl,by simp only[World.cell?,h];rfl,by simp⟩
theorem Lit.later {W W':World}{g:Nat}{a b:Value}(h:Lit W g a b)(hb:Below W.heap.size W W'):Lit W' g a b:=
 ⟨(hb.cell (p:=⟨g,0,none⟩) h.2.2).trans h.1,(hb.cell (p:=⟨g,1,none⟩) h.2.2).trans h.2.1,zsn h.2.2 hb.size⟩
theorem Lit.alloc {W:World}{g:Nat}{a b:Value}(h:Lit W g a b)(o:Obj):Lit (W.alloc o) g a b:=h.later ((Below.refl _ W).alloc zsk o)
theorem Lit.drew {W:World}{g:Nat}{a b:Value}(h:Lit W g a b):Lit W.drew g a b:=h
theorem zcE {w W:World}{g:Nat}{x y:Num}(hx:x.ok w w.heap.size)(hy:y.ok w w.heap.size)(hB:Below w.heap.size w W)(hl:Lit W g (.slice x.A x.n x.c) (.slice y.A y.n y.c)):
  Calls Tryz.prog 119 #[.slice (some ⟨g,0,none⟩) 2 2] W (Gives W (x.N+y.N)):=by
 have hR:Rds W W.heap.size (some ⟨g,0,none⟩) [x,y]:=fun k hk=>by
  match k,hk with
  |0,_=>exact⟨⟨_,rfl,hl.2.2,by rw[zaO];exact hl.1⟩,hx.later hB⟩
  |1,_=>exact⟨⟨_,rfl,hl.2.2,by rw[zaO];exact hl.2.1⟩,hy.later hB⟩
 have:=zfP W (some ⟨g,0,none⟩) 2 [x,y] hR (by simp)
 simpa[zbq]using this
theorem zjW {N0 N1 M0 M1 q:Nat}:N0*M0+Bw^q*((N0+N1)*(M0+M1) - (N0*M0+N1*M1))+Bw^(2*q)*(N1*M1)=(N0+Bw^q*N1)*(M0+Bw^q*M1):=by
 rw[show(N0+N1)*(M0+M1) - (N0*M0+N1*M1)=N0*M1+N1*M0 by rw[Nat.add_mul,Nat.mul_add,Nat.mul_add];omega]
 rw[show 2*q=q+q by omega,zaR,Nat.add_mul,Nat.mul_add,Nat.mul_add,Nat.mul_add]
 have e1:N0*(Bw^q*M1)=Bw^q*(N0*M1):=by ac_rfl
 have e2:Bw^q*N1*M0=Bw^q*(N1*M0):=by ac_rfl
 have e3:Bw^q*N1*(Bw^q*M1)=Bw^q*Bw^q*(N1*M1):=by ac_rfl
 rw[e1,e2,e3]
 omega
theorem zjX {D q m:Nat}(h:Bw^q*D<Bw^m)(hq:q≤m):lenL D≤m - q:=by
 rw[zai]
 rw[show m=q+(m - q) by omega,zaR]at h
 exact Nat.lt_of_mul_lt_mul_left h
theorem zlO {N0 N1 M0 M1:Nat}:N0*M0+N1*M1≤(N0+N1)*(M0+M1):=by
 rw[Nat.add_mul,Nat.mul_add,Nat.mul_add];omega
theorem zg5 (N q:Nat):N%Bw^q+Bw^q*(N/Bw^q)=N:=Nat.mod_add_div N _
theorem zhO (bx m:Nat)(HP:zew bx m)(A A':Option Addr)(n n' c c' N M:Nat)(w:World)(hbx:Boxed w bx 94 (.func (.func 124) #[] #[.pointer (some ⟨bx,0,none⟩)])) (hn:n≤1000000000000) (h2:2≤n') (h3:n'≤n) (h4:n<2*n') (hm:n+3<m) (h:Rd w w.heap.size A n N) (h':Rd w w.heap.size A' n' M)
  (hnc:n≤c) (hcb:c≤9223372036854775807) (hnc':n'≤c') (hcb':c'≤9223372036854775807):
  Calls Tryz.prog 127 #[.slice A n c,.slice A' n' c',.func (.func 124) #[] #[.pointer (some ⟨bx,0,none⟩)]] w (Gives w (N*M)):=by
 obtain⟨ad,rfl,_,_⟩:=h.at_ (k:=0) (by omega)
 obtain⟨ad',rfl,_,_⟩:=h'.at_ (k:=0) (by omega)
 obtain⟨q,hq⟩:∃q,(n+1)/2=q:=⟨_,rfl⟩
 have hqi:((n:Int)+1)/2=(q:Int):=by omega
 have hq1:q≤n:=by omega
 have hq2:q≤n':=by omega
 have hq3:2*q≤n+1:=by omega
 have hq4:n≤2*q:=by omega
 have hA0:=zsi (h.low hq1)
 have hA1:=zsi (h.high hq1)
 have hB0:=zsi (h'.low hq2)
 obtain⟨Bh,hBh⟩:∃Bh,(if c'=q then some ad' else some (ad'.add q))=Bh:=⟨_,rfl⟩
 have hB1:Hid (Rd w w.heap.size Bh (n' - q) (M/Bw^q)):=by
  have:=h'.high hq2
  rw[←hBh]
  split
  ·exact this.empty (by omega)
  ·exact this
 have hqn:q<n:=by omega
 have hqc0: ¬c=q:=by omega
 have hqc:q≤c:=by omega
 have hqc':q≤c':=by omega
 clear hq
 obtain⟨N0,hN0⟩:∃N0,N%Bw^q=N0:=⟨_,rfl⟩
 obtain⟨N1,hN1⟩:∃N1,N/Bw^q=N1:=⟨_,rfl⟩
 obtain⟨M0,hM0⟩:∃M0,M%Bw^q=M0:=⟨_,rfl⟩
 obtain⟨M1,hM1⟩:∃M1,M/Bw^q=M1:=⟨_,rfl⟩
 rw[hN0]at hA0
 rw[hN1]at hA1
 rw[hM0]at hB0
 rw[hM1]at hB1
 have l0:=zai.2 hA0.out.1
 have l1:=zai.2 hA1.out.1
 have l2:=zai.2 hB0.out.1
 have l3:=zai.2 hB1.out.1
 have EL:=zsi (fun(W:World) (hB:Below w.heap.size w W)=>HP W (some ad) (some ad') q q c c' N0 M0 (zaE hbx hB hbx.lt) ((hA0.out.below hB).more hB.size) ((hB0.out.below hB).more hB.size) (by omega) hcb (by omega) hcb' (by omega) (by omega) (by omega))
 have EH:=zsi (fun(W:World) (hB:Below w.heap.size w W)=>HP W (some (ad.add q)) Bh (n - q) (n' - q) (c - q) (c' - q) N1 M1 (zaE hbx hB hbx.lt) ((hA1.out.below hB).more hB.size) ((hB1.out.below hB).more hB.size) (by omega) (by omega) (by omega) (by omega) (by omega) (by omega) (by omega))
 have HN:=zsi hN0
 have HN':=zsi hN1
 have HM:=zsi hM0
 have HM':=zsi hM1
 clear hN0 hN1 hM0 hM1
 go_enter Tryz.func127,Tryz.ntmps127
 go_wp2
 go_region_with (go_at_call 124;refine(EL.out _ (Below.drew (Below.refl _ w))).mono ?_;rintro e wa ⟨Al,cl,rfl,a1,a2,a3,a4⟩)
 simp only[List.getElem_toArray,List.getElem_cons_succ,List.getElem_cons_zero,Act.put,List.setIfInBounds_toArray,List.set_cons_zero,List.set_cons_succ]
 have hBa:Below w.heap.size w wa:=(Below.drew (Below.refl _ w)).trans a4
 have HL:=zsi (show Fr wa w.heap.size wa.heap.size Al (lenL (N0*M0)) (N0*M0)from a3)
 clear a3 a4
 go_wp2
 go_region_with (go_at_call 124;refine(EH.out _ hBa.drew).mono ?_;rintro e wb ⟨Ah,ch,rfl,b1,b2,b3,b4⟩)
 simp only[List.getElem_toArray,List.getElem_cons_succ,List.getElem_cons_zero,Act.put,List.setIfInBounds_toArray,List.set_cons_zero,List.set_cons_succ]
 have hBb:Below w.heap.size w wb:=hBa.trans ((zbo b4).mono hBa.size)
 have HL2:=zsi (HL.out.keep (zbo b4))
 have HH:=zsi (show Fr wb wa.heap.size wb.heap.size Ah (lenL (N1*M1)) (N1*M1)from b3)
 have hab:wa.heap.size≤wb.heap.size:=(zbo b4).size
 clear b3 b4 HL
 go_wp2
 have xa0:(Num.mk (some ad) q c N0).ok w w.heap.size:=⟨hA0.out,hqc,by simpa[maxLen]using hcb,by show q≤35184372087808;omega⟩
 have xa1:(Num.mk (some (ad.add q)) (n - q) (c - q) N1).ok w w.heap.size:=⟨hA1.out,by simp only;omega,by simp only[maxLen];omega,by simp only;omega⟩
 have xb0:(Num.mk (some ad') q c' M0).ok w w.heap.size:=⟨hB0.out,hqc',by simpa[maxLen]using hcb',by show q≤35184372087808;omega⟩
 have xb1:(Num.mk Bh (n' - q) (c' - q) M1).ok w w.heap.size:=⟨hB1.out,by simp only;omega,by simp only[maxLen];omega,by simp only;omega⟩
 have HSum:=zsi (show N0*M0+Bw^q*((N0+N1)*(M0+M1) - (N0*M0+N1*M1))+Bw^(2*q)*(N1*M1)=N*M by rw[zjW,←HN.out,←HN'.out,←HM.out,←HM'.out,zg5,zg5])
 have lS:lenL (N0+N1)≤q+1:=zcz hA0.out.1 (zat hA1.out.1 (by omega))
 have lT:lenL (M0+M1)≤q+1:=zcz hB0.out.1 (zat hB1.out.1 (by omega))
 have hT:=zsi (show N*M<Bw^(n+n')from zbZ h.1 h'.1)
 have hpow0:0+Bw^0*(N0*M0)=N0*M0:=by rw[Nat.pow_zero,Nat.one_mul,Nat.zero_add]
 have HT3:=zsi (show 0+Bw^0*(N0*M0)+Bw^q*((N0+N1)*(M0+M1) - (N0*M0+N1*M1))+Bw^(2*q)*(N1*M1)=N*M by rw[hpow0];exact HSum.out)
 have HT2:=zsi (show 0+Bw^0*(N0*M0)+Bw^q*((N0+N1)*(M0+M1) - (N0*M0+N1*M1))<Bw^(n+n') by have:=HT3.out;have:=hT.out;omega)
 have HT1:=zsi (show 0+Bw^0*(N0*M0)<Bw^(n+n') by have:=HT2.out;omega)
 have HD:=zsi (show Bw^q*((N0+N1)*(M0+M1) - (N0*M0+N1*M1))<Bw^(n+n') by have:=HT2.out;omega)
 have lD:=zjX HD.out (by omega:q≤n+n')
 have lL:lenL (N0*M0)≤q+q:=zai.2 (zbZ hA0.out.1 hB0.out.1)
 have lH:lenL (N1*M1)≤(n - q)+(n' - q):=zai.2 (zbZ hA1.out.1 hB1.out.1)
 have lS2:lenL (N0*M0+N1*M1)≤q+q+1:=zcz (zbZ hA0.out.1 hB0.out.1) (zat (zbZ hA1.out.1 hB1.out.1) (by omega))
 have lP:lenL ((N0+N1)*(M0+M1))≤(q+1)+(q+1):=zai.2 (zbZ (zai.1 lS) (zai.1 lT))
 have EA1:=zsi (fun(W:World) (g:Nat) (hb:Buf W g (n+n') 0) (hr:Rn W g Al (lenL (N0*M0)) (N0*M0)) (hg:g<W.heap.size)=>zd2 W g (n+n') (n+n') 0 (lenL (N0*M0)) cl 0 (N0*M0) Al hb HT1.out (by omega) (by omega) (by omega) hr hg)
 have EA2:=zsi (fun(W:World) (g:Nat) (Ad:Option Addr) (cd:Nat) (hb:Buf W g (n+n') (0+Bw^0*(N0*M0))) (hr:Rn W g Ad (lenL ((N0+N1)*(M0+M1) - (N0*M0+N1*M1))) ((N0+N1)*(M0+M1) - (N0*M0+N1*M1))) (hg:g<W.heap.size)=>zd2 W g (n+n') (n+n') q (lenL ((N0+N1)*(M0+M1) - (N0*M0+N1*M1))) cd (0+Bw^0*(N0*M0)) ((N0+N1)*(M0+M1) - (N0*M0+N1*M1)) Ad hb HT2.out (by omega) (by omega) (by omega) hr hg)
 have EA3:=zsi (fun(W:World) (g:Nat) (hb:Buf W g (n+n') (0+Bw^0*(N0*M0)+Bw^q*((N0+N1)*(M0+M1) - (N0*M0+N1*M1)))) (hr:Rn W g Ah (lenL (N1*M1)) (N1*M1)) (hg:g<W.heap.size)=>zd2 W g (n+n') (n+n') (2*q) (lenL (N1*M1)) ch (0+Bw^0*(N0*M0)+Bw^q*((N0+N1)*(M0+M1) - (N0*M0+N1*M1))) (N1*M1) Ah hb (by rw[HT3.out];exact hT.out) (by omega) (by omega) (by omega) hr hg)
 rw[HT3.out]at EA3
 rw[show((0:Nat):Int)=0 from rfl]at EA1
 rw[show((2*q:Nat):Int)=2*(q:Int)from by omega]at EA3
 have HLE:=zsi (zlO (N0:=N0) (N1:=N1) (M0:=M0) (M1:=M1))
 clear hpow0
 refine wp_region_any (by kernel_rfl) ?_
 change wpAny _ _ _ _ _ _ _ (World.drew _)
 refine wpAny_take (i:=0) (v:=_) rfl (by kernel_rfl) (by kernel_rfl) (by kernel_rfl) (fun _ _ _ h=>h) (Or.inl ⟨by rfl,fun w=>BigFrame.run_move (.tmp 2) rfl w⟩) ?_
 simp only[Act.eval,List.getElem_toArray,List.getElem_cons_zero,Act.put,List.setIfInBounds_toArray,List.set_cons_zero,List.set_cons_succ]
 refine wpAny_take (i:=1) (v:=_) rfl (by kernel_rfl) (by kernel_rfl) (by kernel_rfl) (fun _ _ _ h=>h) (Or.inl ⟨by rfl,fun w=>BigFrame.run_move (.tmp 0) rfl w⟩) ?_
 simp only[Act.eval,List.getElem_toArray,List.getElem_cons_succ,List.getElem_cons_zero,Act.put,List.setIfInBounds_toArray,List.set_cons_zero,List.set_cons_succ]
 refine wpAny_take (i:=2) (v:=_) rfl (by kernel_rfl) (by kernel_rfl) (by kernel_rfl) (fun _ _ _ h=>h) (Or.inl ⟨by rfl,fun w=>BigFrame.run_move (.tmp 7) rfl w⟩) ?_
 simp only[Act.eval,List.getElem_toArray,List.getElem_cons_succ,List.getElem_cons_zero,Act.put,List.setIfInBounds_toArray,List.set_cons_zero,List.set_cons_succ]
 refine wpAny_take (i:=3) (v:= .slice (some ad) q c) rfl (by kernel_rfl) (by kernel_rfl) (by kernel_rfl) (fun _ _ _ h=>h) (Or.inl ⟨by rfl,fun w=>by go_simp⟩) ?_
 simp only[List.getElem_toArray,List.getElem_cons_succ,List.getElem_cons_zero,Act.put,List.setIfInBounds_toArray,List.set_cons_zero,List.set_cons_succ]
 refine wpAny_take (i:=4) (v:=_) rfl (by kernel_rfl) (by kernel_rfl) (by kernel_rfl) (fun _ _ _ h=>h) (Or.inl ⟨by rfl,fun w=>BigFrame.run_move (.tmp 0) rfl w⟩) ?_
 simp only[Act.eval,List.getElem_toArray,List.getElem_cons_succ,List.getElem_cons_zero,Act.put,List.setIfInBounds_toArray,List.set_cons_zero,List.set_cons_succ]
 refine wpAny_take (i:=5) (v:=_) rfl (by kernel_rfl) (by kernel_rfl) (by kernel_rfl) (fun _ _ _ h=>h) (Or.inl ⟨by rfl,fun w=>BigFrame.run_move (.tmp 7) rfl w⟩) ?_
 simp only[Act.eval,List.getElem_toArray,List.getElem_cons_succ,List.getElem_cons_zero,Act.put,List.setIfInBounds_toArray,List.set_cons_zero,List.set_cons_succ]
 refine wpAny_take (i:=6) (v:= .slice (some (ad.add q)) (n - q) (c - q)) rfl (by kernel_rfl) (by kernel_rfl) (by kernel_rfl) (fun _ _ _ h=>h) (Or.inl ⟨by rfl,fun w=>by go_simp⟩) ?_
 simp only[List.getElem_toArray,List.getElem_cons_succ,List.getElem_cons_zero,Act.put,List.setIfInBounds_toArray,List.set_cons_zero,List.set_cons_succ]
 refine wpAny_take (i:=9) (v:=_) rfl (by kernel_rfl) (by kernel_rfl) (by kernel_rfl) (fun _ _ _ h=>h) (Or.inl ⟨by rfl,fun w=>BigFrame.run_move (.tmp 1) rfl w⟩) ?_
 simp only[Act.eval,List.getElem_toArray,List.getElem_cons_succ,List.getElem_cons_zero,Act.put,List.setIfInBounds_toArray,List.set_cons_zero,List.set_cons_succ]
 refine wpAny_take (i:=10) (v:=_) rfl (by kernel_rfl) (by kernel_rfl) (by kernel_rfl) (fun _ _ _ h=>h) (Or.inl ⟨by rfl,fun w=>BigFrame.run_move (.tmp 7) rfl w⟩) ?_
 simp only[Act.eval,List.getElem_toArray,List.getElem_cons_succ,List.getElem_cons_zero,Act.put,List.setIfInBounds_toArray,List.set_cons_zero,List.set_cons_succ]
 refine wpAny_take (i:=11) (v:= .slice (some ad') q c') rfl (by kernel_rfl) (by kernel_rfl) (by kernel_rfl) (fun _ _ _ h=>h) (Or.inl ⟨by rfl,fun w=>by go_simp⟩) ?_
 simp only[List.getElem_toArray,List.getElem_cons_succ,List.getElem_cons_zero,Act.put,List.setIfInBounds_toArray,List.set_cons_zero,List.set_cons_succ]
 refine wpAny_take (i:=12) (v:=_) rfl (by kernel_rfl) (by kernel_rfl) (by kernel_rfl) (fun _ _ _ h=>h) (Or.inl ⟨by rfl,fun w=>BigFrame.run_move (.tmp 1) rfl w⟩) ?_
 simp only[Act.eval,List.getElem_toArray,List.getElem_cons_succ,List.getElem_cons_zero,Act.put,List.setIfInBounds_toArray,List.set_cons_zero,List.set_cons_succ]
 refine wpAny_take (i:=13) (v:=_) rfl (by kernel_rfl) (by kernel_rfl) (by kernel_rfl) (fun _ _ _ h=>h) (Or.inl ⟨by rfl,fun w=>BigFrame.run_move (.tmp 7) rfl w⟩) ?_
 simp only[Act.eval,List.getElem_toArray,List.getElem_cons_succ,List.getElem_cons_zero,Act.put,List.setIfInBounds_toArray,List.set_cons_zero,List.set_cons_succ]
 refine wpAny_take (i:=14) (v:= .slice Bh (n' - q) (c' - q)) rfl (by kernel_rfl) (by kernel_rfl) (by kernel_rfl) (fun _ _ _ h=>h) (Or.inl ⟨by rfl,fun w=>by go_simp⟩) ?_
 simp only[List.getElem_toArray,List.getElem_cons_succ,List.getElem_cons_zero,Act.put,List.setIfInBounds_toArray,List.set_cons_zero,List.set_cons_succ]
 refine wpAny_ready (rs:=[7,15]) (by kernel_rfl) (by simp) ?_
 refine AllReady.cons rfl (fun K hK=>?_) ?_
 ·go_simp
  refine hK _ _ ?_
  clear hK K
  refine wpAny_ready (rs:=[8,15]) (by kernel_rfl) (by simp) ?_
  refine AllReady.cons rfl (fun K hK=>?_) ?_
  ·go_simp
   have kU:Below wb.heap.size wb (wb.alloc (Obj.cells #[Value.slice (some ad) q c,Value.slice (some (ad.add q)) (n - q) (c - q)] 23)).drew:=((Below.refl _ wb).alloc zsk _).drew
   have lit1:=(Lit.new wb 23 (.slice (some ad) q c) (.slice (some (ad.add q)) (n - q) (c - q))).drew
   refine(zcE (x:=Num.mk (some ad) q c N0) (y:=Num.mk (some (ad.add q)) (n - q) (c - q) N1) xa0 xa1 (hBb.trans (kU.mono hBb.size)) lit1).mono ?_
   rintro e w1 ⟨As,cs,rfl,s1,s2,s3,s4⟩
   dsimp only at s1 s3
   have k1:Below wb.heap.size wb w1:=kU.trans (s4.mono kU.size)
   replace s3:=s3.from kU.size
   clear s4 lit1 kU
   refine hK _ _ ?_
   clear hK K
   refine wpAny_ready (rs:=[15]) (by kernel_rfl) (by simp) ?_
   refine AllReady.cons rfl (fun K hK=>?_) ?_
   ·go_simp
    refine hK _ _ ?_
    clear hK K
    refine wpAny_ready (rs:=[16]) (by kernel_rfl) (by simp) ?_
    refine AllReady.cons rfl (fun K hK=>?_) ?_
    ·go_simp
     have lit2:=Lit.new w1 23 (.slice (some ad') q c') (.slice Bh (n' - q) (c' - q))
     replace s3:=(s3.keep ((Below.refl w1.heap.size w1).alloc zsk (Obj.cells #[Value.slice (some ad') q c',Value.slice Bh (n' - q) (c' - q)] 23))).more (hi':=(w1.alloc (Obj.cells #[Value.slice (some ad') q c',Value.slice Bh (n' - q) (c' - q)] 23)).heap.size) (by simp)
     replace k1:=k1.alloc k1.size (Obj.cells #[Value.slice (some ad') q c',Value.slice Bh (n' - q) (c' - q)] 23)
     generalize hV:w1.alloc (Obj.cells #[Value.slice (some ad') q c',Value.slice Bh (n' - q) (c' - q)] 23)=V at*
     refine(zcE (x:=Num.mk (some ad') q c' M0) (y:=Num.mk Bh (n' - q) (c' - q) M1) xb0 xb1 (hBb.trans (k1.mono hBb.size)) lit2).mono ?_
     rintro e w2 ⟨At,ct,rfl,t1,t2,t3,t4⟩
     dsimp only at t1 t3
     have k2:Below wb.heap.size wb w2:=k1.trans (t4.mono k1.size)
     replace s3:=s3.keep t4
     replace s3:=s3.more t4.size
     replace t3:=t3.from k1.size
     clear t4 lit2 k1 hV
     refine hK _ _ ?_
     clear hK K
     refine wpAny_ready (rs:=[17]) (by kernel_rfl) (by simp) ?_
     refine AllReady.cons rfl (fun K hK=>?_) ?_
     ·go_simp
      have EM:=zsi (HP w2 As At (lenL (N0+N1)) (lenL (M0+M1)) cs ct (N0+N1) (M0+M1) (zaE hbx (hBb.trans (k2.mono hBb.size)) hbx.lt) s3.rd t3.rd s1 (by simpa[maxLen]using s2) t1 (by simpa[maxLen]using t2) (by omega) (by omega) (by omega))
      clear s3 t3
      refine EM.out.mono ?_
      rintro e w3 ⟨Am,cm,rfl,m1,m2,m3,m4⟩
      have k3:Below wb.heap.size wb w3:=k2.trans (m4.mono k2.size)
      clear m4 k2 EM
      refine hK _ _ ?_
      clear hK K
      refine wpAny_take (i:=18) (v:=_) rfl (by kernel_rfl) (by kernel_rfl) (by kernel_rfl) (fun _ _ _ h=>h) (Or.inl ⟨by rfl,fun w=>BigFrame.run_assign (.tmp 49) rfl w⟩) ?_
      simp only[Act.eval,List.getElem_toArray,List.getElem_cons_succ,List.getElem_cons_zero,Act.put,List.setIfInBounds_toArray,List.set_cons_zero,List.set_cons_succ]
      refine wpAny_done (by kernel_rfl) ?_ _
      have rl:(Num.mk Al (lenL (N0*M0)) cl (N0*M0)).ok w3 w3.heap.size:=⟨(((HL2.out.rd.more hab).below k3).more k3.size),a1,a2,by show lenL (N0*M0)≤35184372087808;omega⟩
      have rh:(Num.mk Ah (lenL (N1*M1)) ch (N1*M1)).ok w3 w3.heap.size:=⟨((HH.out.rd.below k3).more k3.size),b1,b2,by show lenL (N1*M1)≤35184372087808;omega⟩
      have ES:=zsi (zcE rl rh ((Below.refl _ w3).alloc zsk (Obj.cells #[Value.slice Al (lenL (N0*M0)) cl,Value.slice Ah (lenL (N1*M1)) ch] 23)) (Lit.new w3 23 (.slice Al (lenL (N0*M0)) cl) (.slice Ah (lenL (N1*M1)) ch)))
      go_wp2_with fail
      refine ES.out.mono ?_
      rintro e w4 ⟨Au,cu,rfl,u1,u2,u3,u4⟩
      try dsimp only at u1 u3
      have k4:Below w3.heap.size w3 w4:=((Below.refl _ w3).alloc zsk _).trans (u4.mono (by simp))
      have ED:=zsi (zfQ w4 Am Au (lenL ((N0+N1)*(M0+M1))) (lenL (N0*M0+N1*M1)) cm cu ((N0+N1)*(M0+M1)) (N0*M0+N1*M1) ((m3.rd.below k4).more k4.size) u3.rd (by omega) (by omega) m1 m2 HLE.out)
      clear u3 u4 m3 ES
      go_wp2_with fail
      refine ED.out.mono ?_
      rintro e w5 ⟨Ad,cd,rfl,d1,d2,d3,d4⟩
      have k5:Below w3.heap.size w3 w5:=k4.trans (d4.mono k4.size)
      have hw5:Below w.heap.size w w5:=hBb.trans ((k3.trans (k5.mono k3.size)).mono hBb.size)
      obtain⟨w6,hmk,hF6,hb6,hs6⟩:=zbB w5 (n+n') (by omega)
      rw[show(((n+n':Nat)):Int)=(n:Int)+(n':Int)from by omega]at hmk
      have HB6:=zsi (Buf.of_fr hF6)
      have hg6:w5.heap.size<w6.heap.size:=by omega
      have E1:=zsi (EA1.out w6 w5.heap.size HB6.out ((((rl.1.below k5).more k5.size).below hb6).rn zsk) hg6)
      have RD:=zsi ((d3.rd.below hb6).rn zsk)
      have RH:=zsi (((rh.1.below k5).more k5.size).below hb6 |>.rn zsk)
      have hw6:Below w.heap.size w w6:=hw5.trans (hb6.mono hw5.size)
      clear hF6 hs6 d3 d4 ED
      go_wp2_with fail
      refine E1.out.mono ?_
      rintro e w7 ⟨⟨v7,rfl⟩,hG7,hb7⟩
      have hg7:=zsn hg6 hG7.size
      have E2:=zsi (EA2.out w7 w5.heap.size Ad cd hb7 (RD.out.grown hG7) hg7)
      clear hmk E1 hb7
      go_wp2_with fail
      refine E2.out.mono ?_
      rintro e w8 ⟨⟨v8,rfl⟩,hG8,hb8⟩
      have hg8:=zsn hg7 hG8.size
      have E3:=zsi (EA3.out w8 w5.heap.size hb8 ((RH.out.grown hG7).grown hG8) hg8)
      clear E2 hb8
      go_wp2_with fail
      refine E3.out.mono ?_
      rintro e w9 ⟨⟨v9,rfl⟩,hG9,hb9⟩
      have hg9:=zsn hg8 hG9.size
      have hF9:Fr w9 w.heap.size w9.heap.size (some ⟨w5.heap.size,0,none⟩) (n+n') (N*M):=hb9.fr hT.out hw5.size hg9
      have E4:=zsi (zbU w9 _ _ (n+n') (n+n') (N*M) hF9.rd zsk (by omega))
      have hw9:=zsi (hw6.trans ((zaK (hG7.trans (hG8.trans hG9)) (Nat.le_of_lt hg6)).mono hw5.size))
      clear E3 hb9
      go_wp2_with fail
      refine E4.out.mono ?_
      rintro e w' ⟨rfl,rfl⟩
      go_wp2
      go_ret
      exact zcn hF9 (by simp only[maxLen];omega) hw9.out
     exact AllReady.nil
    exact AllReady.nil
   exact AllReady.nil
  refine AllReady.cons rfl (fun K hK=>?_) ?_
  ·go_simp
   refine hK _ _ ?_
   clear hK K
   refine wpAny_ready (rs:=[8]) (by kernel_rfl) (by simp) ?_
   refine AllReady.cons rfl (fun K hK=>?_) ?_
   ·go_simp
    have kU:Below wb.heap.size wb ((wb.alloc (Obj.cells #[Value.slice (some ad) q c,Value.slice (some (ad.add q)) (n - q) (c - q)] 23)).alloc (Obj.cells #[Value.slice (some ad') q c',Value.slice Bh (n' - q) (c' - q)] 23)).drew:=(((Below.refl _ wb).alloc zsk _).alloc (by simp) _).drew
    have lit1:=((Lit.new wb 23 (.slice (some ad) q c) (.slice (some (ad.add q)) (n - q) (c - q))).alloc (Obj.cells #[Value.slice (some ad') q c',Value.slice Bh (n' - q) (c' - q)] 23)).drew
    have lit2:=(Lit.new (wb.alloc (Obj.cells #[Value.slice (some ad) q c,Value.slice (some (ad.add q)) (n - q) (c - q)] 23)) 23 (.slice (some ad') q c') (.slice Bh (n' - q) (c' - q))).drew
    rw[World.size_alloc]at lit2
    refine(zcE (x:=Num.mk (some ad) q c N0) (y:=Num.mk (some (ad.add q)) (n - q) (c - q) N1) xa0 xa1 (hBb.trans (kU.mono hBb.size)) lit1).mono ?_
    rintro e w1 ⟨As,cs,rfl,s1,s2,s3,s4⟩
    dsimp only at s1 s3
    have k1:Below wb.heap.size wb w1:=kU.trans (s4.mono kU.size)
    replace lit2:=lit2.later s4
    replace s3:=s3.from kU.size
    clear s4 lit1 kU
    refine hK _ _ ?_
    clear hK K
    refine wpAny_ready (rs:=[16]) (by kernel_rfl) (by simp) ?_
    refine AllReady.cons rfl (fun K hK=>?_) ?_
    ·go_simp
     generalize hV:w1=V at*
     refine(zcE (x:=Num.mk (some ad') q c' M0) (y:=Num.mk Bh (n' - q) (c' - q) M1) xb0 xb1 (hBb.trans (k1.mono hBb.size)) lit2).mono ?_
     rintro e w2 ⟨At,ct,rfl,t1,t2,t3,t4⟩
     dsimp only at t1 t3
     have k2:Below wb.heap.size wb w2:=k1.trans (t4.mono k1.size)
     replace s3:=s3.keep t4
     replace s3:=s3.more t4.size
     replace t3:=t3.from k1.size
     clear t4 lit2 k1 hV
     refine hK _ _ ?_
     clear hK K
     refine wpAny_ready (rs:=[17]) (by kernel_rfl) (by simp) ?_
     refine AllReady.cons rfl (fun K hK=>?_) ?_
     ·go_simp
      have EM:=zsi (HP w2 As At (lenL (N0+N1)) (lenL (M0+M1)) cs ct (N0+N1) (M0+M1) (zaE hbx (hBb.trans (k2.mono hBb.size)) hbx.lt) s3.rd t3.rd s1 (by simpa[maxLen]using s2) t1 (by simpa[maxLen]using t2) (by omega) (by omega) (by omega))
      clear s3 t3
      refine EM.out.mono ?_
      rintro e w3 ⟨Am,cm,rfl,m1,m2,m3,m4⟩
      have k3:Below wb.heap.size wb w3:=k2.trans (m4.mono k2.size)
      clear m4 k2 EM
      refine hK _ _ ?_
      clear hK K
      refine wpAny_take (i:=18) (v:=_) rfl (by kernel_rfl) (by kernel_rfl) (by kernel_rfl) (fun _ _ _ h=>h) (Or.inl ⟨by rfl,fun w=>BigFrame.run_assign (.tmp 49) rfl w⟩) ?_
      simp only[Act.eval,List.getElem_toArray,List.getElem_cons_succ,List.getElem_cons_zero,Act.put,List.setIfInBounds_toArray,List.set_cons_zero,List.set_cons_succ]
      refine wpAny_done (by kernel_rfl) ?_ _
      have rl:(Num.mk Al (lenL (N0*M0)) cl (N0*M0)).ok w3 w3.heap.size:=⟨(((HL2.out.rd.more hab).below k3).more k3.size),a1,a2,by show lenL (N0*M0)≤35184372087808;omega⟩
      have rh:(Num.mk Ah (lenL (N1*M1)) ch (N1*M1)).ok w3 w3.heap.size:=⟨((HH.out.rd.below k3).more k3.size),b1,b2,by show lenL (N1*M1)≤35184372087808;omega⟩
      have ES:=zsi (zcE rl rh ((Below.refl _ w3).alloc zsk (Obj.cells #[Value.slice Al (lenL (N0*M0)) cl,Value.slice Ah (lenL (N1*M1)) ch] 23)) (Lit.new w3 23 (.slice Al (lenL (N0*M0)) cl) (.slice Ah (lenL (N1*M1)) ch)))
      go_wp2_with fail
      refine ES.out.mono ?_
      rintro e w4 ⟨Au,cu,rfl,u1,u2,u3,u4⟩
      try dsimp only at u1 u3
      have k4:Below w3.heap.size w3 w4:=((Below.refl _ w3).alloc zsk _).trans (u4.mono (by simp))
      have ED:=zsi (zfQ w4 Am Au (lenL ((N0+N1)*(M0+M1))) (lenL (N0*M0+N1*M1)) cm cu ((N0+N1)*(M0+M1)) (N0*M0+N1*M1) ((m3.rd.below k4).more k4.size) u3.rd (by omega) (by omega) m1 m2 HLE.out)
      clear u3 u4 m3 ES
      go_wp2_with fail
      refine ED.out.mono ?_
      rintro e w5 ⟨Ad,cd,rfl,d1,d2,d3,d4⟩
      have k5:Below w3.heap.size w3 w5:=k4.trans (d4.mono k4.size)
      have hw5:Below w.heap.size w w5:=hBb.trans ((k3.trans (k5.mono k3.size)).mono hBb.size)
      obtain⟨w6,hmk,hF6,hb6,hs6⟩:=zbB w5 (n+n') (by omega)
      rw[show(((n+n':Nat)):Int)=(n:Int)+(n':Int)from by omega]at hmk
      have HB6:=zsi (Buf.of_fr hF6)
      have hg6:w5.heap.size<w6.heap.size:=by omega
      have E1:=zsi (EA1.out w6 w5.heap.size HB6.out ((((rl.1.below k5).more k5.size).below hb6).rn zsk) hg6)
      have RD:=zsi ((d3.rd.below hb6).rn zsk)
      have RH:=zsi (((rh.1.below k5).more k5.size).below hb6 |>.rn zsk)
      have hw6:Below w.heap.size w w6:=hw5.trans (hb6.mono hw5.size)
      clear hF6 hs6 d3 d4 ED
      go_wp2_with fail
      refine E1.out.mono ?_
      rintro e w7 ⟨⟨v7,rfl⟩,hG7,hb7⟩
      have hg7:=zsn hg6 hG7.size
      have E2:=zsi (EA2.out w7 w5.heap.size Ad cd hb7 (RD.out.grown hG7) hg7)
      clear hmk E1 hb7
      go_wp2_with fail
      refine E2.out.mono ?_
      rintro e w8 ⟨⟨v8,rfl⟩,hG8,hb8⟩
      have hg8:=zsn hg7 hG8.size
      have E3:=zsi (EA3.out w8 w5.heap.size hb8 ((RH.out.grown hG7).grown hG8) hg8)
      clear E2 hb8
      go_wp2_with fail
      refine E3.out.mono ?_
      rintro e w9 ⟨⟨v9,rfl⟩,hG9,hb9⟩
      have hg9:=zsn hg8 hG9.size
      have hF9:Fr w9 w.heap.size w9.heap.size (some ⟨w5.heap.size,0,none⟩) (n+n') (N*M):=hb9.fr hT.out hw5.size hg9
      have E4:=zsi (zbU w9 _ _ (n+n') (n+n') (N*M) hF9.rd zsk (by omega))
      have hw9:=zsi (hw6.trans ((zaK (hG7.trans (hG8.trans hG9)) (Nat.le_of_lt hg6)).mono hw5.size))
      clear E3 hb9
      go_wp2_with fail
      refine E4.out.mono ?_
      rintro e w' ⟨rfl,rfl⟩
      go_wp2
      go_ret
      exact zcn hF9 (by simp only[maxLen];omega) hw9.out
     exact AllReady.nil
    exact AllReady.nil
   exact AllReady.nil
  exact AllReady.nil
 refine AllReady.cons rfl (fun K hK=>?_) ?_
 ·go_simp
  refine hK _ _ ?_
  clear hK K
  refine wpAny_ready (rs:=[7]) (by kernel_rfl) (by simp) ?_
  refine AllReady.cons rfl (fun K hK=>?_) ?_
  ·go_simp
   refine hK _ _ ?_
   clear hK K
   refine wpAny_ready (rs:=[8]) (by kernel_rfl) (by simp) ?_
   refine AllReady.cons rfl (fun K hK=>?_) ?_
   ·go_simp
    have kU:Below wb.heap.size wb ((wb.alloc (Obj.cells #[Value.slice (some ad') q c',Value.slice Bh (n' - q) (c' - q)] 23)).alloc (Obj.cells #[Value.slice (some ad) q c,Value.slice (some (ad.add q)) (n - q) (c - q)] 23)).drew:=(((Below.refl _ wb).alloc zsk _).alloc (by simp) _).drew
    have lit1:=(Lit.new (wb.alloc (Obj.cells #[Value.slice (some ad') q c',Value.slice Bh (n' - q) (c' - q)] 23)) 23 (.slice (some ad) q c) (.slice (some (ad.add q)) (n - q) (c - q))).drew
    rw[World.size_alloc]at lit1
    have lit2:=((Lit.new wb 23 (.slice (some ad') q c') (.slice Bh (n' - q) (c' - q))).alloc (Obj.cells #[Value.slice (some ad) q c,Value.slice (some (ad.add q)) (n - q) (c - q)] 23)).drew
    refine(zcE (x:=Num.mk (some ad) q c N0) (y:=Num.mk (some (ad.add q)) (n - q) (c - q) N1) xa0 xa1 (hBb.trans (kU.mono hBb.size)) lit1).mono ?_
    rintro e w1 ⟨As,cs,rfl,s1,s2,s3,s4⟩
    dsimp only at s1 s3
    have k1:Below wb.heap.size wb w1:=kU.trans (s4.mono kU.size)
    replace lit2:=lit2.later s4
    replace s3:=s3.from kU.size
    clear s4 lit1 kU
    refine hK _ _ ?_
    clear hK K
    refine wpAny_ready (rs:=[16]) (by kernel_rfl) (by simp) ?_
    refine AllReady.cons rfl (fun K hK=>?_) ?_
    ·go_simp
     generalize hV:w1=V at*
     refine(zcE (x:=Num.mk (some ad') q c' M0) (y:=Num.mk Bh (n' - q) (c' - q) M1) xb0 xb1 (hBb.trans (k1.mono hBb.size)) lit2).mono ?_
     rintro e w2 ⟨At,ct,rfl,t1,t2,t3,t4⟩
     dsimp only at t1 t3
     have k2:Below wb.heap.size wb w2:=k1.trans (t4.mono k1.size)
     replace s3:=s3.keep t4
     replace s3:=s3.more t4.size
     replace t3:=t3.from k1.size
     clear t4 lit2 k1 hV
     refine hK _ _ ?_
     clear hK K
     refine wpAny_ready (rs:=[17]) (by kernel_rfl) (by simp) ?_
     refine AllReady.cons rfl (fun K hK=>?_) ?_
     ·go_simp
      have EM:=zsi (HP w2 As At (lenL (N0+N1)) (lenL (M0+M1)) cs ct (N0+N1) (M0+M1) (zaE hbx (hBb.trans (k2.mono hBb.size)) hbx.lt) s3.rd t3.rd s1 (by simpa[maxLen]using s2) t1 (by simpa[maxLen]using t2) (by omega) (by omega) (by omega))
      clear s3 t3
      refine EM.out.mono ?_
      rintro e w3 ⟨Am,cm,rfl,m1,m2,m3,m4⟩
      have k3:Below wb.heap.size wb w3:=k2.trans (m4.mono k2.size)
      clear m4 k2 EM
      refine hK _ _ ?_
      clear hK K
      refine wpAny_take (i:=18) (v:=_) rfl (by kernel_rfl) (by kernel_rfl) (by kernel_rfl) (fun _ _ _ h=>h) (Or.inl ⟨by rfl,fun w=>BigFrame.run_assign (.tmp 49) rfl w⟩) ?_
      simp only[Act.eval,List.getElem_toArray,List.getElem_cons_succ,List.getElem_cons_zero,Act.put,List.setIfInBounds_toArray,List.set_cons_zero,List.set_cons_succ]
      refine wpAny_done (by kernel_rfl) ?_ _
      have rl:(Num.mk Al (lenL (N0*M0)) cl (N0*M0)).ok w3 w3.heap.size:=⟨(((HL2.out.rd.more hab).below k3).more k3.size),a1,a2,by show lenL (N0*M0)≤35184372087808;omega⟩
      have rh:(Num.mk Ah (lenL (N1*M1)) ch (N1*M1)).ok w3 w3.heap.size:=⟨((HH.out.rd.below k3).more k3.size),b1,b2,by show lenL (N1*M1)≤35184372087808;omega⟩
      have ES:=zsi (zcE rl rh ((Below.refl _ w3).alloc zsk (Obj.cells #[Value.slice Al (lenL (N0*M0)) cl,Value.slice Ah (lenL (N1*M1)) ch] 23)) (Lit.new w3 23 (.slice Al (lenL (N0*M0)) cl) (.slice Ah (lenL (N1*M1)) ch)))
      go_wp2_with fail
      refine ES.out.mono ?_
      rintro e w4 ⟨Au,cu,rfl,u1,u2,u3,u4⟩
      try dsimp only at u1 u3
      have k4:Below w3.heap.size w3 w4:=((Below.refl _ w3).alloc zsk _).trans (u4.mono (by simp))
      have ED:=zsi (zfQ w4 Am Au (lenL ((N0+N1)*(M0+M1))) (lenL (N0*M0+N1*M1)) cm cu ((N0+N1)*(M0+M1)) (N0*M0+N1*M1) ((m3.rd.below k4).more k4.size) u3.rd (by omega) (by omega) m1 m2 HLE.out)
      clear u3 u4 m3 ES
      go_wp2_with fail
      refine ED.out.mono ?_
      rintro e w5 ⟨Ad,cd,rfl,d1,d2,d3,d4⟩
      have k5:Below w3.heap.size w3 w5:=k4.trans (d4.mono k4.size)
      have hw5:Below w.heap.size w w5:=hBb.trans ((k3.trans (k5.mono k3.size)).mono hBb.size)
      obtain⟨w6,hmk,hF6,hb6,hs6⟩:=zbB w5 (n+n') (by omega)
      rw[show(((n+n':Nat)):Int)=(n:Int)+(n':Int)from by omega]at hmk
      have HB6:=zsi (Buf.of_fr hF6)
      have hg6:w5.heap.size<w6.heap.size:=by omega
      have E1:=zsi (EA1.out w6 w5.heap.size HB6.out ((((rl.1.below k5).more k5.size).below hb6).rn zsk) hg6)
      have RD:=zsi ((d3.rd.below hb6).rn zsk)
      have RH:=zsi (((rh.1.below k5).more k5.size).below hb6 |>.rn zsk)
      have hw6:Below w.heap.size w w6:=hw5.trans (hb6.mono hw5.size)
      clear hF6 hs6 d3 d4 ED
      go_wp2_with fail
      refine E1.out.mono ?_
      rintro e w7 ⟨⟨v7,rfl⟩,hG7,hb7⟩
      have hg7:=zsn hg6 hG7.size
      have E2:=zsi (EA2.out w7 w5.heap.size Ad cd hb7 (RD.out.grown hG7) hg7)
      clear hmk E1 hb7
      go_wp2_with fail
      refine E2.out.mono ?_
      rintro e w8 ⟨⟨v8,rfl⟩,hG8,hb8⟩
      have hg8:=zsn hg7 hG8.size
      have E3:=zsi (EA3.out w8 w5.heap.size hb8 ((RH.out.grown hG7).grown hG8) hg8)
      clear E2 hb8
      go_wp2_with fail
      refine E3.out.mono ?_
      rintro e w9 ⟨⟨v9,rfl⟩,hG9,hb9⟩
      have hg9:=zsn hg8 hG9.size
      have hF9:Fr w9 w.heap.size w9.heap.size (some ⟨w5.heap.size,0,none⟩) (n+n') (N*M):=hb9.fr hT.out hw5.size hg9
      have E4:=zsi (zbU w9 _ _ (n+n') (n+n') (N*M) hF9.rd zsk (by omega))
      have hw9:=zsi (hw6.trans ((zaK (hG7.trans (hG8.trans hG9)) (Nat.le_of_lt hg6)).mono hw5.size))
      clear E3 hb9
      go_wp2_with fail
      refine E4.out.mono ?_
      rintro e w' ⟨rfl,rfl⟩
      go_wp2
      go_ret
      exact zcn hF9 (by simp only[maxLen];omega) hw9.out
     exact AllReady.nil
    exact AllReady.nil
   exact AllReady.nil
  exact AllReady.nil
 exact AllReady.nil
theorem zkT {a b:Nat}(h: ¬2*b≤a):a<2*b:=by omega
theorem zfA (bx m:Nat)(HP:zew bx m)(w:World)(A A':Option Addr)(n n' N M:Nat)(hbx:Boxed w bx 94 (.func (.func 124) #[] #[.pointer (some ⟨bx,0,none⟩)]))
   (h:Rd w w.heap.size A n N) (h':Rd w w.heap.size A' n' M) (hn:n≤1000000000000) (hn':n'≤1000000000000) (hle:n'≤n) (hm:n+n'≤m):
   (n'<80→Calls Tryz.prog 125 #[.slice A n n,.slice A' n' n'] w (Gives w (N*M)))∧
   (80≤n'→2*n'≤n→Calls Tryz.prog 126 #[.slice A n n,.slice A' n' n',.func (.func 124) #[] #[.pointer (some ⟨bx,0,none⟩)]] w (Gives w (N*M)))∧
   (80≤n'→n<2*n'→Calls Tryz.prog 127 #[.slice A n n,.slice A' n' n',.func (.func 124) #[] #[.pointer (some ⟨bx,0,none⟩)]] w (Gives w (N*M))):=
 ⟨fun _=>zjV A A' n n' n n' N M w hn hn' h h',
  fun h1 h2=>zhN bx m HP A A' n n' n n' N M w hbx hn hn' (by omega) (by omega) h h' zsk (by omega) zsk (by omega),
  fun h1 h2=>zhO bx m HP A A' n n' n n' N M w hbx hn (by omega) hle h2 (by omega) h h' zsk (by omega) zsk (by omega)⟩
theorem zlP (bx m:Nat)(HP:zew bx m):zew bx (m+1):=by
 intro w A A' n n' c c' N M hbx h h' hnc hcb hnc' hcb' hn hn' hm
 have E1:=zsi (zbU w _ A n c N h hnc hcb)
 have E2:=zsi (zbU w _ A' n' c' M h' hnc' hcb')
 have l1:=zai.2 h.1
 have l2:=zai.2 h'.1
 have hcb0:=hbx.cell
 have S1:=zsi (fun hle=>zfA bx m HP w (zer N A) (zer M A') (lenL N) (lenL M) N M hbx h.cut h'.cut (by omega) (by omega) hle (by omega))
 have S2:=zsi (fun hle=>zfA bx m HP w (zer M A') (zer N A) (lenL M) (lenL N) M N hbx h'.cut h.cut (by omega) (by omega) hle (by omega))
 rw[Nat.mul_comm M N]at S2
 obtain⟨a,ha⟩:∃a,lenL N=a:=⟨_,rfl⟩
 obtain⟨b,hb⟩:∃b,lenL M=b:=⟨_,rfl⟩
 obtain⟨B,hB⟩:∃B,zer N A=B:=⟨_,rfl⟩
 obtain⟨B',hB'⟩:∃B',zer M A'=B':=⟨_,rfl⟩
 rw[ha,hb,hB,hB']at S1 S2
 rw[ha,hB]at E1
 rw[hb,hB']at E2
 have hab:a≤1000000000000:=by omega
 have hbb:b≤1000000000000:=by omega
 clear ha hb hB hB' h h' hbx l1 l2 hm
 by_cases hlt:a<b
 ·obtain⟨T1,T2,T3⟩:=S2.out (by omega)
  by_cases h80:a<80
  ·have T:=zsi (T1 h80)
   clear T1 T2 T3 S1 S2
   go_enter Tryz.func124,Tryz.ntmps124
   go_wp2_with (first
    |(go_at_call 115;(with_reducible refine E1.out.mono ?_);rintro e w' ⟨rfl,rfl⟩)
    |(go_at_call 115;(with_reducible refine E2.out.mono ?_);rintro e w' ⟨rfl,rfl⟩))
   refine T.out.mono ?_
   rintro e w' ⟨A2,c2,rfl,g1,g2,g3,g4⟩
   go_wp2
   go_ret
   exact⟨A2,c2,rfl,g1,g2,g3,g4⟩
  ·by_cases h2:2*a≤b
   ·have T:=zsi (T2 (by omega) h2)
    clear T1 T2 T3 S1 S2
    go_enter Tryz.func124,Tryz.ntmps124
    go_wp2_with (first
     |(go_at_call 115;(with_reducible refine E1.out.mono ?_);rintro e w' ⟨rfl,rfl⟩)
     |(go_at_call 115;(with_reducible refine E2.out.mono ?_);rintro e w' ⟨rfl,rfl⟩))
    refine T.out.mono ?_
    rintro e w' ⟨A2,c2,rfl,g1,g2,g3,g4⟩
    go_wp2
    go_ret
    exact⟨A2,c2,rfl,g1,g2,g3,g4⟩
   ·have T:=zsi (T3 (by omega) (zkT h2))
    clear T1 T2 T3 S1 S2
    go_enter Tryz.func124,Tryz.ntmps124
    go_wp2_with (first
     |(go_at_call 115;(with_reducible refine E1.out.mono ?_);rintro e w' ⟨rfl,rfl⟩)
     |(go_at_call 115;(with_reducible refine E2.out.mono ?_);rintro e w' ⟨rfl,rfl⟩))
    refine T.out.mono ?_
    rintro e w' ⟨A2,c2,rfl,g1,g2,g3,g4⟩
    go_wp2
    go_ret
    exact⟨A2,c2,rfl,g1,g2,g3,g4⟩
 ·obtain⟨T1,T2,T3⟩:=S1.out (by omega)
  by_cases h80:b<80
  ·have T:=zsi (T1 h80)
   clear T1 T2 T3 S1 S2
   go_enter Tryz.func124,Tryz.ntmps124
   go_wp2_with (first
    |(go_at_call 115;(with_reducible refine E1.out.mono ?_);rintro e w' ⟨rfl,rfl⟩)
    |(go_at_call 115;(with_reducible refine E2.out.mono ?_);rintro e w' ⟨rfl,rfl⟩))
   refine T.out.mono ?_
   rintro e w' ⟨A2,c2,rfl,g1,g2,g3,g4⟩
   go_wp2
   go_ret
   exact⟨A2,c2,rfl,g1,g2,g3,g4⟩
  ·by_cases h2:2*b≤a
   ·have T:=zsi (T2 (by omega) h2)
    clear T1 T2 T3 S1 S2
    go_enter Tryz.func124,Tryz.ntmps124
    go_wp2_with (first
     |(go_at_call 115;(with_reducible refine E1.out.mono ?_);rintro e w' ⟨rfl,rfl⟩)
     |(go_at_call 115;(with_reducible refine E2.out.mono ?_);rintro e w' ⟨rfl,rfl⟩))
    refine T.out.mono ?_
    rintro e w' ⟨A2,c2,rfl,g1,g2,g3,g4⟩
    go_wp2
    go_ret
    exact⟨A2,c2,rfl,g1,g2,g3,g4⟩
   ·have T:=zsi (T3 (by omega) (zkT h2))
    clear T1 T2 T3 S1 S2
    go_enter Tryz.func124,Tryz.ntmps124
    go_wp2_with (first
     |(go_at_call 115;(with_reducible refine E1.out.mono ?_);rintro e w' ⟨rfl,rfl⟩)
     |(go_at_call 115;(with_reducible refine E2.out.mono ?_);rintro e w' ⟨rfl,rfl⟩))
    refine T.out.mono ?_
    rintro e w' ⟨A2,c2,rfl,g1,g2,g3,g4⟩
    go_wp2
    go_ret
    exact⟨A2,c2,rfl,g1,g2,g3,g4⟩
theorem ziP (bx m:Nat):zew bx m:=by
 induction m with
 |zero=>intro w A A' n n' c c' N M _ _ _ _ _ _ _ _ _ h;omega
 |succ m ih=>exact zlP bx m ih
theorem zny (w:World)(A A':Option Addr)(n n' c c' N M:Nat)(h:Rd w w.heap.size A n N)(h':Rd w w.heap.size A' n' M)(hnc:n≤c)(hcb:c≤maxLen)(hnc':n'≤c')(hcb':c'≤maxLen)(hn:n≤1000000000000)(hn':n'≤1000000000000):
  Calls Tryz.prog 105 #[.slice A n c,.slice A' n' c'] w (Gives w (N*M)):=by
 have hcb:c≤9223372036854775807:=by simpa[maxLen]using hcb
 have hcb':c'≤9223372036854775807:=by simpa[maxLen]using hcb'
 have bx:=Boxed.new w 94 (.func (.func 124) #[] #[.pointer (some ⟨w.heap.size,0,none⟩)])
 have hB:Below w.heap.size w (w.alloc (.cells #[.func (.func 124) #[] #[.pointer (some ⟨w.heap.size,0,none⟩)]] 94)):=(Below.refl _ w).alloc zsk _
 have E:=zsi (ziP w.heap.size (lenL N+lenL M+1) _ A A' n n' c c' N M bx ((h.below hB).more hB.size) ((h'.below hB).more hB.size) hnc hcb hnc' hcb' hn hn' (by omega))
 go_enter Tryz.func105,Tryz.ntmps105
 go_wp2_with fail
 refine E.out.mono ?_
 intro e w' hg
 obtain⟨A2,c2,rfl,g1,g2,g3,g4⟩:=hg.alloc
 go_wp2
 go_ret
 exact⟨A2,c2,rfl,g1,g2,g3,g4⟩
theorem zjY {l:List Num}{K:Nat}(h:∀z∈l,z.N<Bw^z.n∧z.n≤K):lenL (zgU l)≤K*l.length+1:=by
 rw[zai]
 induction l with
 |nil=>show 1<Bw^(K*0+1);rw[Nat.mul_zero,Nat.zero_add,Nat.pow_one];decide
 |cons z l ih=>
  have h1:=h z (by simp)
  have h2:=ih (fun y hy=>h y (by simp[hy]))
  have h3:=zbZ (zat h1.1 h1.2) h2
  have e:zgU (z::l)=z.N*zgU l:=by simp[zgU]
  rw[e,List.length_cons,Nat.mul_add,Nat.mul_one,show K*l.length+K+1=K+(K*l.length+1) by omega]
  exact h3
end
section
open Go Go.RowKit
attribute [local go_sem] Oper.semAt_some
theorem zjZ (A:Option Addr)(n c:Nat)(f:Int)(w:World):
  CallsIn Fence.wide 0 Tryz.prog 181 #[.slice A n c,.int .i64 f] w fun e w'=>
   e= .returned (.func (.func 182) #[] #[.pointer (some ⟨w.heap.size+1,0,none⟩),.pointer (some ⟨w.heap.size,0,none⟩)])∧w'=(w.alloc (.cells #[.slice A n c] 23)).alloc (.cells #[.int .i64 f] 3):=by
 refine callsIn_wide.2 ?_
 go_enter Tryz.func181,Tryz.ntmps181
 go_wp2
 go_ret
 exact⟨rfl,rfl⟩
def zj0 (N:Nat)(p:Int)(r:Nat):Nat:=(digI N p+4294967296*digI N (p+1))/2^r%4294967296
theorem zrq (f:Int):bits BinOp.and IntKind.i64 f 31=f%32:=by
 have h31:(BitVec.ofInt 64 31).toNat=2^5 - 1:=by decide
 have key:(BitVec.ofInt 64 f&&&BitVec.ofInt 64 31).toNat=(f%((2^64:Nat):Int)).toNat%2^5:=by
  rw[BitVec.toNat_and,BitVec.toNat_ofInt,h31,Nat.and_two_pow_sub_one_eq_mod]
 show IntKind.i64.wrap ((BitVec.ofInt 64 f&&&BitVec.ofInt 64 31).toNat:Nat)=f%32
 rw[key,IntKind.wrap_i64]
 omega
theorem zqz {x y r:Nat}(hx:x<4294967296)(hr:r<32):bits BinOp.or IntKind.u32 ((x:Int)/2^r) ((y:Int)*2^(32 - r)%4294967296)=(((x+4294967296*y)/2^r%4294967296:Nat):Int):=by
 have hB:4294967296=2^r*2^(32 - r):=by rw[←Nat.pow_add,show r+(32 - r)=32 from by omega]
 have e1:(x:Int)/2^r=((x/2^r:Nat):Int):=by rw[Int.natCast_ediv,Int.natCast_pow];rfl
 have e2:(y:Int)*2^(32 - r)%4294967296=((y*2^(32 - r)%4294967296:Nat):Int):=by rw[Int.natCast_emod,Int.natCast_mul,Int.natCast_pow];rfl
 have h1:x/2^r<2^(32 - r):=by rw[Nat.div_lt_iff_lt_mul (zss r),Nat.mul_comm,←hB];exact hx
 have h2:y*2^(32 - r)%4294967296=2^(32 - r)*(y%2^r):=by rw[hB,Nat.mul_comm (2^r),Nat.mul_comm y,Nat.mul_mod_mul_left]
 have h3:x/2^r≤x:=Nat.div_le_self _ _
 rw[e1,e2,u32_or_nat _ _ (by omega) (Nat.mod_lt _ (by omega))]
 congr 1
 rw[Nat.or_comm,nat_join (32 - r) _ _ (by rw[h2,Nat.mul_mod_right]) h1,h2]
 have h4:(x+4294967296*y)/2^r=x/2^r+2^(32 - r)*y:=by
  conv=>lhs;rw[show 4294967296*y=2^r*(2^(32 - r)*y) by rw[←Nat.mul_assoc,←hB]]
  rw[Nat.add_mul_div_left _ _ (zss r)]
 rw[h4,hB,Nat.mul_comm (2^r),Nat.mod_mul,Nat.add_mul_mod_self_left,Nat.mod_eq_of_lt h1,Nat.add_mul_div_left _ _ (zss _),Nat.div_eq_of_lt h1,Nat.zero_add,Nat.add_comm]
theorem zgg (b hi:Nat)(A:Option Addr)(n c N L:Nat)(q f:Int)(r:Nat)(hf:f=32*q+r)(hr:r<32)(hq: -1000000≤q∧q≤1000000)(hL:L≤1000000000000)(I:Nat→World→Prop)(hI:∀s W,I s W→Src b hi A n c N W∧W.cell? ⟨b+1,0,none⟩=some (.int .i64 f)∧s≤L)(F:Fence)(hF:F=Fence.wide):
  zei F 9 Tryz.prog 182 #[.pointer (some ⟨b+1,0,none⟩),.pointer (some ⟨b,0,none⟩)] (fun x:Nat×Nat=> #[.int .i64 (x.1:Nat),.int .u32 (x.2:Nat)])
   (fun(s:Nat) (x:Nat×Nat)=>x=(s,zj0 N (q+(s:Int)) r)∧s≤L) (fun s _=>s+1) 0 (fun _=>False) (fun _=>True) I:=by
 subst hF
 intro l J Jx W hJI hJ hJx hY h0
 obtain⟨⟨hb1,_⟩,hb2,_⟩:=hI _ _ (hJI _ _ h0)
 have hand:=zrq f
 have hm:f%32=r:=by omega
 have hd:f/32=q:=by omega
 rw[hm]at hand
 clear hf
 refine callsIn_of_wp Tryz.func182 rfl trivial ?_ rfl
 simp only[Tryz.ntmps182,List.size_toArray,List.length_cons,List.length_nil,Nat.reduceAdd,Nat.reduceSub,Array.replicate_succ,Array.replicate_zero,List.push_toArray,List.append_toArray,List.nil_append,List.cons_append]
 gi_wp2
 refine wpIn_wide.2 ?_
 go_quiet (fail)
 clear hb1 hb2 hand hm hd
 gi_wp2
 gi_loopw [6] (fun i wr=>∃k:Nat,i= .int .i64 k∧J k wr) (fun i _=>L+1 - (intOf i).toNat)
 case atStart=>exact⟨0,rfl,hJ _ _ _ h0 (zaH _ _ _)⟩
 case round=>
  obtain⟨k,rfl,hJs⟩:=hrel
  obtain⟨⟨hc1,hR⟩,hc2,hkL⟩:=hI _ _ (hJI _ _ hJs)
  obtain⟨p,hp⟩:∃p,q+(k:Int)=p:=⟨_,rfl⟩
  have hpb: -1000000≤p∧p≤2000000000000:=by omega
  have hRn:∀q,Rd (wr.drewN q) hi A n N:=fun _=>hR
  have d1:=zkR N p
  obtain⟨p2,hp2⟩:∃p2,p+1=p2:=⟨_,rfl⟩
  have d2:=zkR N p2
  gi_wp2
  refine wpIn_wide.2 ?_
  go_quiet ((first
   |(go_at_call 183;with_reducible exact zdk (zfz _ hi A n c N (hRn _) p))
   |(go_at_call 183;with_reducible exact zdk (zfz _ hi A n c N (hRn _) p2))))
  have e:=zqz (y:=digI N p2) d1 hr
  obtain⟨fn,tmps,assign,body,hy,hRd⟩:=hY k (k,zj0 N (q+k) r) (wr.drewN nq) (hJ _ _ _ hJs (zaH _ _ _)) ⟨rfl,hkL⟩
  dsimp only[zj0]at hy
  rw[hp,hp2,←e]at hy
  clear e hp hp2 hRn
  gi_wp2
  refine hRd.mono ?_
  rintro e W3 ⟨b,rfl,hb1,hb2⟩
  have g1:=zsi hb1
  have g2:=zsi hb2
  clear hb1 hb2
  cases b
  ·gi_wp2
   refine bodyPost_ret (results_none rfl _ _ _) rfl ?_
   exact⟨⟨_,rfl⟩,.inr ⟨_,(by first|exact⟨trivial,g2.out (by first|rfl|trivial)⟩|exact g2.out (by first|rfl|trivial))⟩⟩
  ·gi_wp2
   go_roundw
   case rel=>exact⟨k+1,by go_num,g1.out (by first|rfl|trivial)⟩
   case measure=>simp[intOf];omega
theorem zlQ (V:Nat):lenL V=(bitsN V+31)/32:=by
 have h1:∀m,lenL V≤m↔bitsN V≤32*m:=fun m=>by rw[zai,zaD,za8]
 have h2:=(h1 (lenL V)).1 zsk
 have h3:=(h1 ((bitsN V+31)/32)).2 (by omega)
 omega
theorem zgF {V:Nat}(h:bitsN V=0):V=0:=by
 have:=(zaD (N:=V) (k:=0)).1 (by omega)
 simpa using this
theorem zfB {N n:Nat}(h:N<Bw^n):bitsN N≤32*n:=by rw[zaD,←za8];exact h
def zpY (w:World)(A:Option Addr)(n c N L V:Nat)(f:Int)(s:Nat)(W:World):Prop:=
 Src (w.heap.size+1+1) w.heap.size A n c N W∧W.cell? ⟨w.heap.size+1+1+1,0,none⟩=some (.int .i64 f)∧s≤L∧Boxed W (w.heap.size+1) 23 (.slice (some ⟨w.heap.size,0,none⟩) (L:Nat) (L:Nat))∧
  Mid W w.heap.size (some ⟨w.heap.size,0,none⟩) L s V 0∧Below w.heap.size w W
def zpZ (w:World)(L V:Nat)(c:Code)(_:Nat)(W:World):Prop:=
 c= .exit 0∧Boxed W (w.heap.size+1) 23 (.slice (some ⟨w.heap.size,0,none⟩) (L:Nat) (L:Nat))∧Mid W w.heap.size (some ⟨w.heap.size,0,none⟩) L L V 0∧Below w.heap.size w W
theorem zlR {w:World}{A:Option Addr}{n c N L V B:Nat}{f:Int}:OwnFrom (w.heap.size+B) (zpY w A n c N L V f):=by
 rintro s W W' row ⟨⟨h1,h2⟩,h3,h4,h5,h6,h7⟩ hg hr
 have hr':=fun r e=>(hr r e).2
 exact⟨⟨cell_kept h1 hg hr',h2.kept hg hr'⟩,cell_kept h3 hg hr',h4,za0 h5 hg hr',h6.kept hg hr',h7.grown hg h7.size (fun r e=>by have:=(hr r e).1;omega)⟩
theorem zlS {w:World}{L V B:Nat}(c:Code):OwnFrom (w.heap.size+B) (zpZ w L V c):=by
 rintro s W W' row ⟨h1,h5,h6,h7⟩ hg hr
 have hr':=fun r e=>(hr r e).2
 exact⟨h1,za0 h5 hg hr',h6.kept hg hr',h7.grown hg h7.size (fun r e=>by have:=(hr r e).1;omega)⟩
theorem ziQ (w:World)(A:Option Addr)(n c N V L left:Nat)(q f:Int)(r:Nat)(hf:f=32*q+r)(hr:r<32)(hfb: -65536≤f∧f≤65536)(hV:∀j,dig V j=zj0 N (q+(j:Nat)) r)
  (h:Rd w w.heap.size A n N) (hnc:n≤c) (hcb:c≤maxLen) (hn:n≤10000000000) (hN:N≠0) (hl:(bitsN N:Int) - f=left) (hl0:0<left) (hL:lenL V=L) (hLl:L=(left+31)/32):
  CallsIn Fence.wide 10 Tryz.prog 173 #[.slice A n c,.int .i64 f] w (Gives w V):=by
 have hcb':c≤9223372036854775807:=by simpa[maxLen]using hcb
 have EB:=zsi (fun W (hb:Below w.heap.size w W)=>zcc W _ A n c N (h.below hb) hnc hcb (by omega))
 have EC:=zsi (fun W (hb:Below w.heap.size w W)=>zbU W _ A n c N (h.below hb) hnc hcb')
 have hbb:=zfB h.1
 have hlN:0<lenL N:=by have:=zbt (N:=N);omega
 have hLb:L≤10000003000:=by omega
 obtain⟨bN,hbN⟩:∃bN,bitsN N=bN:=⟨_,rfl⟩
 rw[hbN]at hl hbb EB
 obtain⟨lN,hlN'⟩:∃lN,lenL N=lN:=⟨_,rfl⟩
 rw[hlN']at hlN EC
 obtain⟨w1,hmk,hF1,hb1,hs1⟩:=zbB w L (by omega)
 have hLi:((left:Int)+32 - 1)/32=(L:Int):=by omega
 have hLi':((left:Int)+31)/32=(L:Int):=by omega
 have HV:=zsi hV
 have HL:=zsi hL
 have HFF:=zsi hf
 have hfi: -9223372036854775808≤f∧f≤9223372036854775807:=by omega
 clear hbN hlN' hV hL hf hLl
 refine callsIn_of_wp_marks Tryz.func173 rfl trivial ?_ rfl
 simp only[Tryz.ntmps173,List.size_toArray,List.length_cons,List.length_nil,Nat.reduceAdd,Nat.reduceSub,Array.replicate_succ,Array.replicate_zero,List.push_toArray,List.append_toArray,List.nil_append,List.cons_append]
 gi_wp2
 apply zdu
 gi_wp2_with (first
  |(refine⟨trivial,?_⟩;gi_at_call 99;refine(callsIn_wide.2 (EB.out _ zsl)).mono ?_;rintro e w' ⟨rfl,rfl⟩)
  |(refine⟨trivial,?_⟩;gi_at_call 115;refine(callsIn_wide.2 (EC.out _ zsl)).mono ?_;rintro e w' ⟨rfl,rfl⟩))
 refine wpIn_label ?_
 gi_wp2_with (refine⟨trivial,?_⟩;gi_at_call 181;refine(callsIn_wide.2 (callsIn_wide.1 (zjZ A n c f _))).mono ?_;rintro e w' ⟨rfl,rfl⟩)
 have bS:=Boxed.new w1 23 (.slice (some ⟨w.heap.size,0,none⟩) (L:Nat) (L:Nat))
 have bxN:=Boxed.new (w1.alloc (.cells #[.slice (some ⟨w.heap.size,0,none⟩) (L:Nat) (L:Nat)] 23)) 23 (.slice A n c)
 have bF:=Boxed.new ((w1.alloc (.cells #[.slice (some ⟨w.heap.size,0,none⟩) (L:Nat) (L:Nat)] 23)).alloc (.cells #[.slice A n c] 23)) 3 (.int .i64 f)
 rw[hs1]at bS
 rw[World.size_alloc,hs1]at bxN
 rw[World.size_alloc,World.size_alloc,hs1]at bF
 have hB0:=((hb1.alloc (by omega) (.cells #[.slice (some ⟨w.heap.size,0,none⟩) (L:Nat) (L:Nat)] 23)).alloc (by rw[World.size_alloc];omega) (.cells #[.slice A n c] 23)).alloc (by rw[World.size_alloc,World.size_alloc];omega) (.cells #[.int .i64 f] 3)
 have hZ:Mid w1 w.heap.size (some ⟨w.heap.size,0,none⟩) L 0 V 0:=hF1.mid (fun _=>rfl)
 have hZ0:=((hZ.kept (World.grownBy_alloc w1 (.cells #[.slice (some ⟨w.heap.size,0,none⟩) (L:Nat) (L:Nat)] 23) none) (fun r e=>by cases e)).kept (World.grownBy_alloc _ (.cells #[.slice A n c] 23) none) (fun r e=>by cases e)).kept (World.grownBy_alloc _ (.cells #[.int .i64 f] 3) none) (fun r e=>by cases e)
 have hsz:(((w1.alloc (.cells #[.slice (some ⟨w.heap.size,0,none⟩) (L:Nat) (L:Nat)] 23)).alloc (.cells #[.slice A n c] 23)).alloc (.cells #[.int .i64 f] 3)).heap.size=w.heap.size+4:=by rw[World.size_alloc,World.size_alloc,World.size_alloc];omega
 replace bS:=(bS.alloc (.cells #[.slice A n c] 23)).alloc (.cells #[.int .i64 f] 3)
 replace bxN:=bxN.alloc (.cells #[.int .i64 f] 3)
 obtain⟨W0,hW0⟩:∃W0,((w1.alloc (.cells #[.slice (some ⟨w.heap.size,0,none⟩) (L:Nat) (L:Nat)] 23)).alloc (.cells #[.slice A n c] 23)).alloc (.cells #[.int .i64 f] 3)=W0:=⟨_,rfl⟩
 rw[hW0]at bS bxN bF hB0 hZ0 hsz ⊢
 clear hW0 hmk hF1 hb1 hs1 hZ
 have hB4:W0.heap.size=w.heap.size+4:=hsz
 refine zaV rfl (by omega) (gf:=182) (lb:= #[.pointer (some ⟨w.heap.size+1+1+1,0,none⟩),.pointer (some ⟨w.heap.size+1+1,0,none⟩)]) rfl trivial (enters_of Tryz.func182 (by kernel_rfl) rfl)
  (fun _=>rfl) (zpY w A n c N L V f) (zpZ w L V) (by rw[hB4];exact zlR) (by rw[hB4];exact zlS)
  ⟨⟨bxN.cell,h.below hB0⟩,bF.cell,Nat.zero_le _,bS,hZ0,hB0⟩
  (zgg (w.heap.size+1+1) w.heap.size A n c N L q f r HFF.out hr (by have:=HFF.out;omega) (by omega) _ (fun _ _ h=>⟨h.1,h.2.1,h.2.2.1⟩) Fence.wide rfl)
  (fun x=> { tmps:= #[.slice A n c,.int .i64 f,undef,undef,.slice none 0 0,.int .i64 (left:Nat),.pointer (some ⟨w.heap.size+1,0,none⟩),.int .i64 (x.1:Nat),.int .u32 (x.2:Nat),.slice A n c,.int .i64 (bN:Nat),.int .i64 f,.int .i64 (left:Nat),.int .i64 (left:Nat),
     .bool false,.bool false,.slice A n c,.slice (zer N A) lN lN,.int .i64 (lN:Nat),.bool false,.bool false,.int .i64 (left:Nat),.int .i64 ((left:Int)+32),.int .i64 ((left:Int)+32 - 1),.int .i64 (L:Nat),.slice (some ⟨w.heap.size,0,none⟩) L L,.slice A n c,.int .i64 f,
     .func (.func 182) #[] #[.pointer (some ⟨w.heap.size+1+1+1,0,none⟩),.pointer (some ⟨w.heap.size+1+1,0,none⟩)],.int .i64 (x.1:Nat),.int .u32 (x.2:Nat),undef,undef,undef,undef,undef,undef,undef,undef,undef],defers:=[] }) ?assign ?body ?done ?stop
 case assign=>
  intro l x W K hK
  gi_wp2
  exact hK
 case body=>
  rintro l s x W ⟨⟨hcN,hRN⟩,hcf,hsL,bS1,hM,hBl⟩ ⟨rfl,_⟩
  have hcS:=bS1.cell
  rcases zsq s L with hlt|hge
  ·rw[←HV.out s]
   dsimp only
   obtain⟨_,hc,hfz⟩:=hM s hlt
   have hne: ¬((s:Int)=(L:Int)):=by omega
   have hne2:((s:Int)==(L:Int))=false:=by simpa using hne
   have HM:=zsi hM
   have hd:=zar V s
   clear hM
   gi_wp2
   refine⟨(KeepsOthers.setCell _ _ _).from _,⟨?_,hRN.keep (fun p hp=>World.cell?_setCell_other _ _ _ _ (fun e=>by subst e;simp at hp))⟩,?_,hlt,bS1.kept (zdv W ⟨w.heap.size,s,none⟩ _) (zan (by show w.heap.size+1≠w.heap.size;omega)),HM.out.write hlt,hBl.setCell (p:=⟨w.heap.size,s,none⟩) zsk _⟩
   ·rw[World.cell?_setCell_other W ⟨w.heap.size,s,none⟩ ⟨w.heap.size+1+1,0,none⟩ _ (by first|(simp;done)|(simp;omega))];exact hcN
   ·rw[World.cell?_setCell_other W ⟨w.heap.size,s,none⟩ ⟨w.heap.size+1+1+1,0,none⟩ _ (by first|(simp;done)|(simp;omega))];exact hcf
  ·obtain rfl:s=L:=by omega
   have HM:=zsi hM
   clear hM
   gi_wp2
   exact⟨KeepsFrom.refl _ _,rfl,bS1,HM.out,hBl⟩
 case done=>
  rintro D s W _ h _ _
  exact h.elim
 case stop=>
  rintro D c s W hD _ ⟨rfl,bS1,hM,hBl⟩ hK
  have hcS:=bS1.cell
  have HF:=zsi ((hM.done (lo:=w.heap.size) (fun j h1 h2=>by omega) (by rw[←HL.out];exact zaw V) zsk).more (hi':=W.heap.size) (by have:=bS1.lt;omega))
  clear hM
  gi_wp2
  rw[Exit.noGoto_ret]
  refine⟨by simp,.inl ⟨_,_,rfl,run_takeDeferred hK,?_⟩⟩
  have hs2:(W.putObj D (.deferred none)).heap.size=W.heap.size:=by simp[World.putObj]
  have hg':Gives w V (.returned (.slice (some ⟨w.heap.size,0,none⟩) L L)) (W.putObj D (.deferred none)):=by
   refine⟨_,L,by rw[HL.out],by rw[HL.out];exact Nat.le_refl _,by simp only[maxLen];omega,?_,hBl.trans (belowK_b (w:=w) zsk W D _ _ (by omega) hK rfl rfl)⟩
   rw[HL.out,hs2]
   exact HF.out.kept (grownBy_putObj' _ D (.deferred none)) (fun r e=>by cases e;exact⟨_,hK,rfl⟩)
  refine⟨_,results_tmp rfl _ _ _,?_⟩
  exact hg'
end
section
open Go Go.RowKit
theorem zex (N Q i:Nat):dig (N*Bw^Q) i=if i<Q then 0 else dig N (i - Q):=by
 unfold dig
 split
 ·next h=>
  rw[show Q=i+(Q - i - 1+1) by omega,zaR,←Nat.mul_assoc,Nat.mul_right_comm,Nat.mul_div_cancel _ (zag i),Nat.pow_succ,←Nat.mul_assoc,Nat.mul_mod_left]
 ·next h=>
  obtain⟨d,rfl⟩:∃d,i=Q+d:=⟨i - Q,by omega⟩
  rw[zaR,←Nat.div_div_eq_div_mul,Nat.mul_div_cancel _ (zag Q),show Q+d - Q=d by omega]
theorem zfC (N Q i:Nat):dig (N*Bw^Q) i=digI N ((i:Int) - Q):=by
 rw[zex]
 unfold digI
 by_cases h:i<Q
 ·rw[if_pos h,if_pos (by omega)]
 ·rw[if_neg h,if_neg (by omega),show((i:Int) - Q).toNat=i - Q by omega]
theorem zkU {N Q q' r:Nat}{q:Int}(hr:r<32)(hq:(q':Int)=q+Q)(j:Nat):dig (N*Bw^Q/2^(32*q'+r)) j=zj0 N (q+(j:Nat)) r:=by
 rw[zf8 (by omega),zfC,zfC]
 unfold zj0
 rw[show((q'+j:Nat):Int) - Q=q+(j:Nat) by omega,show((q'+j+1:Nat):Int) - Q=q+(j:Nat)+1 by omega]
theorem znz {N m Q q' r:Nat}(h:32*q'+r=32*Q+m):N*Bw^Q/2^(32*q'+r)=N/2^m:=by
 rw[h,Nat.pow_add,←za8,←Nat.div_div_eq_div_mul,Nat.mul_div_cancel _ (zag Q)]
theorem zqA {N m Q q' r:Nat}(h:32*q'+r+m=32*Q):N*Bw^Q/2^(32*q'+r)=N*2^m:=by
 rw[za8,←h,Nat.pow_add,Nat.mul_comm (2^(32*q'+r)),←Nat.mul_assoc,Nat.mul_div_cancel _ (zss _)]
theorem zj1 (N m:Nat):bitsN (N/2^m)=bitsN N - m:=by
 have h1:∀k,bitsN (N/2^m)≤k↔bitsN N≤k+m:=fun k=>by rw[zaD,zaD,Nat.div_lt_iff_lt_mul (zss m),Nat.pow_add]
 have h2:=(h1 _).1 zsk
 have h3:=(h1 (bitsN N - m)).2 (by omega)
 omega
theorem ziR {N:Nat}(hN:N≠0)(m:Nat):bitsN (N*2^m)=bitsN N+m:=by
 have h1:∀k,bitsN (N*2^m)≤k+m↔bitsN N≤k:=fun k=>by
  rw[zaD,zaD,Nat.pow_add]
  exact Nat.mul_lt_mul_right (zss m)
 have h2:=(h1 (bitsN N)).2 zsk
 have h3:m≤bitsN (N*2^m):=by
  rcases zsq (bitsN (N*2^m)) m with h|h
  ·have h4:N*2^m<2^m:=zaD.1 (Nat.le_of_lt h)
   have:2^m≤N*2^m:=Nat.le_mul_of_pos_left _ (Nat.pos_of_ne_zero hN)
   omega
  ·exact h
 have h4:=(h1 (bitsN (N*2^m) - m)).1 (by omega)
 omega
theorem zg6 (w:World):Gives w 0 (.returned (.slice none 0 0)) w:=⟨none,0,rfl,Nat.le_refl _,by simp[maxLen],Fr.nil,Below.refl _ _⟩
theorem zgG (w:World)(A:Option Addr)(n c N:Nat)(f:Int)(h:Rd w w.heap.size A n N)(hnc:n≤c)(hcb:c≤maxLen)(hn:n≤10000000000)(hfb: -65536≤f∧f≤65536)(hz:(bitsN N:Int) - f≤0∨N=0):
  Calls Tryz.prog 173 #[.slice A n c,.int .i64 f] w (Gives w 0):=by
 have hcb':c≤9223372036854775807:=by simpa[maxLen]using hcb
 have EB:=zsi (zcc w _ A n c N h hnc hcb (by omega))
 have EC:=zsi (zbU w _ A n c N h hnc hcb')
 have hbb:=zfB h.1
 obtain⟨bN,hbN⟩:∃bN,bitsN N=bN:=⟨_,rfl⟩
 rw[hbN]at EB hbb hz
 obtain⟨left,hl⟩:∃left,(bN:Int) - f=left:=⟨_,rfl⟩
 rw[hl]at hz
 have hlb: -65536≤left∧left≤320000065536:=by omega
 by_cases h0:left≤0
 ·clear hz hbN
  go_enter Tryz.func173,Tryz.ntmps173
  go_wp2
  apply wp_scope_straight
  go_wp2_with (go_at_call 99;refine EB.out.mono ?_;rintro e w' ⟨rfl,rfl⟩)
  rw[Exit.noGoto_ret]
  go_ret
  exact zg6 w
 ·have hN:N=0:=hz.resolve_left h0
  have hlp:0<left:=by omega
  subst hN
  rw[zaT,zgS]at EC
  clear hz hbN h0
  go_enter Tryz.func173,Tryz.ntmps173
  go_wp2
  apply wp_scope_straight
  go_wp2_with (first
   |(go_at_call 99;refine EB.out.mono ?_;rintro e w' ⟨rfl,rfl⟩)
   |(go_at_call 115;refine EC.out.mono ?_;rintro e w' ⟨rfl,rfl⟩))
  rw[Exit.noGoto_ret]
  go_ret
  exact zg6 w
theorem zeQ (w:World)(A:Option Addr)(n c N V:Nat)(q f:Int)(r:Nat)(hf:f=32*q+r)(hr:r<32)(hfb: -65536≤f∧f≤65536)(hV:∀j,dig V j=zj0 N (q+(j:Nat)) r)
  (h:Rd w w.heap.size A n N) (hnc:n≤c) (hcb:c≤maxLen) (hn:n≤10000000000) (h0:N=0→V=0) (hb:N≠0→(bitsN V:Int)=max 0 ((bitsN N:Int) - f)):
  Calls Tryz.prog 173 #[.slice A n c,.int .i64 f] w (Gives w V):=by
 by_cases hz:(bitsN N:Int) - f≤0∨N=0
 ·have hV0:V=0:=by
   by_cases hN:N=0
   ·exact h0 hN
   ·have:=hb hN
    exact zgF (by omega)
  subst hV0
  exact zgG w A n c N f h hnc hcb hn hfb hz
 ·have hN:N≠0:=fun e=>hz (.inr e)
  have hbv:=hb hN
  obtain⟨left,hl⟩:∃left:Nat,(bitsN N:Int) - f=left:=⟨((bitsN N:Int) - f).toNat,by omega⟩
  exact callsIn_wide.1 (ziQ w A n c N V (lenL V) left q f r hf hr hfb hV h hnc hcb hn hN hl (by omega) rfl (by rw[zlQ];congr 1;omega))
theorem zhP (w:World)(A:Option Addr)(n c N:Nat)(k:Int)(h:Rd w w.heap.size A n N)(hnc:n≤c)(hcb:c≤maxLen)(hn:n≤10000000000)(hk: -9223372036854775808≤k∧k≤9223372036854775807):
  Calls Tryz.prog 161 #[.slice A n c,.int .i64 k] w (Gives w (N*2^min k.toNat 65536)):=by
 have HC:=zsi (fun W=>zge W k 65536 hk (by omega))
 obtain⟨m,hm⟩:∃m,min k.toNat 65536=m:=⟨_,rfl⟩
 have hmb:m≤65536:=by omega
 rw[hm]at HC ⊢
 clear hm
 obtain⟨Q,hQ⟩:∃Q:Nat,Q=2048:=⟨_,rfl⟩
 have hw:N*Bw^Q/2^(32*((-(m:Int))/32+(Q:Int)).toNat+((-(m:Int))%32).toNat)=N*2^m:=zqA (by omega)
 have E:=zsi (zeQ w A n c N (N*2^m) ((-(m:Int))/32) (-(m:Int)) ((-(m:Int))%32).toNat (by omega) (by omega) (by omega) (fun j=>by rw[←hw];exact zkU (by omega) (by omega) j) h hnc hcb hn (fun e=>by rw[e,Nat.zero_mul]) (fun e=>by rw[ziR e];omega))
 clear hw hQ
 go_enter Tryz.func161,Tryz.ntmps161
 go_wp2_with (go_at_call 174;refine(HC.out w).mono ?_;rintro e w' ⟨rfl,rfl⟩)
 refine E.out.mono ?_
 rintro e w2 ⟨A2,c2,rfl,g1,g2,g3,g4⟩
 go_wp2
 go_ret
 exact⟨A2,c2,rfl,g1,g2,g3,g4⟩
theorem zg7 (w:World)(A:Option Addr)(n c N:Nat)(k:Int)(h:Rd w w.heap.size A n N)(hnc:n≤c)(hcb:c≤maxLen)(hn:n≤10000000000)(hk: -9223372036854775808≤k∧k≤9223372036854775807):
  Calls Tryz.prog 163 #[.slice A n c,.int .i64 k] w (Gives w (N/2^min k.toNat 65536)):=by
 have HC:=zsi (fun W=>zge W k 65536 hk (by omega))
 obtain⟨m,hm⟩:∃m,min k.toNat 65536=m:=⟨_,rfl⟩
 have hmb:m≤65536:=by omega
 rw[hm]at HC ⊢
 clear hm
 obtain⟨Q,hQ⟩:∃Q:Nat,Q=2048:=⟨_,rfl⟩
 have hw:N*Bw^Q/2^(32*((m:Int)/32+(Q:Int)).toNat+((m:Int)%32).toNat)=N/2^m:=znz (by omega)
 have E:=zsi (zeQ w A n c N (N/2^m) ((m:Int)/32) (m:Int) ((m:Int)%32).toNat (by omega) (by omega) (by omega) (fun j=>by rw[←hw];exact zkU (by omega) (by omega) j) h hnc hcb hn (fun e=>by rw[e,Nat.zero_div]) (fun e=>by rw[zj1];omega))
 clear hw hQ
 go_enter Tryz.func163,Tryz.ntmps163
 go_wp2_with (go_at_call 174;refine(HC.out w).mono ?_;rintro e w' ⟨rfl,rfl⟩)
 refine E.out.mono ?_
 rintro e w2 ⟨A2,c2,rfl,g1,g2,g3,g4⟩
 go_wp2
 go_ret
 exact⟨A2,c2,rfl,g1,g2,g3,g4⟩
end
end Go.Proofs.YtdeelcoipmdoiaaGreatDoor
