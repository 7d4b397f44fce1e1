/- A part. -/
import Derived.Lib.Strings
import Derived.Lib.Slices
import Derived.Lib.Small
import Derived.Lib.Walk
import Derived.Lib.BitFns
import Derived.Test.YtipckjmgdghkiaaGreatDoorGProdD
set_option maxHeartbeats 4000000
set_option maxRecDepth 100000
namespace Go.Proofs.YtipckjmgdghkiaaGreatDoor
section
open Go
theorem zeg (w:World)(z:Int)(h0:0<=z)(h1:z<=255):(Instr.index 9 (.string Lib.len8tab) (.int .u8 z)).run Tryz.prog w= .ok (.int .u8 (Lib.len8 z)) w:=
 Lib.run_index_len8tab w 9 .u8 z Tryz.underlying9 h0 h1
theorem zr6 (w:World)(y:Int)(h0:0<=y)(h1:y<=4294967295)(c1:y<65536)(c2:y<256):
  Calls Tryz.prog 142 #[.int .u32 y] w fun e w'=>e= .returned (.int .i64 (Lib.bitLen y.toNat))/\w=w':=by
 have hx:=zeg w y (by omega) (by omega)
 have he:y.toNat=y.toNat:=by omega
 have hl:=Lib.bitLen_le8' y (by omega) (by omega)
 have hv:=Lib.len8_of y (by omega) (by omega)
 rw[he]at hl hv
 have HV:=zvY hv
 clear hv he
 go_enter Tryz.func142,Tryz.ntmps142
 go_wp2
 go_ret
 refine⟨congrArg Ending.returned (congrArg (Value.int IntKind.i64) ?_),rfl⟩
 rw[HV.out]
 simp only[RowKit.wrap64]
 omega
theorem zr7 (w:World)(y:Int)(h0:0<=y)(h1:y<=4294967295)(c1:y<65536)(c2: ¬y<256):
  Calls Tryz.prog 142 #[.int .u32 y] w fun e w'=>e= .returned (.int .i64 (Lib.bitLen y.toNat))/\w=w':=by
 have hx:=zeg w (y/256) (by omega) (by omega)
 have he:(y/256).toNat=y.toNat/256:=by omega
 have hl:=Lib.bitLen_le8' (y/256) (by omega) (by omega)
 have hv:=Lib.len8_of (y/256) (by omega) (by omega)
 rw[he]at hl hv
 have HS:=zvY (Lib.bitLen_shift8 y.toNat (by omega) (by omega))
 have HV:=zvY hv
 clear hv he
 go_enter Tryz.func142,Tryz.ntmps142
 go_wp2
 go_ret
 refine⟨congrArg Ending.returned (congrArg (Value.int IntKind.i64) ?_),rfl⟩
 rw[HV.out,HS.out]
 simp only[RowKit.wrap64]
 omega
theorem zr8 (w:World)(y:Int)(h0:0<=y)(h1:y<=4294967295)(c1: ¬y<65536)(c2:y/65536<256):
  Calls Tryz.prog 142 #[.int .u32 y] w fun e w'=>e= .returned (.int .i64 (Lib.bitLen y.toNat))/\w=w':=by
 have hx:=zeg w (y/65536) (by omega) (by omega)
 have he:(y/65536).toNat=y.toNat/65536:=by omega
 have hl:=Lib.bitLen_le8' (y/65536) (by omega) (by omega)
 have hv:=Lib.len8_of (y/65536) (by omega) (by omega)
 rw[he]at hl hv
 have HS:=zvY (Lib.bitLen_shift16 y.toNat (by omega) (by omega))
 have HV:=zvY hv
 clear hv he
 go_enter Tryz.func142,Tryz.ntmps142
 go_wp2
 go_ret
 refine⟨congrArg Ending.returned (congrArg (Value.int IntKind.i64) ?_),rfl⟩
 rw[HV.out,HS.out]
 simp only[RowKit.wrap64]
 omega
theorem zr9 (w:World)(y:Int)(h0:0<=y)(h1:y<=4294967295)(c1: ¬y<65536)(c2: ¬y/65536<256):
  Calls Tryz.prog 142 #[.int .u32 y] w fun e w'=>e= .returned (.int .i64 (Lib.bitLen y.toNat))/\w=w':=by
 have hx:=zeg w (y/65536/256) (by omega) (by omega)
 have he:(y/65536/256).toNat=y.toNat/16777216:=by omega
 have hl:=Lib.bitLen_le8' (y/65536/256) (by omega) (by omega)
 have hv:=Lib.len8_of (y/65536/256) (by omega) (by omega)
 rw[he]at hl hv
 have HS:=zvY (Lib.bitLen_shift24 y.toNat (by omega) (by omega))
 have HV:=zvY hv
 clear hv he
 go_enter Tryz.func142,Tryz.ntmps142
 go_wp2
 go_ret
 refine⟨congrArg Ending.returned (congrArg (Value.int IntKind.i64) ?_),rfl⟩
 rw[HV.out,HS.out]
 simp only[RowKit.wrap64]
 omega
theorem zog (w:World)(y:Int)(h0:0<=y)(h1:y<=4294967295):
  Calls Tryz.prog 142 #[.int .u32 y] w fun e w'=>e= .returned (.int .i64 (Lib.bitLen y.toNat))/\w=w':=by
 by_cases c1:y<65536
 ·by_cases c2:y<256
  ·exact zr6 w y h0 h1 c1 c2
  ·exact zr7 w y h0 h1 c1 c2
 ·by_cases c2:y/65536<256
  ·exact zr8 w y h0 h1 c1 c2
  ·exact zr9 w y h0 h1 c1 c2
end
section
open Go Go.RowKit
theorem zoh:∀(k x:Nat),x<2^k->k<=64->Lib.bitLen x=bitsN x:=by
 intro k
 induction k with
 |zero=>
  intro x hx _
  obtain rfl:x=0:=by simp at hx;exact hx
  decide
 |succ k ih=>
  intro x hx hk
  by_cases h0:x=0
  ·subst h0;decide
  ·have h64:x<2^64:=zv3 hx (zv5 (by omega) hk)
   rw[Lib.bitLen_half x h0 h64,ih (x/2) (by rw[Nat.pow_succ]at hx;omega) (by omega)]
   unfold bitsN
   rw[if_neg h0]
   have:=Nat.log2_def x
   split
   ·next h=>rw[this,if_neg (by omega)]
   ·next h=>rw[this,if_pos (by omega)];omega
theorem ziE (w:World)(x:Nat)(h1:x<4294967296):
  Calls Tryz.prog 142 #[.int .u32 x] w fun e w'=>e= .returned (.int .i64 (bitsN x:Nat))/\w=w':=by
 have h:=zog w (x:Int) (by omega) (by omega)
 rwa [Int.toNat_natCast,zoh 32 x (by omega) (by omega)]at h
theorem ziF {N m:Nat}(hm:lenL N=m+1):bitsN N=32*m+bitsN (dig N m):=by
 have hd:=zgZ hm
 have e:bitsN (dig N m)=(dig N m).log2+1:=if_neg hd
 rw[e]
 refine zrV hm ?_ (.inr ?_)
 ·exact Nat.div_eq_of_lt ((Nat.log2_lt hd).1 (by omega))
 ·rw[Nat.add_sub_cancel]
  unfold zlS
  have:=Nat.div_pos (Nat.log2_self_le hd) (zv8 (dig N m).log2)
  omega
theorem zfs {d:Nat}(h:d<4294967296):bitsN d<=32:=zaH.2 (by omega)
theorem zcF (w:World)(hi:Nat)(A:Option Addr)(n c N:Nat)(h:Rd w hi A n N)(hn:n<=c)(hc:c<=maxLen)(hb:n<=35184372087808:=by omega):
  Calls Tryz.prog 119 #[.slice A n c] w fun e w'=>e= .returned (.int .i64 (bitsN N:Nat))/\w=w':=by
 have hl:=zai.2 h.1
 have hc:c<=9223372036854775807:=by simpa[maxLen]using hc
 rcases zv7 (lenL N)with h0|h0
 ·have hN0:=zvY (zbF.1 h0)
  have E:=zvY (zcm w hi A n c N h hn hc)
  rw[h0]at E
  clear h0
  go_enter Tryz.func119,Tryz.ntmps119
  go_wp2_with (go_at_call 149;refine E.out.mono ?_;rintro e w' ⟨rfl,rfl⟩)
  go_ret
  exact⟨by rw[hN0.out];rfl,rfl⟩
 ·obtain⟨m,hm⟩:∃m,lenL N=m+1:=⟨lenL N - 1,by omega⟩
  have E:=zvY (zcm w hi A n c N h hn hc)
  have hN0: ¬N=0:=fun e=>by rw[e,zaS]at hm;omega
  obtain⟨ad,rfl,_,hcl⟩:=h.at_ (k:=m) (by omega)
  have HB:=zvY (ziF hm)
  have hd:=zav N m
  have hle:=zfs hd
  rw[zdW hN0,hm]at E
  rw[hm]at hl
  clear hm h0 hN0
  go_enter Tryz.func119,Tryz.ntmps119
  go_wp2_with (first
   |(go_at_call 149;refine E.out.mono ?_;rintro e w' ⟨rfl,rfl⟩)
   |(go_at_call 142;refine(ziE w _ hd).mono ?_;rintro e w' ⟨rfl,rfl⟩))
  go_ret
  exact⟨by rw[HB.out];refine zde ?_;omega,rfl⟩
end
section
open Go Go.RowKit
attribute [local go_sem] Oper.semAt_some
theorem zl0 (A:Option Addr)(n c:Nat)(f:Int)(w:World):
  CallsIn Fence.wide 0 Tryz.prog 243 #[.slice A n c,.int .i64 f] w fun e w'=>
   e= .returned (.func (.func 244) #[] #[.pointer (some ⟨w.heap.size+1,0,none⟩),.pointer (some ⟨w.heap.size,0,none⟩)])/\w'=(w.alloc (.cells #[.slice A n c] 23)).alloc (.cells #[.int .i64 f] 3):=by
 refine callsIn_wide.2 ?_
 go_enter Tryz.func243,Tryz.ntmps243
 go_wp2
 go_ret
 exact⟨rfl,rfl⟩
def zl1 (N:Nat)(p:Int)(r:Nat):Nat:=(digI N p+4294967296*digI N (p+1))/2^r%4294967296
theorem zu1 (f:Int):bits BinOp.and IntKind.i64 f 31=f%32:=by
 have h31:(BitVec.ofInt 64 31).toNat=2^5 - 1:=by decide
 have key:(BitVec.ofInt 64 f&&&BitVec.ofInt 64 31).toNat=(f%((2^64:Nat):Int)).toNat%2^5:=by
  rw[BitVec.toNat_and,BitVec.toNat_ofInt,h31,Nat.and_two_pow_sub_one_eq_mod]
 show IntKind.i64.wrap ((BitVec.ofInt 64 f&&&BitVec.ofInt 64 31).toNat:Nat)=f%32
 rw[key,IntKind.wrap_i64]
 omega
theorem ztW {x y r:Nat}(hx:x<4294967296)(hr:r<32):bits BinOp.or IntKind.u32 ((x:Int)/2^r) ((y:Int)*2^(32 - r)%4294967296)=(((x+4294967296*y)/2^r%4294967296:Nat):Int):=by
 have hB:4294967296=2^r*2^(32 - r):=by rw[<-Nat.pow_add,show r+(32 - r)=32 from by omega]
 have e1:(x:Int)/2^r=((x/2^r:Nat):Int):=by rw[Int.natCast_ediv,Int.natCast_pow];rfl
 have e2:(y:Int)*2^(32 - r)%4294967296=((y*2^(32 - r)%4294967296:Nat):Int):=by rw[Int.natCast_emod,Int.natCast_mul,Int.natCast_pow];rfl
 have h1:x/2^r<2^(32 - r):=by rw[Nat.div_lt_iff_lt_mul (zv8 r),Nat.mul_comm,<-hB];exact hx
 have h2:y*2^(32 - r)%4294967296=2^(32 - r)*(y%2^r):=by rw[hB,Nat.mul_comm (2^r),Nat.mul_comm y,Nat.mul_mod_mul_left]
 have h3:x/2^r<=x:=Nat.div_le_self _ _
 rw[e1,e2,u32_or_nat _ _ (by omega) (Nat.mod_lt _ (by omega))]
 congr 1
 rw[Nat.or_comm,nat_join (32 - r) _ _ (by rw[h2,Nat.mul_mod_right]) h1,h2]
 have h4:(x+4294967296*y)/2^r=x/2^r+2^(32 - r)*y:=by
  conv=>lhs;rw[show 4294967296*y=2^r*(2^(32 - r)*y) by rw[<-Nat.mul_assoc,<-hB]]
  rw[Nat.add_mul_div_left _ _ (zv8 r)]
 rw[h4,hB,Nat.mul_comm (2^r),Nat.mod_mul,Nat.add_mul_mod_self_left,Nat.mod_eq_of_lt h1,Nat.add_mul_div_left _ _ (zv8 _),Nat.div_eq_of_lt h1,Nat.zero_add,Nat.add_comm]
theorem zhH (b hi:Nat)(A:Option Addr)(n c N L:Nat)(q f:Int)(r:Nat)(hf:f=32*q+r)(hr:r<32)(hq: -1000000<=q/\q<=1000000)(hL:L<=1000000000000)(I:Nat->World->Prop)(hI:∀s W,I s W->Src b hi A n c N W/\W.cell? ⟨b+1,0,none⟩=some (.int .i64 f)/\s<=L)(F:Fence)(hF:F=Fence.wide):
  zfH F 9 Tryz.prog 244 #[.pointer (some ⟨b+1,0,none⟩),.pointer (some ⟨b,0,none⟩)] (fun x:Nat×Nat=> #[.int .i64 (x.1:Nat),.int .u32 (x.2:Nat)])
   (fun(s:Nat) (x:Nat×Nat)=>x=(s,zl1 N (q+(s:Int)) r)/\s<=L) (fun s _=>s+1) 0 (fun _=>False) (fun _=>True) I:=by
 subst hF
 intro l J Jx W hJI hJ hJx hY h0
 obtain⟨⟨hb1,_⟩,hb2,_⟩:=hI _ _ (hJI _ _ h0)
 have hand:=zu1 f
 have hm:f%32=r:=by omega
 have hd:f/32=q:=by omega
 rw[hm]at hand
 clear hf
 refine callsIn_of_wp Tryz.func244 rfl trivial ?_ rfl
 simp only[Tryz.ntmps244,List.size_toArray,List.length_cons,List.length_nil,Nat.reduceAdd,Nat.reduceSub,Array.replicate_succ,Array.replicate_zero,List.push_toArray,List.append_toArray,List.nil_append,List.cons_append]
 gi_wp2
 refine wpIn_wide.2 ?_
 go_quiet (fail)
 clear hb1 hb2 hand hm hd
 gi_wp2
 gi_loopw [6] (fun i wr=>∃k:Nat,i= .int .i64 k/\J k wr) (fun i _=>L+1 - (intOf i).toNat)
 case atStart=>exact⟨0,rfl,hJ _ _ _ h0 (zaJ _ _ _)⟩
 case round=>
  obtain⟨k,rfl,hJs⟩:=hrel
  obtain⟨⟨hc1,hR⟩,hc2,hkL⟩:=hI _ _ (hJI _ _ hJs)
  obtain⟨p,hp⟩:∃p,q+(k:Int)=p:=⟨_,rfl⟩
  have hpb: -1000000<=p/\p<=2000000000000:=by omega
  have hRn:∀q,Rd (wr.drewN q) hi A n N:=fun _=>hR
  have d1:=zm2 N p
  obtain⟨p2,hp2⟩:∃p2,p+1=p2:=⟨_,rfl⟩
  have d2:=zm2 N p2
  gi_wp2
  refine wpIn_wide.2 ?_
  go_quiet ((first
   |(go_at_call 245;with_reducible exact zed (zgL _ hi A n c N (hRn _) p))
   |(go_at_call 245;with_reducible exact zed (zgL _ hi A n c N (hRn _) p2))))
  have e:=ztW (y:=digI N p2) d1 hr
  obtain⟨fn,tmps,assign,body,hy,hRd⟩:=hY k (k,zl1 N (q+k) r) (wr.drewN nq) (hJ _ _ _ hJs (zaJ _ _ _)) ⟨rfl,hkL⟩
  dsimp only[zl1]at hy
  rw[hp,hp2,<-e]at hy
  clear e hp hp2 hRn
  gi_wp2
  refine hRd.mono ?_
  rintro e W3 ⟨b,rfl,hb1,hb2⟩
  have g1:=zvY hb1
  have g2:=zvY hb2
  clear hb1 hb2
  cases b
  ·gi_wp2
   refine bodyPost_ret (results_none rfl _ _ _) rfl ?_
   exact⟨⟨_,rfl⟩,.inr ⟨_,(by first|exact⟨trivial,g2.out (by first|rfl|trivial)⟩|exact g2.out (by first|rfl|trivial))⟩⟩
  ·gi_wp2
   go_roundw
   case rel=>exact⟨k+1,by go_num,g1.out (by first|rfl|trivial)⟩
   case measure=>simp[intOf];omega
theorem zoi (V:Nat):lenL V=(bitsN V+31)/32:=by
 have h1:∀m,lenL V<=m↔bitsN V<=32*m:=fun m=>by rw[zai,zaH,zbo]
 have h2:=(h1 (lenL V)).1 zv0
 have h3:=(h1 ((bitsN V+31)/32)).2 (by omega)
 omega
theorem zib {V:Nat}(h:bitsN V=0):V=0:=by
 have:=(zaH (N:=V) (k:=0)).1 (by omega)
 simpa using this
theorem zgM {N n:Nat}(h:N<Bw^n):bitsN N<=32*n:=by rw[zaH,<-zbo];exact h
def ztf (w:World)(A:Option Addr)(n c N L V:Nat)(f:Int)(s:Nat)(W:World):Prop:=
 Src (w.heap.size+1+1) w.heap.size A n c N W/\W.cell? ⟨w.heap.size+1+1+1,0,none⟩=some (.int .i64 f)/\s<=L/\Boxed W (w.heap.size+1) 23 (.slice (some ⟨w.heap.size,0,none⟩) (L:Nat) (L:Nat))/\
  Mid W w.heap.size (some ⟨w.heap.size,0,none⟩) L s V 0/\Below w.heap.size w W
def ztg (w:World)(L V:Nat)(c:Code)(_:Nat)(W:World):Prop:=
 c= .exit 0/\Boxed W (w.heap.size+1) 23 (.slice (some ⟨w.heap.size,0,none⟩) (L:Nat) (L:Nat))/\Mid W w.heap.size (some ⟨w.heap.size,0,none⟩) L L V 0/\Below w.heap.size w W
theorem zoj {w:World}{A:Option Addr}{n c N L V B:Nat}{f:Int}:OwnFrom (w.heap.size+B) (ztf w A n c N L V f):=by
 rintro s W W' row ⟨⟨h1,h2⟩,h3,h4,h5,h6,h7⟩ hg hr
 have hr':=fun r e=>(hr r e).2
 exact⟨⟨cell_kept h1 hg hr',h2.kept hg hr'⟩,cell_kept h3 hg hr',h4,za7 h5 hg hr',h6.kept hg hr',h7.grown hg h7.size (fun r e=>by have:=(hr r e).1;omega)⟩
theorem zok {w:World}{L V B:Nat}(c:Code):OwnFrom (w.heap.size+B) (ztg w L V c):=by
 rintro s W W' row ⟨h1,h5,h6,h7⟩ hg hr
 have hr':=fun r e=>(hr r e).2
 exact⟨h1,za7 h5 hg hr',h6.kept hg hr',h7.grown hg h7.size (fun r e=>by have:=(hr r e).1;omega)⟩
theorem zkJ (w:World)(A:Option Addr)(n c N V L left:Nat)(q f:Int)(r:Nat)(hf:f=32*q+r)(hr:r<32)(hfb: -65536<=f/\f<=65536)(hV:∀j,dig V j=zl1 N (q+(j:Nat)) r)
  (h:Rd w w.heap.size A n N) (hnc:n<=c) (hcb:c<=maxLen) (hn:n<=10000000000) (hN:N≠0) (hl:(bitsN N:Int) - f=left) (hl0:0<left) (hL:lenL V=L) (hLl:L=(left+31)/32):
  CallsIn Fence.wide 10 Tryz.prog 235 #[.slice A n c,.int .i64 f] w (Gives w V):=by
 have hcb':c<=9223372036854775807:=by simpa[maxLen]using hcb
 have EB:=zvY (fun W (hb:Below w.heap.size w W)=>zcF W _ A n c N (h.below hb) hnc hcb (by omega))
 have EC:=zvY (fun W (hb:Below w.heap.size w W)=>zcm W _ A n c N (h.below hb) hnc hcb')
 have hbb:=zgM h.1
 have hlN:0<lenL N:=by have:=zbF (N:=N);omega
 have hLb:L<=10000003000:=by omega
 obtain⟨bN,hbN⟩:∃bN,bitsN N=bN:=⟨_,rfl⟩
 rw[hbN]at hl hbb EB
 obtain⟨lN,hlN'⟩:∃lN,lenL N=lN:=⟨_,rfl⟩
 rw[hlN']at hlN EC
 obtain⟨w1,hmk,hF1,hb1,hs1⟩:=zb6 w L (by omega)
 have hLi:((left:Int)+32 - 1)/32=(L:Int):=by omega
 have hLi':((left:Int)+31)/32=(L:Int):=by omega
 have HV:=zvY hV
 have HL:=zvY hL
 have HFF:=zvY hf
 have hfi: -9223372036854775808<=f/\f<=9223372036854775807:=by omega
 clear hbN hlN' hV hL hf hLl
 refine callsIn_of_wp_marks Tryz.func235 rfl trivial ?_ rfl
 simp only[Tryz.ntmps235,List.size_toArray,List.length_cons,List.length_nil,Nat.reduceAdd,Nat.reduceSub,Array.replicate_succ,Array.replicate_zero,List.push_toArray,List.append_toArray,List.nil_append,List.cons_append]
 gi_wp2
 apply zep
 gi_wp2_with (first
  |(refine⟨trivial,?_⟩;gi_at_call 119;refine(callsIn_wide.2 (EB.out _ zv1)).mono ?_;rintro e w' ⟨rfl,rfl⟩)
  |(refine⟨trivial,?_⟩;gi_at_call 149;refine(callsIn_wide.2 (EC.out _ zv1)).mono ?_;rintro e w' ⟨rfl,rfl⟩))
 refine wpIn_label ?_
 gi_wp2_with (refine⟨trivial,?_⟩;gi_at_call 243;refine(callsIn_wide.2 (callsIn_wide.1 (zl0 A n c f _))).mono ?_;rintro e w' ⟨rfl,rfl⟩)
 have bS:=Boxed.new w1 23 (.slice (some ⟨w.heap.size,0,none⟩) (L:Nat) (L:Nat))
 have bxN:=Boxed.new (w1.alloc (.cells #[.slice (some ⟨w.heap.size,0,none⟩) (L:Nat) (L:Nat)] 23)) 23 (.slice A n c)
 have bF:=Boxed.new ((w1.alloc (.cells #[.slice (some ⟨w.heap.size,0,none⟩) (L:Nat) (L:Nat)] 23)).alloc (.cells #[.slice A n c] 23)) 3 (.int .i64 f)
 rw[hs1]at bS
 rw[World.size_alloc,hs1]at bxN
 rw[World.size_alloc,World.size_alloc,hs1]at bF
 have hB0:=((hb1.alloc (by omega) (.cells #[.slice (some ⟨w.heap.size,0,none⟩) (L:Nat) (L:Nat)] 23)).alloc (by rw[World.size_alloc];omega) (.cells #[.slice A n c] 23)).alloc (by rw[World.size_alloc,World.size_alloc];omega) (.cells #[.int .i64 f] 3)
 have hZ:Mid w1 w.heap.size (some ⟨w.heap.size,0,none⟩) L 0 V 0:=hF1.mid (fun _=>rfl)
 have hZ0:=((hZ.kept (World.grownBy_alloc w1 (.cells #[.slice (some ⟨w.heap.size,0,none⟩) (L:Nat) (L:Nat)] 23) none) (fun r e=>by cases e)).kept (World.grownBy_alloc _ (.cells #[.slice A n c] 23) none) (fun r e=>by cases e)).kept (World.grownBy_alloc _ (.cells #[.int .i64 f] 3) none) (fun r e=>by cases e)
 have hsz:(((w1.alloc (.cells #[.slice (some ⟨w.heap.size,0,none⟩) (L:Nat) (L:Nat)] 23)).alloc (.cells #[.slice A n c] 23)).alloc (.cells #[.int .i64 f] 3)).heap.size=w.heap.size+4:=by rw[World.size_alloc,World.size_alloc,World.size_alloc];omega
 replace bS:=(bS.alloc (.cells #[.slice A n c] 23)).alloc (.cells #[.int .i64 f] 3)
 replace bxN:=bxN.alloc (.cells #[.int .i64 f] 3)
 obtain⟨W0,hW0⟩:∃W0,((w1.alloc (.cells #[.slice (some ⟨w.heap.size,0,none⟩) (L:Nat) (L:Nat)] 23)).alloc (.cells #[.slice A n c] 23)).alloc (.cells #[.int .i64 f] 3)=W0:=⟨_,rfl⟩
 rw[hW0]at bS bxN bF hB0 hZ0 hsz ⊢
 clear hW0 hmk hF1 hb1 hs1 hZ
 have hB4:W0.heap.size=w.heap.size+4:=hsz
 refine za5 rfl (by omega) (gf:=244) (lb:= #[.pointer (some ⟨w.heap.size+1+1+1,0,none⟩),.pointer (some ⟨w.heap.size+1+1,0,none⟩)]) rfl trivial (enters_of Tryz.func244 (by kernel_rfl) rfl)
  (fun _=>rfl) (ztf w A n c N L V f) (ztg w L V) (by rw[hB4];exact zoj) (by rw[hB4];exact zok)
  ⟨⟨bxN.cell,h.below hB0⟩,bF.cell,Nat.zero_le _,bS,hZ0,hB0⟩
  (zhH (w.heap.size+1+1) w.heap.size A n c N L q f r HFF.out hr (by have:=HFF.out;omega) (by omega) _ (fun _ _ h=>⟨h.1,h.2.1,h.2.2.1⟩) Fence.wide rfl)
  (fun x=> { tmps:= #[.slice A n c,.int .i64 f,undef,undef,.slice none 0 0,.int .i64 (left:Nat),.pointer (some ⟨w.heap.size+1,0,none⟩),.int .i64 (x.1:Nat),.int .u32 (x.2:Nat),.slice A n c,.int .i64 (bN:Nat),.int .i64 f,.int .i64 (left:Nat),.int .i64 (left:Nat),
     .bool false,.bool false,.slice A n c,.slice (zfm N A) lN lN,.int .i64 (lN:Nat),.bool false,.bool false,.int .i64 (left:Nat),.int .i64 ((left:Int)+32),.int .i64 ((left:Int)+32 - 1),.int .i64 (L:Nat),.slice (some ⟨w.heap.size,0,none⟩) L L,.slice A n c,.int .i64 f,
     .func (.func 244) #[] #[.pointer (some ⟨w.heap.size+1+1+1,0,none⟩),.pointer (some ⟨w.heap.size+1+1,0,none⟩)],.int .i64 (x.1:Nat),.int .u32 (x.2:Nat),undef,undef,undef,undef,undef,undef,undef,undef,undef],defers:=[] }) ?assign ?body ?done ?stop
 case assign=>
  intro l x W K hK
  gi_wp2
  exact hK
 case body=>
  rintro l s x W ⟨⟨hcN,hRN⟩,hcf,hsL,bS1,hM,hBl⟩ ⟨rfl,_⟩
  have hcS:=bS1.cell
  rcases zv6 s L with hlt|hge
  ·rw[<-HV.out s]
   dsimp only
   obtain⟨_,hc,hfz⟩:=hM s hlt
   have hne: ¬((s:Int)=(L:Int)):=by omega
   have hne2:((s:Int)==(L:Int))=false:=by simpa using hne
   have HM:=zvY hM
   have hd:=zav V s
   clear hM
   gi_wp2
   refine⟨(KeepsOthers.setCell _ _ _).from _,⟨?_,hRN.keep (fun p hp=>World.cell?_setCell_other _ _ _ _ (fun e=>by subst e;simp at hp))⟩,?_,hlt,bS1.kept (zeq W ⟨w.heap.size,s,none⟩ _) (zaq (by show w.heap.size+1≠w.heap.size;omega)),HM.out.write hlt,hBl.setCell (p:=⟨w.heap.size,s,none⟩) zv0 _⟩
   ·rw[World.cell?_setCell_other W ⟨w.heap.size,s,none⟩ ⟨w.heap.size+1+1,0,none⟩ _ (by first|(simp;done)|(simp;omega))];exact hcN
   ·rw[World.cell?_setCell_other W ⟨w.heap.size,s,none⟩ ⟨w.heap.size+1+1+1,0,none⟩ _ (by first|(simp;done)|(simp;omega))];exact hcf
  ·obtain rfl:s=L:=by omega
   have HM:=zvY hM
   clear hM
   gi_wp2
   exact⟨KeepsFrom.refl _ _,rfl,bS1,HM.out,hBl⟩
 case done=>
  rintro D s W _ h _ _
  exact h.elim
 case stop=>
  rintro D c s W hD _ ⟨rfl,bS1,hM,hBl⟩ hK
  have hcS:=bS1.cell
  have HF:=zvY ((hM.done (lo:=w.heap.size) (fun j h1 h2=>by omega) (by rw[<-HL.out];exact zaF V) zv0).more (hi':=W.heap.size) (by have:=bS1.lt;omega))
  clear hM
  gi_wp2
  rw[Exit.noGoto_ret]
  refine⟨by simp,.inl ⟨_,_,rfl,run_takeDeferred hK,?_⟩⟩
  have hs2:(W.putObj D (.deferred none)).heap.size=W.heap.size:=by simp[World.putObj]
  have hg':Gives w V (.returned (.slice (some ⟨w.heap.size,0,none⟩) L L)) (W.putObj D (.deferred none)):=by
   refine⟨_,L,by rw[HL.out],by rw[HL.out];exact Nat.le_refl _,by simp only[maxLen];omega,?_,hBl.trans (belowK_b (w:=w) zv0 W D _ _ (by omega) hK rfl rfl)⟩
   rw[HL.out,hs2]
   exact HF.out.kept (grownBy_putObj' _ D (.deferred none)) (fun r e=>by cases e;exact⟨_,hK,rfl⟩)
  refine⟨_,results_tmp rfl _ _ _,?_⟩
  exact hg'
end
section
open Go Go.RowKit
theorem zft (N Q i:Nat):dig (N*Bw^Q) i=if i<Q then 0 else dig N (i - Q):=by
 unfold dig
 split
 ·next h=>
  rw[show Q=i+(Q - i - 1+1) by omega,zaY,<-Nat.mul_assoc,Nat.mul_right_comm,Nat.mul_div_cancel _ (zag i),Nat.pow_succ,<-Nat.mul_assoc,Nat.mul_mod_left]
 ·next h=>
  obtain⟨d,rfl⟩:∃d,i=Q+d:=⟨i - Q,by omega⟩
  rw[zaY,<-Nat.div_div_eq_div_mul,Nat.mul_div_cancel _ (zag Q),show Q+d - Q=d by omega]
theorem zgN (N Q i:Nat):dig (N*Bw^Q) i=digI N ((i:Int) - Q):=by
 rw[zft]
 unfold digI
 by_cases h:i<Q
 ·rw[if_pos h,if_pos (by omega)]
 ·rw[if_neg h,if_neg (by omega),show((i:Int) - Q).toNat=i - Q by omega]
theorem zm3 {N Q q' r:Nat}{q:Int}(hr:r<32)(hq:(q':Int)=q+Q)(j:Nat):dig (N*Bw^Q/2^(32*q'+r)) j=zl1 N (q+(j:Nat)) r:=by
 rw[zhz (by omega),zgN,zgN]
 unfold zl1
 rw[show((q'+j:Nat):Int) - Q=q+(j:Nat) by omega,show((q'+j+1:Nat):Int) - Q=q+(j:Nat)+1 by omega]
theorem zqi {N m Q q' r:Nat}(h:32*q'+r=32*Q+m):N*Bw^Q/2^(32*q'+r)=N/2^m:=by
 rw[h,Nat.pow_add,<-zbo,<-Nat.div_div_eq_div_mul,Nat.mul_div_cancel _ (zag Q)]
theorem ztX {N m Q q' r:Nat}(h:32*q'+r+m=32*Q):N*Bw^Q/2^(32*q'+r)=N*2^m:=by
 rw[zbo,<-h,Nat.pow_add,Nat.mul_comm (2^(32*q'+r)),<-Nat.mul_assoc,Nat.mul_div_cancel _ (zv8 _)]
theorem zl2 (N m:Nat):bitsN (N/2^m)=bitsN N - m:=by
 have h1:∀k,bitsN (N/2^m)<=k↔bitsN N<=k+m:=fun k=>by rw[zaH,zaH,Nat.div_lt_iff_lt_mul (zv8 m),Nat.pow_add]
 have h2:=(h1 _).1 zv0
 have h3:=(h1 (bitsN N - m)).2 (by omega)
 omega
theorem zkK {N:Nat}(hN:N≠0)(m:Nat):bitsN (N*2^m)=bitsN N+m:=by
 have h1:∀k,bitsN (N*2^m)<=k+m↔bitsN N<=k:=fun k=>by
  rw[zaH,zaH,Nat.pow_add]
  exact Nat.mul_lt_mul_right (zv8 m)
 have h2:=(h1 (bitsN N)).2 zv0
 have h3:m<=bitsN (N*2^m):=by
  rcases zv6 (bitsN (N*2^m)) m with h|h
  ·have h4:N*2^m<2^m:=zaH.1 (Nat.le_of_lt h)
   have:2^m<=N*2^m:=Nat.le_mul_of_pos_left _ (Nat.pos_of_ne_zero hN)
   omega
  ·exact h
 have h4:=(h1 (bitsN (N*2^m) - m)).1 (by omega)
 omega
theorem ziG (w:World):Gives w 0 (.returned (.slice none 0 0)) w:=⟨none,0,rfl,Nat.le_refl _,by simp[maxLen],Fr.nil,Below.refl _ _⟩
theorem zic (w:World)(A:Option Addr)(n c N:Nat)(f:Int)(h:Rd w w.heap.size A n N)(hnc:n<=c)(hcb:c<=maxLen)(hn:n<=10000000000)(hfb: -65536<=f/\f<=65536)(hz:(bitsN N:Int) - f<=0\/N=0):
  Calls Tryz.prog 235 #[.slice A n c,.int .i64 f] w (Gives w 0):=by
 have hcb':c<=9223372036854775807:=by simpa[maxLen]using hcb
 have EB:=zvY (zcF w _ A n c N h hnc hcb)
 have EC:=zvY (zcm w _ A n c N h hnc hcb')
 have hbb:=zgM h.1
 obtain⟨bN,hbN⟩:∃bN,bitsN N=bN:=⟨_,rfl⟩
 rw[hbN]at EB hbb hz
 obtain⟨left,hl⟩:∃left,(bN:Int) - f=left:=⟨_,rfl⟩
 rw[hl]at hz
 have hlb: -65536<=left/\left<=320000065536:=by omega
 by_cases h0:left<=0
 ·clear hz hbN
  go_enter Tryz.func235,Tryz.ntmps235
  go_wp2
  apply wp_scope_straight
  go_wp2_with (go_at_call 119;refine EB.out.mono ?_;rintro e w' ⟨rfl,rfl⟩)
  rw[Exit.noGoto_ret]
  go_ret
  exact ziG w
 ·have hN:N=0:=hz.resolve_left h0
  have hlp:0<left:=by omega
  subst hN
  rw[zaS,ziq]at EC
  clear hz hbN h0
  go_enter Tryz.func235,Tryz.ntmps235
  go_wp2
  apply wp_scope_straight
  go_wp2_with (first
   |(go_at_call 119;refine EB.out.mono ?_;rintro e w' ⟨rfl,rfl⟩)
   |(go_at_call 149;refine EC.out.mono ?_;rintro e w' ⟨rfl,rfl⟩))
  rw[Exit.noGoto_ret]
  go_ret
  exact ziG w
theorem zfY (w:World)(A:Option Addr)(n c N V:Nat)(q f:Int)(r:Nat)(hf:f=32*q+r)(hr:r<32)(hfb: -65536<=f/\f<=65536)(hV:∀j,dig V j=zl1 N (q+(j:Nat)) r)
  (h:Rd w w.heap.size A n N) (hnc:n<=c) (hcb:c<=maxLen) (hn:n<=10000000000) (h0:N=0->V=0) (hb:N≠0->(bitsN V:Int)=max 0 ((bitsN N:Int) - f)):
  Calls Tryz.prog 235 #[.slice A n c,.int .i64 f] w (Gives w V):=by
 by_cases hz:(bitsN N:Int) - f<=0\/N=0
 ·have hV0:V=0:=by
   by_cases hN:N=0
   ·exact h0 hN
   ·have:=hb hN
    exact zib (by omega)
  subst hV0
  exact zic w A n c N f h hnc hcb hn hfb hz
 ·have hN:N≠0:=fun e=>hz (.inr e)
  have hbv:=hb hN
  obtain⟨left,hl⟩:∃left:Nat,(bitsN N:Int) - f=left:=⟨((bitsN N:Int) - f).toNat,by omega⟩
  exact callsIn_wide.1 (zkJ w A n c N V (lenL V) left q f r hf hr hfb hV h hnc hcb hn hN hl (by omega) rfl (by rw[zoi];congr 1;omega))
theorem zjv (w:World)(A:Option Addr)(n c N:Nat)(k:Int)(h:Rd w w.heap.size A n N)(hnc:n<=c)(hcb:c<=maxLen)(hn:n<=10000000000)(hk: -9223372036854775808<=k/\k<=9223372036854775807):
  Calls Tryz.prog 224 #[.slice A n c,.int .i64 k] w (Gives w (N*2^min k.toNat 65536)):=by
 have HC:=zvY (fun W=>zhF W k 65536 hk (by omega))
 obtain⟨m,hm⟩:∃m,min k.toNat 65536=m:=⟨_,rfl⟩
 have hmb:m<=65536:=by omega
 rw[hm]at HC ⊢
 clear hm
 obtain⟨Q,hQ⟩:∃Q:Nat,Q=2048:=⟨_,rfl⟩
 have hw:N*Bw^Q/2^(32*((-(m:Int))/32+(Q:Int)).toNat+((-(m:Int))%32).toNat)=N*2^m:=ztX (by omega)
 have E:=zvY (zfY w A n c N (N*2^m) ((-(m:Int))/32) (-(m:Int)) ((-(m:Int))%32).toNat (by omega) (by omega) (by omega) (fun j=>by rw[<-hw];exact zm3 (by omega) (by omega) j) h hnc hcb hn (fun e=>by rw[e,Nat.zero_mul]) (fun e=>by rw[zkK e];omega))
 clear hw hQ
 go_enter Tryz.func224,Tryz.ntmps224
 go_wp2_with (go_at_call 236;refine(HC.out w).mono ?_;rintro e w' ⟨rfl,rfl⟩)
 refine E.out.mono ?_
 rintro e w2 ⟨A2,c2,rfl,g1,g2,g3,g4⟩
 go_wp2
 go_ret
 exact⟨A2,c2,rfl,g1,g2,g3,g4⟩
theorem ziH (w:World)(A:Option Addr)(n c N:Nat)(k:Int)(h:Rd w w.heap.size A n N)(hnc:n<=c)(hcb:c<=maxLen)(hn:n<=10000000000)(hk: -9223372036854775808<=k/\k<=9223372036854775807):
  Calls Tryz.prog 226 #[.slice A n c,.int .i64 k] w (Gives w (N/2^min k.toNat 65536)):=by
 have HC:=zvY (fun W=>zhF W k 65536 hk (by omega))
 obtain⟨m,hm⟩:∃m,min k.toNat 65536=m:=⟨_,rfl⟩
 have hmb:m<=65536:=by omega
 rw[hm]at HC ⊢
 clear hm
 obtain⟨Q,hQ⟩:∃Q:Nat,Q=2048:=⟨_,rfl⟩
 have hw:N*Bw^Q/2^(32*((m:Int)/32+(Q:Int)).toNat+((m:Int)%32).toNat)=N/2^m:=zqi (by omega)
 have E:=zvY (zfY w A n c N (N/2^m) ((m:Int)/32) (m:Int) ((m:Int)%32).toNat (by omega) (by omega) (by omega) (fun j=>by rw[<-hw];exact zm3 (by omega) (by omega) j) h hnc hcb hn (fun e=>by rw[e,Nat.zero_div]) (fun e=>by rw[zl2];omega))
 clear hw hQ
 go_enter Tryz.func226,Tryz.ntmps226
 go_wp2_with (go_at_call 236;refine(HC.out w).mono ?_;rintro e w' ⟨rfl,rfl⟩)
 refine E.out.mono ?_
 rintro e w2 ⟨A2,c2,rfl,g1,g2,g3,g4⟩
 go_wp2
 go_ret
 exact⟨A2,c2,rfl,g1,g2,g3,g4⟩
end
end Go.Proofs.YtipckjmgdghkiaaGreatDoor
