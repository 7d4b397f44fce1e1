/- A part. -/
import Derived.Test.YtipckjmgdghkiaaGreatDoorGNatA
set_option maxHeartbeats 2000000
set_option maxRecDepth 100000
namespace Go.Proofs.YtipckjmgdghkiaaGreatDoor
open Go Go.RowKit
theorem zcm (w:World)(hi:Nat)(A:Option Addr)(n c N:Nat)(h:Rd w hi A n N)(hn:n<=c)(hc:c<=9223372036854775807:=by omega):
  Calls Tryz.prog 149 #[.slice A n c] w fun e w'=>e= .returned (.slice (zfm N A) (lenL N) (lenL N))/\w=w':=by
 go_enter Tryz.func149,Tryz.ntmps149
 go_wp2
 go_loop [3] (fun i=>∃k:Nat,k<=n/\i= .int .i64 k/\Hid (N<Bw^k)) (fun i=>(intOf i).toNat)
 case atStart=>exact⟨n,Nat.le_refl _,rfl,zvY h.1⟩
 case round=>
  obtain⟨k,hk,rfl,hN⟩:=hrel
  rcases zv7 k with rfl|hpos
  ·have h0:N=0:=by simpa using hN.out
   subst h0
   go_wp2
   go_ret
   exact⟨rfl,rfl⟩
  ·obtain⟨j,rfl⟩:∃j,k=j+1:=⟨k - 1,by omega⟩
   obtain⟨ad,rfl,_,hcell⟩:=h.at_ (k:=j) (by omega)
   by_cases hd:dig N j=0
   ·rw[hd]at hcell
    go_wp2
    go_round
    case rel=>exact⟨j,by omega,by go_num,zvY (zdC hN.out hd)⟩
    case measure=>simp[intOf]
   ·have hb:((dig N j:Int)==0)=false:=by simpa using hd
    have hlen:=zvY (zi4 hN.out hd)
    have hN0: ¬N=0:=fun h0=>hd (by rw[h0];exact zbI j)
    clear hd
    go_wp2
    go_ret
    exact⟨by rw[hlen.out,zdW hN0];rfl,rfl⟩
theorem zhF (w:World)(k:Int)(m:Nat)(hk: -9223372036854775808<=k/\k<=9223372036854775807)(hm:m<=1000000):
  Calls Tryz.prog 236 #[.int .i64 k,.int .i64 m] w fun e w'=>e= .returned (.int .i64 (min k.toNat m:Nat))/\w=w':=by
 by_cases h0:k<0
 ·have HV:=zvY (show min k.toNat m=0 by omega)
  go_enter Tryz.func236,Tryz.ntmps236
  go_wp2
  go_ret
  exact⟨by rw[HV.out];first|rfl|(refine zde ?_;omega),rfl⟩
 ·obtain⟨K,rfl⟩:=Int.eq_ofNat_of_zero_le (show 0<=k by omega)
  by_cases h1:K<=m
  ·go_enter Tryz.func236,Tryz.ntmps236
   go_wp2
   go_ret
   exact⟨by refine zde ?_;omega,rfl⟩
  ·go_enter Tryz.func236,Tryz.ntmps236
   go_wp2
   go_ret
   exact⟨by refine zde ?_;omega,rfl⟩
def digI (N:Nat)(i:Int):Nat:=if i<0 then 0 else dig N i.toNat
theorem zm2 (N:Nat)(i:Int):digI N i<4294967296:=by
 unfold digI
 split
 ·omega
 ·exact zav _ _
theorem zgL (w:World)(hi:Nat)(A:Option Addr)(n c N:Nat)(h:Rd w hi A n N)(i:Int):
  Calls Tryz.prog 245 #[.slice A n c,.int .i64 i] w fun e w'=>e= .returned (.int .u32 (digI N i:Nat))/\w=w':=by
 by_cases h0:i<0
 ·have HV:=zvY (show digI N i=0 from if_pos h0)
  rw[HV.out]
  go_enter Tryz.func245,Tryz.ntmps245
  go_wp2
  go_ret
  exact⟨rfl,rfl⟩
 ·obtain⟨k,rfl⟩:=Int.eq_ofNat_of_zero_le (show 0<=i by omega)
  have HV:=zvY (show digI N (k:Int)=dig N k by unfold digI;rw[if_neg h0,Int.toNat_natCast])
  rw[HV.out]
  clear h0
  by_cases hk:k<n
  ·obtain⟨ad,rfl,_,hc⟩:=h.at_ hk
   go_enter Tryz.func245,Tryz.ntmps245
   go_wp2
   go_ret
   exact⟨rfl,rfl⟩
  ·have hd:=zbN h.1 (by omega:n<=k)
   rw[hd]
   go_enter Tryz.func245,Tryz.ntmps245
   go_wp2
   go_ret
   exact⟨rfl,rfl⟩
theorem zoe {a b c d:Int}(h1:a=c)(h2:b=d):Ending.returned (.tuple #[.int .u32 a,.int .u32 b])= .returned (.tuple #[.int .u32 c,.int .u32 d]):=by rw[h1,h2]
theorem zgk (w:World)(x y z:Nat)(hx:x<4294967296)(hy:y<4294967296)(hz:z<=1):
  Calls Tryz.prog 214 #[.int .u32 x,.int .u32 y,.int .u32 z] w fun e w'=>e= .returned (.tuple #[.int .u32 ((x+y+z)%4294967296:Nat),.int .u32 ((x+y+z)/4294967296:Nat)])/\w=w':=by
 go_enter Tryz.func214,Tryz.ntmps214
 go_wp2
 go_ret2
 exact⟨by refine zoe ?_ ?_ <;> omega,rfl⟩
section
attribute [local go_sem] Oper.semAt_some
theorem zqg (A:Option Addr)(n c:Nat)(w:World):
  CallsIn Fence.wide 0 Tryz.prog 187 #[.slice A n c] w fun e w'=>
   e= .returned (.func (.func 212) #[] #[.pointer (some ⟨w.heap.size,0,none⟩)])/\w'=w.alloc (.cells #[.slice A n c] 23):=by
 refine callsIn_wide.2 ?_
 go_enter Tryz.func187,Tryz.ntmps187
 go_wp2
 go_ret
 exact⟨rfl,rfl⟩
def Src (b hi:Nat)(A:Option Addr)(n c M:Nat)(W:World):Prop:=W.cell? ⟨b,0,none⟩=some (.slice A n c)/\Rd W hi A n M
theorem zju (b hi:Nat)(A:Option Addr)(n c M:Nat)(hn:n<=9223372036854775806)(I:Nat->World->Prop)(hI:∀s W,I s W->Src b hi A n c M W)(F:Fence)(hF:F=Fence.wide):
  zfH F 9 Tryz.prog 212 #[.pointer (some ⟨b,0,none⟩)] (fun x:Nat×Nat=> #[.int .i64 (x.1:Nat),.int .u32 (x.2:Nat)])
   (fun s x=>s<=x.1/\x.1<n/\x.2=dig M x.1/\∀j,s<=j->j<x.1->dig M j=0) (fun _ x=>x.1+1) 0 (fun s=>∀j,s<=j->j<n->dig M j=0) (fun _=>True) I:=by
 subst hF
 intro l J Jx W hJI hJ hJx hY h0
 obtain⟨hb1,_⟩:=hI _ _ (hJI _ _ h0)
 refine callsIn_of_wp Tryz.func212 rfl trivial ?_ rfl
 simp only[Tryz.ntmps212,List.size_toArray,List.length_cons,List.length_nil,Nat.reduceAdd,Nat.reduceSub,Array.replicate_succ,Array.replicate_zero,List.push_toArray,List.append_toArray,List.nil_append,List.cons_append]
 gi_wp2
 gi_loopw [7] (fun i wr=>∃k s:Nat,k<=n/\i= .int .i64 k/\s<=k/\Hid (∀j,s<=j->j<k->dig M j=0)/\J s wr) (fun i _=>n - (intOf i).toNat)
 case atStart=>exact⟨0,0,Nat.zero_le _,rfl,Nat.le_refl _,zvY (fun j _ h=>by omega),h0⟩
 case round=>
  obtain⟨k,s,hk,rfl,hsk,hz,hJs⟩:=hrel
  obtain⟨hc1,hR⟩:=hI _ _ (hJI _ _ hJs)
  by_cases hlt:k<n
  ·obtain⟨ad,rfl,_,hcw⟩:=hR.at_ hlt
   have hx:=zav M k
   by_cases hd:dig M k=0
   ·have HD:=zvY hd
    rw[hd]at hcw
    clear hd
    gi_wp2
    refine⟨fun f e=>(by cases e),?_⟩
    gi_wp2
    go_roundw
    case rel=>exact⟨k+1,s,by omega,by go_num,by omega,zvY (fun j h1 h2=>by
     rcases zv6 j k with h3|h3
     ·exact hz.out j h1 h3
     ·obtain rfl:j=k:=by omega
      exact HD.out),hJs⟩
    case measure=>simp[intOf];omega
   ·have hb:((dig M k:Int)==0)=false:=by simpa using hd
    obtain⟨fn,tmps,assign,body,hy,hRd⟩:=hY s (k,dig M k) wr hJs ⟨hsk,hlt,rfl,hz.out⟩
    dsimp only at hy
    have hb2:((dig M k:Int) != 0)=true:=by simpa using hd
    have hb3: ¬((dig M k:Int)=0):=by omega
    clear hd
    gi_wp2
    refine hRd.mono ?_
    rintro e W3 ⟨b,rfl,hb1,hb2⟩
    have g1:=zvY hb1
    have g2:=zvY hb2
    clear hb1 hb2
    cases b
    ·gi_wp2
     refine bodyPost_ret (results_none rfl _ _ _) rfl ?_
     exact⟨⟨_,rfl⟩,.inr ⟨k+1,(by first|exact⟨trivial,g2.out (by first|rfl|trivial)⟩|exact g2.out (by first|rfl|trivial))⟩⟩
    ·gi_wp2
     go_roundw
     case rel=>exact⟨k+1,k+1,by omega,by go_num,Nat.le_refl _,zvY (fun j h1 h2=>by omega),g1.out (by first|rfl|trivial)⟩
     case measure=>simp[intOf];omega
  ·obtain rfl:k=n:=by omega
   gi_wp2
   go_end0
   exact⟨⟨_,rfl⟩,.inl ⟨s,hz.out,hJs⟩⟩
theorem zof (A:Option Addr)(n c m:Nat)(w:World):
  CallsIn Fence.wide 0 Tryz.prog 189 #[.slice A n c,.int .i64 m] w fun e w'=>
   e= .returned (.func (.func 213) #[] #[.pointer (some ⟨w.heap.size,0,none⟩),.pointer (some ⟨w.heap.size+1,0,none⟩)])/\w'=(w.alloc (.cells #[.slice A n c] 23)).alloc (.cells #[.int .i64 m] 3):=by
 refine callsIn_wide.2 ?_
 go_enter Tryz.func189,Tryz.ntmps189
 go_wp2
 go_ret
 exact⟨rfl,rfl⟩
def zhG (A:Option Addr)(n c m s:Nat):Value:= .slice (A.map fun ad=>ad.add s) (min (s+m) n - s) (c - s)
theorem zia (b hi:Nat)(A:Option Addr)(n c m M:Nat)(hn:n<=1000000000000)(hm:m<=1000000000000)(hm0:0<m)(hnc:n<=c)(hc:c<=9223372036854775807)(I:Nat->World->Prop)(hI:∀s W,I s W->Src b hi A n c M W/\W.cell? ⟨b+1,0,none⟩=some (.int .i64 m))(F:Fence)(hF:F=Fence.wide):
  zfH F 9 Tryz.prog 213 #[.pointer (some ⟨b,0,none⟩),.pointer (some ⟨b+1,0,none⟩)] (fun x:Nat=> #[.int .i64 (x:Nat),zhG A n c m x])
   (fun s x=>x=s/\s<n) (fun s _=>s+m) 0 (fun s=>n<=s) (fun _=>True) I:=by
 subst hF
 intro l J Jx W hJI hJ hJx hY h0
 obtain⟨⟨hb1,_⟩,hb2⟩:=hI _ _ (hJI _ _ h0)
 refine callsIn_of_wp Tryz.func213 rfl trivial ?_ rfl
 simp only[Tryz.ntmps213,List.size_toArray,List.length_cons,List.length_nil,Nat.reduceAdd,Nat.reduceSub,Array.replicate_succ,Array.replicate_zero,List.push_toArray,List.append_toArray,List.nil_append,List.cons_append]
 gi_wp2
 gi_loopw [4] (fun i wr=>∃k:Nat,k<=n+m/\i= .int .i64 k/\J k wr) (fun i _=>n+m - (intOf i).toNat)
 case atStart=>exact⟨0,Nat.zero_le _,rfl,h0⟩
 case round=>
  obtain⟨k,hk,rfl,hJs⟩:=hrel
  obtain⟨⟨hc1,hR⟩,hc2⟩:=hI _ _ (hJI _ _ hJs)
  by_cases hlt:k<n
  ·obtain⟨ad,rfl,_,hcw⟩:=hR.at_ hlt
   obtain⟨fn,tmps,assign,body,hy,hRd⟩:=hY k k wr hJs ⟨rfl,hlt⟩
   dsimp only[zhG,Option.map_some]at hy
   by_cases hkm:k+m<=n
   ·obtain⟨p,hp⟩:∃p,k+m=p:=⟨_,rfl⟩
    have hpi:(k:Int)+(m:Int)=(p:Int):=by omega
    have hq1:k<=p:=by omega
    have hq2:p<=n:=by omega
    rw[show min (k+m) n=p by omega]at hy
    have HP:=zvY hp
    clear hp hcw hkm
    gi_wp2
    refine hRd.mono ?_
    rintro e W3 ⟨b,rfl,hb1,hb2⟩
    have g1:=zvY hb1
    have g2:=zvY hb2
    clear hb1 hb2
    cases b
    ·gi_wp2
     refine bodyPost_ret (results_none rfl _ _ _) rfl ?_
     exact⟨⟨_,rfl⟩,.inr ⟨_,(by first|exact⟨trivial,g2.out (by first|rfl|trivial)⟩|exact g2.out (by first|rfl|trivial))⟩⟩
    ·obtain⟨⟨hd1,_⟩,hd2⟩:=hI _ _ (hJI _ _ (g1.out (by first|rfl|trivial)))
     gi_wp2
     go_roundw
     case rel=>exact⟨k+m,by omega,by rw[HP.out],g1.out (by first|rfl|trivial)⟩
     case measure=>have:=HP.out;simp[intOf];omega
   ·have hki:(n:Int)<(k:Int)+(m:Int):=by omega
    rw[show min (k+m) n=n by omega]at hy
    clear hcw hkm
    gi_wp2
    refine hRd.mono ?_
    rintro e W3 ⟨b,rfl,hb1,hb2⟩
    have g1:=zvY hb1
    have g2:=zvY hb2
    clear hb1 hb2
    cases b
    ·gi_wp2
     refine bodyPost_ret (results_none rfl _ _ _) rfl ?_
     exact⟨⟨_,rfl⟩,.inr ⟨_,(by first|exact⟨trivial,g2.out (by first|rfl|trivial)⟩|exact g2.out (by first|rfl|trivial))⟩⟩
    ·obtain⟨⟨hd1,_⟩,hd2⟩:=hI _ _ (hJI _ _ (g1.out (by first|rfl|trivial)))
     gi_wp2
     go_roundw
     case rel=>exact⟨k+m,by omega,by go_num,g1.out (by first|rfl|trivial)⟩
     case measure=>simp[intOf];omega
  ·have hS:n<=k:=by omega
   gi_wp2
   go_end0
   exact⟨⟨_,rfl⟩,.inl ⟨k,hS,hJs⟩⟩
end
theorem wrote (W:World)(g p:Nat)(u:Value):W.grownBy (W.setCell ⟨g,p,none⟩ u) (some g):=
 ⟨rfl,rfl,rfl,(KeepsWalks.setCell W _ u).size,fun k _ hk=>Below.heap_setCell _ _ _ k (fun e=>hk (by rw[e]))⟩
theorem Rd.grown {W W':World}{hi g n N:Nat}{A:Option Addr}(h:Rd W hi A n N)(hg:W.grownBy W' (some g))(hne:hi<=g)(hlt:hi<=W.heap.size):Rd W' hi A n N:=
 h.keep fun p hp=>World.cell?_of_block (hg.block _ (by omega) (by intro e;cases e;omega))
theorem zaP {W W':World}{g:Nat}(hg:W.grownBy W' (some g))(hlt:g<=W.heap.size):Below g W W':=⟨hg.os,hg.tape,hg.output,hg.size,fun k hk=>hg.block k (by omega) (by simp;omega)⟩
theorem zlZ (w:World)(g n i m c1 n' c' O M d:Nat)(A':Option Addr)(hb:Buf w g n O)(hO:O<Bw^(i+n'))(hin:i+n'+1<=n)(hc1:n'+1<=c1)(hc2:c1<=9223372036854775807)(hnb:n<=9223372036854775807)(h':Rd w g A' n' M)(hg:g<w.heap.size)(hd:d<4294967296):
  Calls Tryz.prog 188 #[.slice (some ⟨g,i,none⟩) m c1,.slice A' n' c',.int .u32 d] w fun e w'=>
   (∃v,e= .returned v)/\w.grownBy w' (some g)/\Buf w' g n (O+d*Bw^i*M):=by
 have HY:=zvY h'.1
 have HO:=zvY hO
 have HB:=zvY hb
 clear hb hO
 go_enter Tryz.func188,Tryz.ntmps188
 go_wp2
 go_loopw [6,16] (fun ov kk wi=>∃j v:Nat,j<=n'/\kk= .int .i64 j/\ov= .int .u64 v/\v<4294967296/\w.grownBy wi (some g)/\Hid (∃O',Buf wi g n O'/\O'<Bw^(i+n')/\O'+v*Bw^(i+j)=O+d*Bw^i*(M%Bw^j))) (fun _ kk _=>n' - (intOf kk).toNat)
 case atStart=>exact⟨0,0,Nat.zero_le _,rfl,rfl,by omega,World.grownBy.refl _ _,zvY ⟨O,HB.out,HO.out,by simp[Nat.mod_one]⟩⟩
 case round=>
  obtain⟨j,v,hj,rfl,rfl,hv,hG,hOi⟩:=hrel
  obtain⟨P,o1,o2,o3⟩:=hOi.out
  by_cases hjt:j<n'
  ·have hR:=h'.grown hG zv0 (by omega)
   obtain⟨ad',rfl,hadb',hcw'⟩:=hR.at_ hjt
   obtain⟨p,hp⟩:∃p,i+j=p:=⟨_,rfl⟩
   have hpl:p<n:=by omega
   obtain⟨hc3,hc4⟩:=o1 p hpl
   have hc1':=hc3
   have d2:=zav M j
   have d3:=zav P p
   have dm:dig M j*d<=4294967295*4294967295:=Nat.mul_le_mul (by omega) (by omega)
   obtain⟨x,hx⟩:∃x,x=d*dig M j+dig P p+v:=⟨_,rfl⟩
   have hxi:((v:Int)+((dig M j:Int)*(d:Int)+(dig P p:Int)))=(x:Int):=by rw[hx,Nat.mul_comm];simp;omega
   have hm0:0<=(dig M j:Int)*(d:Int):=by rw[<-Int.natCast_mul];omega
   have hm1:(dig M j:Int)*(d:Int)<=18446744065119617025:=by rw[<-Int.natCast_mul];omega
   have hxb:x<18446744073709551616:=by rw[Nat.mul_comm]at hx;omega
   have hv':x/4294967296<4294967296:=by omega
   have HP:=zvY hp
   have HX0:=zvY hx
   have O1:=zvY o1
   have O2:=zvY o2
   have O3:=zvY o3
   clear hx dm o1 o2 o3 hc1'
   obtain⟨P',b1,b2,b3⟩:=O1.out.set (p:=p) (x:=x%4294967296) O2.out (by have:=HP.out;omega) (Nat.mod_lt _ (by omega))
   have HN:=zvY (zfP HX0.out b3 HP.out.symm (by rw[HP.out]at O3;exact O3.out))
   have hce:((x:Int)%4294967296)=((x%4294967296:Nat):Int):=by omega
   have hce2:((x:Int)/4294967296)=((x/4294967296:Nat):Int):=by omega
   rw[<-hce]at b1
   have HB1:=zvY b1
   have HB2:=zvY b2
   have HG:=zvY (hG.trans (wrote wr g p (.int .u32 ((x:Int)%4294967296))))
   have HC:=zvY hce2
   clear b1 b2 b3 hce hce2
   go_wp2
   go_roundw
   case rel=>exact⟨j+1,x/4294967296,by omega,by go_num,by rw[HC.out],hv',HG.out,zvY ⟨P',HB1.out,HB2.out,by have:=HN.out;rwa [<-HP.out]at this⟩⟩
   case measure=>simp[intOf];omega
  ·obtain rfl:j=n':=by omega
   obtain⟨p,hp⟩:∃p,i+j=p:=⟨_,rfl⟩
   have hpl:p<n:=by omega
   obtain⟨hc3,hc4⟩:=o1 p hpl
   obtain⟨P',b1,b2,b3⟩:=o1.set (m:=p+1) (p:=p) (x:=v) (zaz o2 (by omega)) (by omega) hv
   rw[zbN o2 (by omega:i+j<=p),Nat.zero_mul,Nat.add_zero]at b3
   have HN:=zvY (show P'=O+d*Bw^i*M by rw[b3,<-hp,o3,zbV HY.out])
   have hw:(v:Int)%4294967296=(v:Int):=by omega
   have HB1:=zvY b1
   have HG:=zvY (hG.trans (wrote wr g p (.int .u32 (v:Int))))
   have HP:=zvY hp
   clear b1 b2 b3 o1 o2 o3
   go_wp2
   go_end0
   refine⟨⟨_,rfl⟩,HG.out,?_⟩
   rw[<-HN.out]
   exact HB1.out
def Rn (W:World)(g:Nat)(A:Option Addr)(n N:Nat):Prop:=
 N<Bw^n/\(0<n->∃ad:Addr,A=some ad/\ad.block≠g/\∀j,j<n->W.cell? (ad.add j)=some (.int .u32 (dig N j:Nat)))
theorem Rn.grown {W W':World}{g n N:Nat}{A:Option Addr}(h:Rn W g A n N)(hg:W.grownBy W' (some g)):Rn W' g A n N:=
 ⟨h.1,fun hn=>by
  obtain⟨ad,e,hb,hc⟩:=h.2 hn
  exact⟨ad,e,hb,fun j hj=>hg.cell (hc j hj) (by rw[zaM];intro e;injection e;omega)⟩⟩
theorem Rn.at_ {W:World}{g n N k:Nat}{A:Option Addr}(h:Rn W g A n N)(hk:k<n):∃ad:Addr,A=some ad/\ad.block≠g/\W.cell? (ad.add k)=some (.int .u32 (dig N k:Nat)):=by
 obtain⟨ad,e,hb,hc⟩:=h.2 (by omega)
 exact⟨ad,e,hb,hc k hk⟩
theorem Rd.rn {W:World}{hi g n N:Nat}{A:Option Addr}(h:Rd W hi A n N)(hg:hi<=g):Rn W g A n N:=
 ⟨h.1,fun hn=>by
  obtain⟨ad,e,hb,hc⟩:=h.2 hn
  exact⟨ad,e,by omega,hc⟩⟩
theorem Fr.rn {W:World}{lo hi g n N:Nat}{A:Option Addr}(h:Fr W lo hi A n N)(hg:g<lo):Rn W g A n N:=
 ⟨h.1,fun hn=>by
  obtain⟨q,e,hl,hb,hc⟩:=h.2 hn
  exact⟨_,e,by simp;omega,fun j hj=>by rw[zaW];exact(hc j hj).1⟩⟩
theorem zu0 {a b:Int}(h:a=b):Value.int .i64 a= .int .i64 b:=by rw[h]
theorem zqh {O v n T q:Nat}(h:O+v*Bw^q=T)(hT:T<Bw^n)(hv:0<v):q<n:=by
 rcases zv6 q n with h1|h1
 ·exact h1
 ·have:Bw^n<=Bw^q:=zv5 zb9 h1
  have:Bw^q<=v*Bw^q:=Nat.le_mul_of_pos_left _ hv
  omega
theorem ze0 (w:World)(g n c i n' c' O M:Nat)(A':Option Addr)(hb:Buf w g n O)(hT:O+Bw^i*M<Bw^n)(hin:i+n'<=n)(_hc2:c<=9223372036854775807)(hnb:n<=9223372036854775806)(h':Rn w g A' n' M)(_hg:g<w.heap.size):
  Calls Tryz.prog 190 #[.slice (some ⟨g,0,none⟩) n c,.slice A' n' c',.int .i64 i] w fun e w'=>
   (∃v,e= .returned v)/\w.grownBy w' (some g)/\Buf w' g n (O+Bw^i*M):=by
 have HY:=zvY h'.1
 have HT:=zvY hT
 have HB:=zvY hb
 clear hb hT
 go_enter Tryz.func190,Tryz.ntmps190
 go_wp2
 go_loopw [2,6,11] (fun pv ov kk wi=>∃j v:Nat,j<=n'/\kk= .int .i64 j/\pv= .int .i64 (i+j:Nat)/\ov= .int .u32 v/\v<=1/\w.grownBy wi (some g)/\Hid (∃O',Buf wi g n O'/\O'+v*Bw^(i+j)=O+1*Bw^i*(M%Bw^j))) (fun _ _ kk _=>n' - (intOf kk).toNat)
 case atStart=>exact⟨0,0,Nat.zero_le _,rfl,rfl,rfl,by omega,World.grownBy.refl _ _,zvY ⟨O,HB.out,by simp[Nat.mod_one]⟩⟩
 case round=>
  obtain⟨j,v,hj,rfl,rfl,rfl,hv,hG,hOi⟩:=hrel
  obtain⟨P,o1,o3⟩:=hOi.out
  have hPT:O+1*Bw^i*(M%Bw^j)<Bw^n:=by
   have h1:=Nat.mul_le_mul_left (Bw^i) (Nat.mod_le M (Bw^j))
   have:=HT.out
   rw[Nat.one_mul];omega
  have hP:P<Bw^n:=by omega
  by_cases hjt:j<n'
  ·obtain⟨ad',rfl,hadb',hcw'⟩:=(h'.grown hG).at_ hjt
   obtain⟨p,hp⟩:∃p,i+j=p:=⟨_,rfl⟩
   have hpl:p<n:=by omega
   obtain⟨hc3,hc4⟩:=o1 p hpl
   have d2:=zav M j
   have d3:=zav P p
   obtain⟨x,hx⟩:∃x,x=1*dig M j+dig P p+v:=⟨_,rfl⟩
   have hxb:x<8589934592:=by omega
   have hv':x/4294967296<=1:=by omega
   have E:=zvY (fun W=>zgk W (dig P p) (dig M j) v d3 d2 hv)
   rw[show dig P p+dig M j+v=x by omega]at E
   obtain⟨P',b1,b2,b3⟩:=o1.set (p:=p) (x:=x%4294967296) hP hpl (Nat.mod_lt _ (by omega))
   have HN:=zvY (zfP hx b3 hp.symm (by rw[hp]at o3;exact o3))
   obtain⟨lo,hlo⟩:∃lo,x%4294967296=lo:=⟨_,rfl⟩
   obtain⟨cy,hcy⟩:∃cy,x/4294967296=cy:=⟨_,rfl⟩
   rw[hlo]at b1 E
   rw[hcy]at hv' HN E
   have HB1:=zvY b1
   have HG:=zvY (hG.trans (wrote wr g p (.int .u32 (lo:Nat))))
   have HP:=zvY hp
   rw[hp]
   have hpi:p<=9223372036854775805:=by omega
   clear hx b1 b2 b3 hxb o1 o3 hPT hP hlo hcy
   go_wp2_with (go_at_call 214;refine(E.out _).mono ?_;rintro e w' ⟨rfl,rfl⟩)
   go_roundw
   case rel=>exact⟨j+1,cy,by omega,by go_num,by have:=HP.out;refine zu0 ?_;omega,rfl,hv',HG.out,zvY ⟨P',HB1.out,by have:=HN.out;rwa [<-HP.out]at this⟩⟩
   case measure=>simp[intOf];omega
  ·obtain rfl:j=n':=by omega
   rw[zbV HY.out,Nat.one_mul]at o3 hPT
   have HO3:=zvY o3
   have HO1:=zvY o1
   clear hPT o3 o1 hP
   go_wp2
   obtain⟨T,hT⟩:∃T,O+Bw^i*M=T:=⟨_,rfl⟩
   rw[hT]at HT HO3
   have HE:=zvY hT
   clear hT
   go_loopw [2,6] (fun pv ov wi=>∃p v:Nat,p<=n/\pv= .int .i64 p/\ov= .int .u32 v/\v<=1/\w.grownBy wi (some g)/\Hid (∃O',Buf wi g n O'/\O'+v*Bw^p=T)) (fun pv _ _=>n - (intOf pv).toNat)
   case atStart=>exact⟨i+j,v,by omega,rfl,rfl,hv,hG,zvY ⟨P,HO1.out,HO3.out⟩⟩
   case round=>
    obtain⟨p,v,hp,rfl,rfl,hv,hG,hOi⟩:=hrel
    obtain⟨P,o1,o3⟩:=hOi.out
    have hP:P<Bw^n:=by have:=HT.out;omega
    rcases zv7 v with h0|h0
    ·subst h0
     rw[Nat.zero_mul,Nat.add_zero]at o3
     have HO3:=zvY o3
     have HO1:=zvY o1
     clear o3 o1 hP
     go_wp2
     go_end0
     refine⟨⟨_,rfl⟩,hG,?_⟩
     rw[HE.out,<-HO3.out]
     exact HO1.out
    ·have hpl:p<n:=zqh o3 HT.out h0
     obtain⟨hc3,hc4⟩:=o1 p hpl
     have d3:=zav P p
     obtain⟨x,hx⟩:∃x,x=1*dig 0 0+dig P p+v:=⟨_,rfl⟩
     have hx':dig P p+0+v=x:=by rw[hx,zbI];omega
     have hv':x/4294967296<=1:=by omega
     have E:=zvY (fun W=>zgk W (dig P p) 0 v d3 (by omega) hv)
     rw[hx']at E
     obtain⟨P',b1,b2,b3⟩:=o1.set (p:=p) (x:=x%4294967296) hP hpl (Nat.mod_lt _ (by omega))
     have HN:=zvY (zfP (k:=0) (i:=p) (p:=p) hx b3 rfl (show P+v*Bw^p=T+1*Bw^p*(0%Bw^0) by rw[Nat.zero_mod,Nat.mul_zero,Nat.add_zero];exact o3))
     rw[Nat.zero_mod,Nat.mul_zero,Nat.add_zero]at HN
     obtain⟨lo,hlo⟩:∃lo,x%4294967296=lo:=⟨_,rfl⟩
     obtain⟨cy,hcy⟩:∃cy,x/4294967296=cy:=⟨_,rfl⟩
     rw[hlo]at b1 E
     rw[hcy]at hv' HN E
     have HB1:=zvY b1
     have HG:=zvY (hG.trans (wrote wr g p (.int .u32 (lo:Nat))))
     have hpi:p<=9223372036854775805:=by omega
     have hvi:(0:Int)<(v:Int):=by omega
     clear hx hx' b1 b2 b3 o1 o3 hP hlo hcy
     go_wp2_with (go_at_call 214;refine(E.out _).mono ?_;rintro e w' ⟨rfl,rfl⟩)
     go_roundw
     case rel=>exact⟨p+1,cy,by omega,by go_num,rfl,hv',HG.out,zvY ⟨P',HB1.out,HN.out⟩⟩
     case measure=>simp[intOf];omega
end Go.Proofs.YtipckjmgdghkiaaGreatDoor
