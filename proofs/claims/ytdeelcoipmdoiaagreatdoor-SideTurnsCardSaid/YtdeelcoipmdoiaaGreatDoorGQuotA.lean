/- A part. -/
import Derived.Laws.IdiomCopy
import Derived.Laws.ResultCell
import Derived.Test.YtdeelcoipmdoiaaGreatDoorGProdA
set_option maxHeartbeats 4000000
set_option maxRecDepth 100000
namespace Go.Proofs.YtdeelcoipmdoiaaGreatDoor
open Go Go.RowKit
theorem zcX {X Y i:Nat}(h:X<Bw^i)(j:Nat):dig (X+Bw^i*Y) j=if j<i then dig X j else dig Y (j - i):=by
 unfold dig
 split
 ·next hj=>
  obtain⟨k,rfl⟩:∃k,i=j+1+k:=⟨i - (j+1),by omega⟩
  rw[show Bw^(j+1+k)*Y=Bw^j*(Bw*(Bw^k*Y))from by rw[Nat.pow_add,Nat.pow_succ];ac_rfl,Nat.add_mul_div_left _ _ (zag j),Nat.add_mul_mod_self_left]
 ·next hj=>
  obtain⟨k,rfl⟩:∃k,j=i+k:=⟨j - i,by omega⟩
  rw[Nat.pow_add,←Nat.div_div_eq_div_mul,Nat.add_mul_div_left _ _ (zag i),Nat.div_eq_of_lt h,Nat.zero_add,show i+k - i=k by omega]
theorem zdM (g:Nat):∀(vs:List Value) (o:Nat) (W:World),W.grownBy (W.setCells g o vs) (some g)
 |[],_,_=>World.grownBy.refl _ _
 |v::r,o,_=>(wrote _ g o v).trans (zdM g r (o+1) _)
theorem zbV {w w1:World}{r:Option Nat}(hb:Below w.heap.size w w1):w.grownBy w1 r:=⟨hb.os,hb.tape,hb.output,hb.size,fun k hk _=>hb.block k hk⟩
theorem ziS {W:World}{g L O i dl dc sl sc k N:Nat}{A:Option Addr}{hi:Nat}(hb:Buf W g L O)(hO:O<Bw^(i+k))(hk:k=min sl dl)(hi1:i+k≤L)(h:Rd W hi A sl N):
  (Builtin.copy_ #[23,23] 3 #[.slice (some ⟨g,i,none⟩) dl dc,.slice A sl sc]).run Tryz.prog W= .ok (.int .i64 (k:Nat)) (W.setCells g i (limbs N k))∧
   Buf (W.setCells g i (limbs N k)) g L (O%Bw^i+Bw^i*(N%Bw^k)):=by
 obtain⟨i0,hinf,hz0,hz1,hz2⟩:=info_parts zbn
 constructor
 ·rcases zsr k with h0|h0
  ·subst h0
   have:=run_copy_none (P:=Tryz.prog) W 23 23 3 77 (some ⟨g,i,none⟩) A dl dc sl sc Tryz.underlying23 (by rw[hinf,Option.map_some,hz1]) hk.symm
   exact this
  ·obtain⟨ad,rfl,_,hc⟩:=h.2 (by omega)
   have:=run_copy_cells (P:=Tryz.prog) W 23 23 3 77 g i dl dc ad sl sc (limbs N k) Tryz.underlying23 (by rw[hinf,Option.map_some,hz1]) (by rw[zaq];exact hk)
    (fun j v hv=>by
     obtain⟨hj,rfl⟩:=zdd hv
     exact hc j (by omega))
    (fun j hj=>by rw[zaq]at hj;rw[(hb (i+j) (by omega)).1];rfl)
    (fun j hj=>by rw[zaq]at hj;exact(hb (i+j) (by omega)).2)
    zbK
   rw[zaq]at this
   exact this
 ·intro j hj
  obtain⟨h1,h2⟩:=hb j hj
  refine⟨?_,by rw[World.frozen?_setCells];exact h2⟩
  rw[zcX (Nat.mod_lt _ (zag i))]
  by_cases e1:j<i
  ·rw[if_pos e1,World.cell?_setCells_out _ _ _ _ _ (fun _ _=> .inl e1),h1]
   have:dig (O%Bw^i) j=dig O j:=by
    have:=zcX (Y:=O/Bw^i) (Nat.mod_lt O (zag i)) j
    rw[if_pos e1,Nat.mod_add_div]at this
    exact this.symm
   rw[this]
  ·rw[if_neg e1]
   by_cases e2:j<i+k
   ·have:=World.cell?_setCells_in g (limbs N k) i W (fun q hq=>by rw[zaq]at hq;rw[(hb (i+q) (by omega)).1];rfl) (j - i) (by rw[zaq];omega)
    rw[show i+(j - i)=j by omega]at this
    rw[this]
    have h5:=zbP (N:=N) (show j - i<k by omega)
    rw[List.getElem?_eq_getElem (by rw[zaq];omega)]at h5
    rw[h5]
    have:=zcX (Y:=N/Bw^k) (Nat.mod_lt N (zag k)) (j - i)
    rw[if_pos (by omega),Nat.mod_add_div]at this
    rw[this]
   ·rw[World.cell?_setCells_out _ _ _ _ _ (fun _ _=> .inr (by rw[zaq];simp only;omega)),h1,zbp hO (by omega),zbp (Nat.mod_lt N (zag k)) (by omega)]
theorem zhQ {x y:Nat}(hx:x<4294967296)(hy:y<4294967296):bits BinOp.or IntKind.u64 ((x:Int)*4294967296) y=((x*4294967296+y:Nat):Int):=by
 have h3:=u64_or_nat (x*4294967296) y (by omega) (by omega)
 have h4:x*4294967296 ||| y=x*4294967296+y:=by
  have:=Nat.shiftLeft_add_eq_or_of_lt (i:=32) (b:=y) (by omega) x
  rw[Nat.shiftLeft_eq]at this
  exact this.symm
 rw[h4]at h3
 exact h3
theorem zlT (w:World)(hi:Nat)(A A':Option Addr)(n m c c' U D:Nat)(h:Rd w hi A (n+1) U)(h':Rd w hi A' n D)(hm:n+1≤m)(hn:2≤n)(hnb:m≤9223372036854775806)(hd:dig D (n - 1)≠0)(hlt:U<D*Bw):
  Calls Tryz.prog 176 #[.slice A m c,.slice A' n c'] w fun e w'=>∃q k:Nat,e= .returned (.int .u32 q)∧U/D≤q∧q≤U/D+1∧q<4294967296∧w'=w.drewN k:=by
 have T:=zsi (zqp hn h.1 h'.1 hd hlt)
 obtain⟨ad,rfl,_,hu0⟩:=h.at_ (k:=n) (by omega)
 obtain⟨ad1,e1,_,hu1⟩:=h.at_ (k:=n - 1) (by omega)
 obtain⟨ad2,e2,_,hu2⟩:=h.at_ (k:=n - 2) (by omega)
 obtain⟨ad',rfl,_,hd1⟩:=h'.at_ (k:=n - 1) (by omega)
 obtain⟨ad3,e3,_,hd2⟩:=h'.at_ (k:=n - 2) (by omega)
 cases e1;cases e2;cases e3
 obtain⟨u,hu⟩:∃u,dig U n=u:=⟨_,rfl⟩
 obtain⟨u1,hu'⟩:∃u1,dig U (n - 1)=u1:=⟨_,rfl⟩
 obtain⟨t,ht⟩:∃t,dig U (n - 2)=t:=⟨_,rfl⟩
 obtain⟨hh,hhh⟩:∃hh,dig D (n - 1)=hh:=⟨_,rfl⟩
 obtain⟨l,hl⟩:∃l,dig D (n - 2)=l:=⟨_,rfl⟩
 have b0:=zar U n
 have b1:=zar U (n - 1)
 have b2:=zar U (n - 2)
 have b3:=zar D (n - 1)
 have b4:=zar D (n - 2)
 rw[hu,hu',ht,hhh,hl]at T
 rw[hu]at hu0 b0
 rw[hu']at hu1 b1
 rw[ht]at hu2 b2
 rw[hhh]at hd hd1 b3
 rw[hl]at hd2 b4
 clear h h' hu hu' ht hhh hl
 obtain⟨n1,hn1⟩:∃n1,n - 1=n1:=⟨_,rfl⟩
 obtain⟨n2,hn2⟩:∃n2,n - 2=n2:=⟨_,rfl⟩
 rw[hn1]at hu1 hd1
 rw[hn2]at hu2 hd2
 have i1:(n:Int) - 1=(n1:Int):=by omega
 have i2:(n:Int) - 2=(n2:Int):=by omega
 have j1:n1<n:=by omega
 have j2:n2<n:=by omega
 have k0:n<m:=by omega
 have k1:n1<m:=by omega
 have k2:n2<m:=by omega
 clear hn1 hn2
 have ho:=zhQ b0 b1
 obtain⟨H,hH⟩:∃H,u*4294967296+u1=H:=⟨_,rfl⟩
 rw[hH]at ho T
 have hHb:H<18446744073709551616:=by omega
 clear hH
 obtain⟨q0,hq0⟩:∃q0,H/hh=q0:=⟨_,rfl⟩
 obtain⟨r0,hr0⟩:∃r0,H%hh=r0:=⟨_,rfl⟩
 have q0b:q0≤H:=by rw[←hq0];exact Nat.div_le_self _ _
 have r0b:r0≤H:=by rw[←hr0];exact Nat.mod_le _ _
 have HS:=zsi (T.out.start)
 rw[hq0,hr0]at HS
 have HQ0:=zsi (show IntKind.u64.wrap ((H:Int)/(hh:Int))=(q0:Int) by rw[zbO,←Int.natCast_ediv,hq0];omega)
 have HR0:=zsi (show(H:Int)%(hh:Int)=(r0:Int) by rw[←Int.natCast_emod,hr0])
 clear hq0 hr0
 go_enter Tryz.func176,Tryz.ntmps176
 go_wp2
 apply wp_scope_straight
 go_wp2
 go_quiet (fail)
 go_wp2
 go_quiet (fail)
 go_wp2
 go_quiet (fail)
 go_wp2
 rw[HQ0.out,HR0.out]
 refine wp_label ?_
 go_wp2
 go_loopw [10,11] (fun qv rv wi=>∃q r k:Nat,qv= .int .u64 q∧rv= .int .u64 r∧q≤H∧r≤H∧Hid (ziH U D H hh q r)∧wi=w.drewN k) (fun qv _ _=>(intOf qv).toNat)
 case atStart=>exact⟨q0,r0,_,rfl,rfl,q0b,r0b,HS,by simp only[World.drewN_drewN];rfl⟩
 case round=>
  obtain⟨q,r,k,rfl,rfl,hqb,hrb,hg,hwk⟩:=hrel
  have HW:=zsi hwk
  clear hwk
  by_cases c1:4294967295<q
  ·obtain⟨h1,h2,h3⟩:=T.out.next hg.out (.inl c1)
   have HG:=zsi h2
   clear h2
   have ei:(q:Int) - 1=((q - 1:Nat):Int):=by omega
   obtain⟨q',hq'⟩:∃q',q - 1=q':=⟨_,rfl⟩
   rw[hq']at ei HG
   go_wp2
   go_roundw
   case rel=>exact⟨q',r+hh,k,rfl,by go_num,by omega,h3,HG,HW.out⟩
   case measure=>simp[intOf];omega
  ·by_cases c2:4294967295<r
   ·have HS:=zsi (T.out.stop hg.out c1 (.inl c2))
    go_wp2
    rw[Exit.noGoto_ret]
    go_ret
    exact⟨q,k,rfl,HS.out.1,HS.out.2,by omega,HW.out⟩
   ·have hor:=zhQ (x:=r) (y:=t) (by omega) b2
    obtain⟨X,hX⟩:∃X,r*4294967296+t=X:=⟨_,rfl⟩
    have hm0:0≤(q:Int)*(l:Int):=by rw[←Int.natCast_mul];omega
    have hm1:(q:Int)*(l:Int)≤18446744065119617025:=by
     have:=Nat.mul_le_mul (show q≤4294967295 by omega) (show l≤4294967295 by omega)
     rw[←Int.natCast_mul];omega
    by_cases c3:q*l≤r*4294967296+t
    ·have HS:=zsi (T.out.stop hg.out c1 (.inr c3))
     rw[hX]at hor
     have hle:(q:Int)*(l:Int)≤(X:Int):=by rw[←Int.natCast_mul];omega
     clear hX c3
     go_wp2
     rw[Exit.noGoto_ret]
     go_ret
     exact⟨q,k,rfl,HS.out.1,HS.out.2,by omega,HW.out⟩
    ·obtain⟨h1,h2,h3⟩:=T.out.next hg.out (.inr (by omega))
     have HG:=zsi h2
     clear h2
     have ei:(q:Int) - 1=((q - 1:Nat):Int):=by omega
     obtain⟨q',hq'⟩:∃q',q - 1=q':=⟨_,rfl⟩
     rw[hq']at ei HG
     rw[hX]at hor
     have hle: ¬(q:Int)*(l:Int)≤(X:Int):=by rw[←Int.natCast_mul];omega
     clear hX c3
     go_wp2
     go_roundw
     case rel=>exact⟨q',r+hh,k,rfl,by go_num,by omega,h3,HG,HW.out⟩
     case measure=>simp[intOf];omega
section
attribute [local go_sem] Oper.semAt_some
theorem zlU (w:World)(r x M:Nat)(hr:r<M)(hx:x<4294967296)(hM:M<4294967296):
  Calls Tryz.prog 172 #[.int .u32 r,.int .u32 x,.int .u32 M] w fun e w'=>e= .returned (.tuple #[.int .u32 ((r*4294967296+x)/M:Nat),.int .u32 ((r*4294967296+x)%M:Nat)])∧∃k,w'=w.drewN k:=by
 have ho:=zhQ (show r<4294967296 by omega) hx
 obtain⟨z,hz⟩:∃z,r*4294967296+x=z:=⟨_,rfl⟩
 rw[hz]at ho
 have hzb:z<18446744073709551616:=by omega
 have hq:z/M<4294967296:=by
  rw[Nat.div_lt_iff_lt_mul (by omega)]
  have:(r+1)*4294967296≤M*4294967296:=Nat.mul_le_mul_right _ hr
  rw[Nat.mul_comm 4294967296]
  omega
 have hm:z%M<M:=Nat.mod_lt _ (by omega)
 obtain⟨dq,hdq⟩:∃dq,z/M=dq:=⟨_,rfl⟩
 obtain⟨dr,hdr⟩:∃dr,z%M=dr:=⟨_,rfl⟩
 rw[hdq]at hq
 rw[hdr]at hm
 have e1:IntKind.u64.wrap ((z:Int)/(M:Int))%4294967296=(dq:Int):=by rw[zbO,←Int.natCast_ediv,hdq];omega
 have e2:(z:Int)%(M:Int)%4294967296=(dr:Int):=by rw[←Int.natCast_emod,hdr];omega
 have HD:=zsi (show(r*4294967296+x)/M=dq∧(r*4294967296+x)%M=dr from⟨by rw[hz];exact hdq,by rw[hz];exact hdr⟩)
 rw[HD.out.1,HD.out.2]
 have E1:=zsi e1
 have E2:=zsi e2
 have HZ:=zsi hz
 have hM0:(M:Int)≠0:=by omega
 have hMr: ¬(M:Int)≤(r:Int):=by omega
 clear e1 e2 hz hq hm hdq hdr
 go_enter Tryz.func172,Tryz.ntmps172
 go_wp2
 go_quiet (fail)
 rw[E1.out,E2.out]
 go_wp2
 go_ret2
 exact⟨rfl,_,rfl⟩
theorem ziT (A:Option Addr)(n c:Nat)(w:World):
  CallsIn Fence.wide 0 Tryz.prog 171 #[.slice A n c] w fun e w'=>
   e= .returned (.func (.func 180) #[] #[.pointer (some ⟨w.heap.size,0,none⟩)])∧w'=w.alloc (.cells #[.slice A n c] 23):=by
 refine callsIn_wide.2 ?_
 go_enter Tryz.func171,Tryz.ntmps171
 go_wp2
 go_ret
 exact⟨rfl,rfl⟩
def zrr (b:Nat)(A:Option Addr)(n c:Nat)(d:Nat→Nat)(s:Nat)(W:World):Prop:=
 W.cell? ⟨b,0,none⟩=some (.slice A n c)∧s≤n∧∀i,s=i+1→∃ad:Addr,A=some ad∧W.cell? (ad.add i)=some (.int .u32 (d i:Nat))
theorem zfG (b:Nat)(A:Option Addr)(n c:Nat)(d:Nat→Nat)(hn:n≤9223372036854775806)(hd:∀i,d i<4294967296)(I:Nat→World→Prop)(hI:∀s W,I s W→zrr b A n c d s W)(F:Fence)(hF:F=Fence.wide):
  zei F 9 Tryz.prog 180 #[.pointer (some ⟨b,0,none⟩)] (fun x:Nat×Nat=> #[.int .i64 (x.1:Nat),.int .u32 (x.2:Nat)])
   (fun s x=>s=x.1+1∧x.2=d x.1) (fun _ x=>x.1) n (fun s=>s=0) (fun _=>True) I:=by
 subst hF
 intro l J Jx W hJI hJ hJx hY h0
 obtain⟨hb1,_⟩:=hI _ _ (hJI _ _ h0)
 refine callsIn_of_wp Tryz.func180 rfl trivial ?_ rfl
 simp only[Tryz.ntmps180,List.size_toArray,List.length_cons,List.length_nil,Nat.reduceAdd,Nat.reduceSub,Array.replicate_succ,Array.replicate_zero,List.push_toArray,List.append_toArray,List.nil_append,List.cons_append]
 gi_wp2
 gi_loopw [3] (fun i wr=>∃k:Nat,k≤n∧i= .int .i64 ((k:Int) - 1)∧J k wr) (fun i _=>(intOf i+1).toNat)
 case atStart=>exact⟨n,Nat.le_refl _,rfl,h0⟩
 case round=>
  obtain⟨k,hk,rfl,hJs⟩:=hrel
  obtain⟨hc1,hkn,hR⟩:=hI _ _ (hJI _ _ hJs)
  rcases zsr k with h0|h0
  ·subst h0
   clear hR
   gi_wp2
   go_end0
   exact⟨⟨_,rfl⟩,.inl ⟨_,rfl,hJs⟩⟩
  ·obtain⟨i,rfl⟩:∃i,k=i+1:=⟨k - 1,by omega⟩
   obtain⟨ad,rfl,hcw⟩:=hR i rfl
   have hx:=hd i
   have hii:(((i+1:Nat):Int) - 1)=(i:Int):=by omega
   rw[hii]
   obtain⟨fn,tmps,assign,body,hy,hRd⟩:=hY (i+1) (i,d i) wr hJs ⟨rfl,rfl⟩
   dsimp only at hy
   clear hR
   have hin:i<n:=by omega
   gi_wp2
   refine hRd.mono ?_
   rintro e W3 ⟨b,rfl,hb1,hb2⟩
   have g1:=zsi hb1
   have g2:=zsi hb2
   clear hb1 hb2
   cases b
   ·gi_wp2
    refine bodyPost_ret (results_none rfl _ _ _) rfl ?_
    exact⟨⟨_,rfl⟩,.inr ⟨_,(by first|exact⟨trivial,g2.out (by first|rfl|trivial)⟩|exact g2.out (by first|rfl|trivial))⟩⟩
   ·gi_wp2
    go_roundw
    case rel=>exact⟨i,by omega,by go_num,g1.out (by first|rfl|trivial)⟩
    case measure=>simp[intOf]
end
theorem znA (x:Nat)(h:x<18446744073709551616):bits BinOp.and IntKind.u64 (x:Int) 4294967295=((x%4294967296:Nat):Int):=by
 have h3:=u64_and_nat x 4294967295 (by omega) (by omega)
 rw[show x&&&4294967295=x%4294967296 from Nat.and_two_pow_sub_one_eq_mod x 32]at h3
 exact h3
theorem zg8 {p c:Nat}(hp:p<4294967296)(hc:c<4294967296):∃b e:Nat,b≤1∧e<4294967296∧e+c=p+b*4294967296∧IntKind.u64.wrap ((p:Int) - (c:Int))%4294967296=(e:Int)∧IntKind.u64.wrap ((p:Int) - (c:Int))/9223372036854775808=(b:Int)∧
  (decide (0<IntKind.u64.wrap ((p:Int) - (c:Int))/9223372036854775808))=decide (0<b):=by
 simp only[zbO]
 rcases zsq p c with h|h
 ·exact⟨1,p+4294967296 - c,by omega,by omega,by omega,by omega,by omega,by rw[decide_eq_decide];omega⟩
 ·exact⟨0,p - c,by omega,by omega,by omega,by omega,by omega,by rw[decide_eq_decide];omega⟩
theorem zgH (w:World)(g L i m c1 n c' O M d:Nat)(A':Option Addr)(hb:Buf w g L O)(hO:O<Bw^(i+n+1))(hin:i+n+1≤L)(hm:n+1≤m)(hc1:m≤c1)(hc2:c1≤9223372036854775806)(h':Rn w g A' n M)(hd:d<4294967296):
  Calls Tryz.prog 177 #[.slice (some ⟨g,i,none⟩) m c1,.slice A' n c',.int .u32 d] w fun e w'=>
   ∃b O',b≤1∧e= .returned (.bool (decide (0<b)))∧w.grownBy w' (some g)∧Buf w' g L O'∧O'<Bw^(i+n+1)∧O'+d*Bw^i*M=O+b*Bw^(i+n+1):=by
 have HY:=zsi h'.1
 have HO:=zsi hO
 have HB:=zsi hb
 clear hb hO
 go_enter Tryz.func177,Tryz.ntmps177
 go_wp2
 go_loopw [8,21] (fun ov kk wi=>∃j v:Nat,j≤n∧kk= .int .i64 j∧ov= .int .u64 v∧v<4294967296∧w.grownBy wi (some g)∧Hid (∃O',Buf wi g L O'∧O'<Bw^(i+n+1)∧O'+d*Bw^i*(M%Bw^j)=O+v*Bw^(i+j))) (fun _ kk _=>n - (intOf kk).toNat)
 case atStart=>exact⟨0,0,Nat.zero_le _,rfl,rfl,by omega,World.grownBy.refl _ _,zsi ⟨O,HB.out,HO.out,by simp[Nat.mod_one]⟩⟩
 case round=>
  obtain⟨j,v,hj,rfl,rfl,hv,hG,hOi⟩:=hrel
  obtain⟨P,o1,o2,o3⟩:=hOi.out
  by_cases hjt:j<n
  ·have hR:=h'.grown hG
   obtain⟨ad',rfl,hadb',hcw'⟩:=hR.at_ hjt
   obtain⟨p,hp⟩:∃p,i+j=p:=⟨_,rfl⟩
   have hpl:p<L:=by omega
   obtain⟨hc3,hc4⟩:=o1 p hpl
   have hc1':=hc3
   have d2:=zar M j
   have d3:=zar P p
   have dm:dig M j*d≤4294967295*4294967295:=Nat.mul_le_mul (by omega) (by omega)
   obtain⟨x,hx⟩:∃x,x=v+d*dig M j:=⟨_,rfl⟩
   have hxi:((v:Int)+((dig M j:Int)*(d:Int)))=(x:Int):=by rw[hx,Nat.mul_comm];simp
   have hm0:0≤(dig M j:Int)*(d:Int):=by rw[←Int.natCast_mul];omega
   have hm1:(dig M j:Int)*(d:Int)≤18446744065119617025:=by rw[←Int.natCast_mul];omega
   have hxb:x<18446744069414584321:=by rw[Nat.mul_comm]at hx;omega
   have hand:=znA x (by omega)
   obtain⟨b,e,hb1,he1,he2,he3,he4,_⟩:=zg8 d3 (Nat.mod_lt x (by omega:0<4294967296))
   obtain⟨P',b1,b2,b3⟩:=o1.set (p:=p) (x:=e) o2 (by omega) he1
   have HN:=zsi (zgW hx he2 b3 hp.symm (by rw[hp]at o3;exact o3))
   obtain⟨cx,hcx⟩:∃cx,x%4294967296=cx:=⟨_,rfl⟩
   rw[hcx]at hand he3 he4
   obtain⟨dv,hdv⟩:∃dv,IntKind.u64.wrap ((dig P p:Int) - (cx:Int))=dv:=⟨_,rfl⟩
   rw[hdv]at he3 he4
   have HV:=zsi (show(x:Int)/4294967296+(b:Int)=((x/4294967296+b:Nat):Int) by omega)
   have hvb:x/4294967296+b<4294967296:=by omega
   have HP:=zsi hp
   have HB1:=zsi b1
   have HB2:=zsi b2
   have HG:=zsi (hG.trans (wrote wr g p (.int .u32 (e:Int))))
   clear hx dm o1 o2 o3 hc1' b1 b2 b3 he2 hcx
   go_wp2
   go_roundw
   case rel=>exact⟨j+1,x/4294967296+b,by omega,by go_num,by rw[HV.out],hvb,HG.out,zsi ⟨P',HB1.out,HB2.out,by have:=HN.out;rwa [←HP.out]at this⟩⟩
   case measure=>simp[intOf];omega
  ·obtain rfl:j=n:=by omega
   obtain⟨p,hp⟩:∃p,i+j=p:=⟨_,rfl⟩
   have hpl:p<L:=by omega
   obtain⟨hc3,hc4⟩:=o1 p hpl
   have d3:=zar P p
   obtain⟨b,e,hb1,he1,he2,he3,he4,he5⟩:=zg8 d3 hv
   obtain⟨P',b1,b2,b3⟩:=o1.set (p:=p) (x:=e) o2 (by omega) he1
   have HN:=zsi (zgW (t:=d) (M:=M) (i:=i) (k:=j) (x:=v) (b:=b) (e:=e) (by rw[zbp HY.out zsk,Nat.mul_zero,Nat.add_zero]) (by rw[Nat.mod_eq_of_lt hv];exact he2) b3 hp.symm (by rw[hp]at o3;exact o3))
   rw[zbv (zat HY.out (Nat.le_succ _)),Nat.div_eq_of_lt hv,Nat.zero_add]at HN
   obtain⟨dv,hdv⟩:∃dv,IntKind.u64.wrap ((dig P p:Int) - (v:Int))=dv:=⟨_,rfl⟩
   rw[hdv]at he3 he4 he5
   have HP:=zsi hp
   have HB1:=zsi b1
   have HB2:=zsi b2
   have HE:=zsi he5
   have HG:=zsi (hG.trans (wrote wr g p (.int .u32 (e:Int))))
   clear o1 o2 o3 b1 b2 b3 he2 he5 he4
   go_wp2
   go_ret
   refine⟨b,P',hb1,by rw[HE.out];rfl,HG.out,HB1.out,HB2.out,?_⟩
   have:=HN.out
   rwa [←HP.out]at this
theorem zhR (w:World)(g L i c1 n c' O D:Nat)(A':Option Addr)(hb:Buf w g L O)(hO:O<Bw^(i+(n+1)))(hin:i+(n+1)≤L)(hc1:n+1≤c1)(hc2:c1≤maxLen)(h':Rd w w.heap.size A' n D)(hc3:n≤c')(hc4:c'≤maxLen)(hn:n+1≤35184372087808)(hg:g<w.heap.size)(hs:Bw^(n+1)≤O/Bw^i+D):
  Calls Tryz.prog 178 #[.slice (some ⟨g,i,none⟩) (n+1:Nat) c1,.slice A' n c'] w fun e w'=>
   (∃v,e= .returned v)∧w.grownBy w' (some g)∧Buf w' g L (O%Bw^i+Bw^i*((O/Bw^i+D)%Bw^(n+1))):=by
 have hX:O/Bw^i<Bw^(n+1):=by
  rw[Nat.div_lt_iff_lt_mul (zag i),Nat.mul_comm,←Nat.pow_add];exact hO
 have hx:(Num.mk (some ⟨g,i,none⟩) (n+1) c1 (O/Bw^i)).ok w w.heap.size:=⟨⟨hX,fun _=>⟨_,rfl,hg,fun j hj=>by
  have:=(hb (i+j) (by simp only at hj;omega)).1
  have e:(⟨g,i,none⟩:Addr).add j=⟨g,i+j,none⟩:=by unfold Addr.add;split <;> simp_all
  rw[e,this]
  congr 2
  have:=zcX (Y:=O/Bw^i) (Nat.mod_lt O (zag i)) (i+j)
  rw[if_neg (by omega),Nat.mod_add_div,show i+j - i=j by omega]at this
  exact congrArg _ this⟩⟩,hc1,hc2,hn⟩
 have hy:(Num.mk A' n c' D).ok w w.heap.size:=⟨h',hc3,hc4,by simp only;omega⟩
 have hR:=Rds.two (t:=23) hx hy
 have E:=zsi (zfP _ _ 2 _ hR (by simp))
 have HB:=zsi hb
 have HO:=zsi hO
 have HS:=zsi hs
 have HX:=zsi hX
 clear hb hO hs hx hy hR hX
 go_enter Tryz.func178,Tryz.ntmps178
 go_wp2_with fail
 refine E.out.mono ?_
 rintro e W ⟨A,c,rfl,a1,a2,a3,a4⟩
 have hsum:zbq [Num.mk (some ⟨g,i,none⟩) (n+1) c1 (O/Bw^i),Num.mk A' n c' D]=O/Bw^i+D:=by simp[zbq]
 rw[hsum]at a1 a3
 rw[hsum]
 have hl:n+1≤lenL (O/Bw^i+D):=by
  rcases zsq (lenL (O/Bw^i+D)) (n+1)with h|h
  ·have:=zai.1 (Nat.le_of_lt_succ h)
   have h7:O/Bw^i+D<Bw^(n+1):=zat this (Nat.le_succ n)
   have:=HS.out
   omega
  ·exact h
 have hg0:w.grownBy W (some g):=zbV ((Below.refl _ w).alloc zsk _ |>.trans (a4.mono (by rw[World.size_alloc];omega)))
 have hB:Buf W g L O:=fun j hj=>by
  obtain⟨h1,h2⟩:=HB.out j hj
  have hb4:Below w.heap.size w W:=(Below.refl _ w).alloc zsk _ |>.trans (a4.mono (by rw[World.size_alloc];omega))
  exact⟨(hb4.cell (p:=⟨g,j,none⟩) hg).trans h1,(hb4.frozen (p:=⟨g,j,none⟩) hg).trans h2⟩
 obtain⟨hcp,hbf⟩:=ziS (dl:=n+1) (dc:=c1) (sc:=c) (k:=n+1) hB HO.out (by omega) hin a3.rd
 have HC:=zsi hbf
 have HG:=zsi (hg0.trans (zdM g (limbs (O/Bw^i+D) (n+1)) i W))
 clear a3 a4 hg0 hB hbf hsum hl E
 go_wp2
 go_end0
 exact⟨⟨_,rfl⟩,HG.out,HC.out⟩
section
attribute [local go_sem] Oper.semAt_some
theorem ziU (A A':Option Addr)(n c n' c':Nat)(w:World):
  CallsIn Fence.wide 0 Tryz.prog 162 #[.slice A n c,.slice A' n' c'] w fun e w'=>
   e= .returned (.func (.func 175) #[] #[.pointer (some ⟨w.heap.size+1,0,none⟩),.pointer (some ⟨w.heap.size,0,none⟩)])∧
   w'=(w.alloc (.cells #[.slice A n c] 23)).alloc (.cells #[.slice A' n' c'] 23):=by
 refine callsIn_wide.2 ?_
 go_enter Tryz.func162,Tryz.ntmps162
 go_wp2
 go_ret
 exact⟨rfl,rfl⟩
structure QSrc (bd br g L n cr cd V D m:Nat) (A':Option Addr) (s:Nat×Nat) (W:World):Prop where
 b1:W.cell? ⟨bd,0,none⟩=some (.slice A' n cd)
 b2:W.cell? ⟨br,0,none⟩=some (.slice (some ⟨g,0,none⟩) L cr)
 d1:Rn W g A' n D
 d2:Rd W W.heap.size A' n D
 r:Buf W g L (V%(D*Bw^s.2))
 g1:g<W.heap.size
 s1:s.1≤m
 s2:br<W.heap.size
def QMv (g L V D:Nat)(s s':Nat×Nat)(A B:World):Prop:=s.2=s.1∧s'=(s.1,s.1 - 1)∧A.grownBy B (some g)∧Buf B g L (V%(D*Bw^(s.1 - 1)))
theorem Buf.win {W:World}{g L O i n hi:Nat}(hb:Buf W g L O)(hO:O<Bw^(i+n))(hin:i+n≤L)(hg:g<hi):Rd W hi (some ⟨g,i,none⟩) n (O/Bw^i):=
 ⟨by rw[Nat.div_lt_iff_lt_mul (zag i),Nat.mul_comm,←Nat.pow_add];exact hO,fun _=>⟨_,rfl,hg,fun j hj=>by
  have:=(hb (i+j) (by omega)).1
  have e:(⟨g,i,none⟩:Addr).add j=⟨g,i+j,none⟩:=by unfold Addr.add;split <;> simp_all
  rw[e,this]
  congr 2
  have:=zcX (Y:=O/Bw^i) (Nat.mod_lt O (zag i)) (i+j)
  rw[if_neg (by omega),Nat.mod_add_div,show i+j - i=j by omega]at this
  exact congrArg _ this⟩⟩
theorem Rd.other {W W':World}{hi hi' g n N:Nat}{A:Option Addr}(h:Rd W hi A n N)(h':Rn W g A n N)(hg:W.grownBy W' (some g))(hh:hi≤hi'):Rd W' hi' A n N:=
 ⟨h.1,fun hn=>by
  obtain⟨ad,e,hb,hc⟩:=h.2 hn
  obtain⟨ad',e',hb',hc'⟩:=h'.2 hn
  rw[e]at e'
  cases e'
  exact⟨ad,e,by omega,fun j hj=>hg.cell (hc j hj) (by rw[zaJ];intro e;injection e;omega)⟩⟩
theorem zfH (bd br g L n cr cd V D m:Nat)(A':Option Addr)(hn:2≤n)(hL:L=n+m)(hLb:L≤1000000000)(hcr:L≤cr)(hcr2:cr≤1000000000)(hcd:n≤cd)(hcd2:cd≤maxLen)(hD:dig D (n - 1)≠0)(hDn:D<Bw^n)(hne:bd≠g∧br≠g)
  (I:Nat×Nat→World→Prop) (hI:∀s W,I s W→QSrc bd br g L n cr cd V D m A' s W) (F:Fence) (hF:F=Fence.wide):
  zhB F 9 Tryz.prog 175 #[.pointer (some ⟨bd,0,none⟩),.pointer (some ⟨br,0,none⟩)] (fun x:Nat×Nat=> #[.int .i64 (x.1:Nat),.int .u32 (x.2:Nat)])
   (fun s x=>s.1=s.2+1∧x=(s.2,dig (V/D) s.2)) (fun s _=>(s.2,s.2)) (m,m) (fun s=>s=(0,0)) (fun _=>True) I (QMv g L V D):=by
 subst hF hL
 intro l J Jx W hJI hJ hJx hM hY h0
 have H0:=hI _ _ (hJI _ _ h0)
 have hb1:=H0.b1
 have hb2:=H0.b2
 have hDp:0<D:=by
  rcases zsr D with h|h
  ·subst h;simp[zbm]at hD
  ·exact h
 have hi0:((n:Int)+(m:Int) - (n:Int) - 1)=(m:Int) - 1:=by omega
 clear H0
 refine callsIn_of_wp Tryz.func175 rfl trivial ?_ rfl
 simp only[Tryz.ntmps175,List.size_toArray,List.length_cons,List.length_nil,Nat.reduceAdd,Nat.reduceSub,Array.replicate_succ,Array.replicate_zero,List.push_toArray,List.append_toArray,List.nil_append,List.cons_append]
 gi_wp2
 gi_loopw [5] (fun i wr=>∃k:Nat,k≤m∧i= .int .i64 ((k:Int) - 1)∧J (k,k) wr) (fun i _=>(intOf i+1).toNat)
 case atStart=>exact⟨m,Nat.le_refl _,by first|rfl|rw[hi0],h0⟩
 case round=>
  obtain⟨k,hk,rfl,hJs⟩:=hrel
  have HS:=hI _ _ (hJI _ _ hJs)
  have hb1:=HS.b1
  have hb2:=HS.b2
  rcases zsr k with h0|h0
  ·subst h0
   clear hb1 hb2
   gi_wp2
   go_end0
   exact⟨⟨_,rfl⟩,.inl ⟨_,rfl,hJs⟩⟩
  ·obtain⟨i,rfl⟩:∃i,k=i+1:=⟨k - 1,by omega⟩
   obtain⟨R,hR⟩:∃R,R=V%(D*Bw^(i+1)):=⟨_,rfl⟩
   obtain⟨q1,q2,q3,q4⟩:=zng hDp hR
   obtain⟨qt,hqt⟩:∃qt,dig (V/D) i=qt:=⟨_,rfl⟩
   obtain⟨X,hX⟩:∃X,V%(D*Bw^i)=X:=⟨_,rfl⟩
   have hqtb:=zar (V/D) i
   rw[hqt]at q2 q3 hqtb
   rw[hX]at q3 q4
   have hRlt:R<Bw^(i+(n+1)):=by
    rw[hR]
    refine zsn (Nat.mod_lt _ (Nat.mul_pos hDp (zag _))) ?_
    rw[show i+(n+1)=n+(i+1) by omega,Nat.pow_add Bw n (i+1)]
    exact Nat.mul_le_mul_right _ (Nat.le_of_lt hDn)
   have hlm:i+(n+1)≤n+m:=by omega
   have hBf:Buf wr g (n+m) R:=by rw[hR];exact HS.r
   have hii:(((i+1:Nat):Int) - 1)=(i:Int):=by omega
   rw[hii]
   have hw:i+n+1 - i=n+1:=by omega
   have EG:=zsi (zlT wr wr.heap.size (some ⟨g,i,none⟩) A' n (n+1) (cr - i) cd (R/Bw^i) D (hBf.win hRlt hlm HS.g1) HS.d2 zsk hn (by omega) hD q1)
   rw[q2]at EG
   have ET:=zsi (fun(W:World) (q:Nat) (hb:Buf W g (n+m) R) (hd:Rn W g A' n D) (hq:q<4294967296)=>zgH W g (n+m) i (n+1) (cr - i) n cd R D q A' hb hRlt hlm zsk (by omega) (by omega) hd hq)
   have EB:=zsi (fun(W:World) (O:Nat) (hb:Buf W g (n+m) O) (hO:O<Bw^(i+(n+1))) (hd:Rd W W.heap.size A' n D) (hg:g<W.heap.size) (hs:Bw^(n+1)≤O/Bw^i+D)=>zhR W g (n+m) i (cr - i) n cd O D A' hb hO hlm (by omega) (by simp only[maxLen];omega) hd hcd hcd2 (by omega) hg hs)
   have HBf:=zsi hBf
   have HSh:=zsi HS
   have Hqt:=zsi hqt
   have HX:=zsi hX
   have Q3:=zsi q3
   have Q4:=zsi q4
   have HR:=zsi hRlt
   have hlX:X≤R:=by omega
   clear hBf HS hqt hX q3 q4 hRlt q1 q2 hR hlX
   gi_wp2_with fail
   refine⟨trivial,?_⟩
   rw[hw]
   refine(callsIn_wide.2 EG.out).mono ?_
   rintro e W1 ⟨q,k',rfl,g1,g2,g3,rfl⟩
   have hd1:Rn (wr.drewN k') g A' n D:=HSh.out.d1
   have hJ1:=hJ _ _ _ hJs (zaH wr k' none)
   have hb1:(wr.drewN k').cell? ⟨bd,0,none⟩=_:=hb1
   gi_wp2_with fail
   refine⟨trivial,?_⟩
   refine(callsIn_wide.2 (ET.out (wr.drewN k') q (HBf.out.drew k') hd1 g3)).mono ?_
   rintro e W2 ⟨b,O',b1,rfl,hG,hB2,hO',ht⟩
   have hG0:wr.grownBy W2 (some g):=(zaH wr k' (some g)).trans hG
   have hcd:W2.cell? ⟨bd,0,none⟩=_:=hG0.cell HSh.out.b1 (fun e=>hne.1 (by injection e))
   rcases zsr b with hz|hz
   ·obtain⟨rfl,rfl⟩:=zly Q3.out g1 g2 Q4.out ht hz
    have hJ2:=hM _ (i+1,i) _ _ hJs ⟨rfl,rfl,hG0,by rw[show(i+1:Nat) - 1=i by omega,HX.out];exact hB2⟩
    obtain⟨fn,tmps,assign,body,hy,hRd⟩:=hY (i+1,i) (i,q) W2 hJ2 ⟨rfl,by rw[Hqt.out]⟩
    dsimp only at hy
    have hbz:decide (0<b)=false:=by simp[hz]
    rw[hbz]
    clear hB2 ht hG hd1
    gi_wp2
    refine hRd.mono ?_
    rintro e W3 ⟨b,rfl,hb1,hb2⟩
    have g1:=zsi hb1
    have g2:=zsi hb2
    clear hb1 hb2
    cases b
    ·gi_wp2
     refine bodyPost_ret (results_none rfl _ _ _) rfl ?_
     exact⟨⟨_,rfl⟩,.inr ⟨_,(by first|exact⟨trivial,g2.out (by first|rfl|trivial)⟩|exact g2.out (by first|rfl|trivial))⟩⟩
    ·gi_wp2
     go_roundw
     case rel=>exact⟨i,by omega,by go_num,g1.out (by first|rfl|trivial)⟩
     case measure=>simp[intOf]
   ·obtain⟨hq,hOe⟩:=zlz Q3.out g1 g2 hO' b1 ht hz
    obtain⟨hs,he⟩:=znh (m:=n+1) hOe (by have:=Q3.out;have:=HR.out;omega)
    have hqi:(q:Int) - 1=(qt:Int):=by omega
    have hbz:decide (0<b)=true:=by simp[hz]
    have EB2:=zsi (EB.out W2 O' hB2 hO' (HSh.out.d2.other HSh.out.d1 hG0 hG0.size) (zsn HSh.out.g1 hG0.size) hs)
    rw[he]at EB2
    rw[hbz]
    clear hB2 ht hG hd1 hs he hOe hq
    gi_wp2_with fail
    refine⟨trivial,?_⟩
    refine(callsIn_wide.2 EB2.out).mono ?_
    rintro e W3 ⟨⟨v,rfl⟩,hG3,hB3⟩
    have hJ2:=hM _ (i+1,i) _ _ hJs ⟨rfl,rfl,hG0.trans hG3,by rw[show(i+1:Nat) - 1=i by omega,HX.out];exact hB3⟩
    obtain⟨fn,tmps,assign,body,hy,hRd⟩:=hY (i+1,i) (i,qt) W3 hJ2 ⟨rfl,by rw[Hqt.out]⟩
    dsimp only at hy
    clear hB3
    gi_wp2
    refine hRd.mono ?_
    rintro e W4 ⟨b,rfl,hb1,hb2⟩
    have g1:=zsi hb1
    have g2:=zsi hb2
    clear hb1 hb2
    cases b
    ·gi_wp2
     refine bodyPost_ret (results_none rfl _ _ _) rfl ?_
     exact⟨⟨_,rfl⟩,.inr ⟨_,(by first|exact⟨trivial,g2.out (by first|rfl|trivial)⟩|exact g2.out (by first|rfl|trivial))⟩⟩
    ·gi_wp2
     go_roundw
     case rel=>exact⟨i,by omega,by go_num,g1.out (by first|rfl|trivial)⟩
     case measure=>simp[intOf]
theorem zqB (w:World)(x:Nat)(h1:x<4294967296):
  Calls Tryz.prog 160 #[.int .u32 x] w fun e w'=>e= .returned (.int .i64 (32 - bitsN x:Nat))∧w=w':=by
 have E:=zsi (zg2 w x h1)
 have hb:=zev h1
 have he:(32:Int) - (bitsN x:Int)=((32 - bitsN x:Nat):Int):=by omega
 go_enter Tryz.func160,Tryz.ntmps160
 go_wp2_with (go_at_call 116;refine E.out.mono ?_;rintro e w' ⟨rfl,rfl⟩)
 go_ret
 exact⟨rfl,rfl⟩
theorem znB {D n:Nat}(hn:lenL D=n+1):32 - bitsN (dig D n)≤31∧lenL (D*2^(32 - bitsN (dig D n)))=n+1:=by
 have h1:=zg3 hn
 have h2:=zev (zar D n)
 have h3: ¬bitsN (dig D n)≤0:=fun h=>zfN hn (by have:=zaD.1 h;omega)
 have h4:D≠0:=fun h=>by subst h;simp[zaT]at hn
 have h5:=ziR h4 (32 - bitsN (dig D n))
 refine⟨by omega,Nat.le_antisymm (zai.2 ?_) ?_⟩
 ·rw[za8,←zaD];omega
 ·rcases zsq n (lenL (D*2^(32 - bitsN (dig D n))))with h|h
  ·exact h
  ·have:=zai.1 h
   rw[za8,←zaD]at this
   omega
theorem znC {N D n1 n s:Nat}(hN:N<Bw^n1)(hn:lenL D=n+1)(h:n+1≤n1):N*2^s<D*2^s*Bw^(n1 - n):=by
 have h1:Bw^n≤D:=by
  rcases zsq D (Bw^n)with h|h
  ·have:=zai.2 h;omega
  ·exact h
 have h2:Bw^n1≤D*Bw^(n1 - n):=by
  rw[show n1=n+(n1 - n) by omega,Nat.pow_add,show n+(n1 - n) - n=n1 - n by omega]
  exact Nat.mul_le_mul_right _ h1
 rw[Nat.mul_right_comm]
 exact Nat.mul_lt_mul_of_pos_right (by omega) (zss s)
def zfI (Y s:Nat):Nat:=Y/Bw^s*Bw^s
theorem zlV (Y:Nat):zfI Y 0=Y:=by simp[zfI]
theorem znD {Y m:Nat}(h:Y<Bw^m):zfI Y m=0:=by simp[zfI,Nat.div_eq_of_lt h]
theorem zo8 {Y m s:Nat}(h:Y<Bw^m):zfI Y s<Bw^m:=zso (Nat.div_mul_le_self _ _) h
theorem zlW {Y s O':Nat}(h:O'+dig (zfI Y (s+1)) s*Bw^s=zfI Y (s+1)+dig Y s*Bw^s):O'=zfI Y s:=by
 have e1:dig (zfI Y (s+1)) s=0:=by
  unfold dig zfI
  rw[Nat.pow_succ,←Nat.mul_assoc,Nat.mul_right_comm,Nat.mul_div_cancel _ (zag s),Nat.mul_mod_left]
 rw[e1,Nat.zero_mul,Nat.add_zero]at h
 rw[h]
 unfold zfI dig
 rw[Nat.pow_succ,←Nat.div_div_eq_div_mul,←Nat.mul_assoc,Nat.mul_right_comm,←Nat.add_mul,Nat.div_add_mod']
def zgh (w:World)(Q R:Nat)(f:Value→Value→Value)(e:Ending)(w':World):Prop:=
 ∃A c A' c',e= .returned (f (.slice A (lenL Q) c) (.slice A' (lenL R) c'))∧lenL Q≤c∧c≤maxLen∧lenL R≤c'∧c'≤maxLen∧Fr w' w.heap.size w'.heap.size A (lenL Q) Q∧Fr w' w.heap.size w'.heap.size A' (lenL R) R∧Below w.heap.size w w'
theorem Buf.grown {W W':World}{g n O:Nat}{r:Option Nat}(h:Buf W g n O)(hg:W.grownBy W' r)(hne:some g≠r)(hlt:g<W.heap.size):Buf W' g n O:=fun j hj=>
 ⟨(World.cell?_of_block (hg.block g hlt hne)).trans (h j hj).1,(World.frozen?_of_block (hg.block g hlt hne)).trans (h j hj).2⟩
theorem Rn.kept {W W':World}{g n N:Nat}{A:Option Addr}{row:Option Nat}(h:Rn W g A n N)(hg:W.grownBy W' row)(hrow:∀r,row=some r→∃o:Obj,W.heap[r]?=some o∧o.isCells=false):Rn W' g A n N:=
 ⟨h.1,fun hn=>by
  obtain⟨ad,e,hb,hc⟩:=h.2 hn
  exact⟨ad,e,hb,fun j hj=>cell_kept (hc j hj) hg hrow⟩⟩
theorem Rn.grown2 {W W':World}{g g' n N:Nat}{A:Option Addr}(h:Rn W g A n N)(h':Rn W g' A n N)(hg:W.grownBy W' (some g')):Rn W' g A n N:=
 ⟨h.1,fun hn=>by
  obtain⟨ad,e,hb,hc⟩:=h.2 hn
  obtain⟨ad',e',hb',hc'⟩:=h'.2 hn
  rw[e]at e'
  cases e'
  exact⟨ad,e,hb,fun j hj=>hg.cell (hc j hj) (by rw[zaJ];intro e;injection e;omega)⟩⟩
structure LimbsI (w:World) (bd br g L n cr cd V D m gq:Nat) (A':Option Addr) (s:Nat×Nat) (W:World):Prop where
 src:QSrc bd br g L n cr cd V D m A' s W
 box:Boxed W w.heap.size 23 (.slice (some ⟨gq,0,none⟩) m m)
 q:Buf W gq m (zfI (V/D) s.1)
 below:Below w.heap.size w W
 gq1:gq<W.heap.size
 d3:Rn W gq A' n D
theorem zj2 {w:World}{bd br g L n cr cd V D m gq B:Nat}{A':Option Addr}(hB:w.heap.size≤B):OwnFrom B (LimbsI w bd br g L n cr cd V D m gq A'):=by
 rintro s W W' row ⟨⟨h1,h2,h3,h4,h5,h6,h7,h8⟩,h9,h10,h11,h12,h13⟩ hg hr
 have hr':=fun r e=>(hr r e).2
 exact⟨⟨cell_kept h1 hg hr',cell_kept h2 hg hr',h3.kept hg hr',(h4.kept hg hr').more hg.size,h5.kept hg hr',zsn h6 hg.size,h7,zsn h8 hg.size⟩,za0 h9 hg hr',h10.kept hg hr',h11.grown hg h11.size (fun r e=>by have:=(hr r e).1;omega),zsn h12 hg.size,h13.kept hg hr'⟩
theorem zlX {w:World}{bd br g L n cr cd V D m gq:Nat}{A':Option Addr}(hne:bd≠g∧br≠g)(hg1:w.heap.size<g)(hg2:gq≠g)(s s':Nat×Nat)(A B:World)(h:LimbsI w bd br g L n cr cd V D m gq A' s A)(hm:QMv g L V D s s' A B):LimbsI w bd br g L n cr cd V D m gq A' s' B:=by
 obtain⟨⟨h1,h2,h3,h4,h5,h6,h7,h8⟩,h9,h10,h11,h12,h13⟩:=h
 obtain⟨e1,rfl,hG,hb⟩:=hm
 exact⟨⟨hG.cell h1 (zan hne.1),hG.cell h2 (zan hne.2),h3.grown hG,h4.other h3 hG hG.size,hb,zsn h6 hG.size,h7,zsn h8 hG.size⟩,h9.kept hG (zan (by omega)),h10.grown hG (zan hg2) h12,h11.trans ((zaK hG (by omega)).mono (by omega)),zsn h12 hG.size,h13.grown2 h3 hG⟩
theorem zj3 {w:World}{bd br g L n cr cd V D m gq i:Nat}{A':Option Addr}(hne:bd≠gq∧br≠gq)(hg1:w.heap.size<gq)(hg2:g≠gq){s:Nat×Nat}{W:World}(h:LimbsI w bd br g L n cr cd V D m gq A' s W)(hs:s.1=i+1∧s.2=i)(hY:V/D<Bw^m):
  LimbsI w bd br g L n cr cd V D m gq A' (i,i) (W.setCell ⟨gq,i,none⟩ (.int .u32 (dig (V/D) i:Nat))):=by
 obtain⟨⟨h1,h2,h3,h4,h5,h6,h7,h8⟩,h9,h10,h11,h12,h13⟩:=h
 obtain⟨s1,s2⟩:=s
 obtain⟨e1,e2⟩:=hs
 simp only at e1 e2
 subst e1 e2
 have hG:=wrote W gq s2 (.int .u32 (dig (V/D) s2:Nat))
 simp only at h5 h7 h10
 obtain⟨O',o1,o2,o3⟩:=h10.set (m:=m) (p:=s2) (x:=dig (V/D) s2) (zo8 hY) (by omega) (zar _ _)
 rw[zlW o3]at o1
 exact⟨⟨hG.cell h1 (zan hne.1),hG.cell h2 (zan hne.2),h3.grown2 h13 hG,h4.other h13 hG hG.size,h5.grown hG (zan hg2) h6,zsn h6 hG.size,by simp only;omega,zsn h8 hG.size⟩,h9.kept hG (zan (by omega)),o1,h11.trans ((zaK hG (by omega)).mono (by omega)),zsn h12 hG.size,h13.grown hG⟩
theorem zj4 (A A':Option Addr)(n1 n c c' N D:Nat)(w:World)(h:Rd w w.heap.size A n1 N)(h':Rd w w.heap.size A' (n+1) D)(hc:n1≤c)(hcm:c≤maxLen)(hc':n+1≤c')(hcm':c'≤maxLen)(hn:1≤n)(hn1:n+1≤n1)(hb:n1≤100000000)(hl:lenL D=n+1):
  CallsIn Fence.wide 10 Tryz.prog 146 #[.slice A n1 c,.slice A' (n+1:Nat) c'] w (zgh w (N/D) (N%D) fun a b=> .tuple #[a,b]):=by
 obtain⟨hs1,hs2⟩:=znB hl
 obtain⟨sh,hsh⟩:∃sh,32 - bitsN (dig D n)=sh:=⟨_,rfl⟩
 obtain⟨ad,rfl,_,hld⟩:=(h'.below ((Below.refl _ w).alloc zsk (.cells #[.slice none 0 0] 23))).at_ (k:=n) (by omega)
 have ELz:=zsi (fun W=>zqB W (dig D n) (zar D n))
 rw[hsh]at hs1 hs2 ELz
 have hni:((n+1:Nat):Int) - 1=(n:Int):=by omega
 have HS2:=zsi hs2
 clear hsh hs2
 refine callsIn_of_wp_marks Tryz.func146 rfl trivial ?_ rfl
 simp only[Tryz.ntmps146,List.size_toArray,List.length_cons,List.length_nil,Nat.reduceAdd,Nat.reduceSub,Array.replicate_succ,Array.replicate_zero,List.push_toArray,List.append_toArray,List.nil_append,List.cons_append]
 obtain⟨w2,hmk,hF1,hb1,hs1'⟩:=zbB (w.alloc (.cells #[.slice none 0 0] 23)) (n1+1) (by omega)
 rw[show(((n1+1:Nat)):Int)=(n1:Int)+1 from by omega]at hmk
 gi_wp2_with (refine⟨trivial,?_⟩;gi_at_call 160;refine(callsIn_wide.2 (ELz.out _)).mono ?_;rintro e w' ⟨rfl,rfl⟩)
 rw[World.size_alloc]at hF1 hb1 hs1'
 have hB2:Below w.heap.size w w2:=((Below.refl _ w).alloc zsk (.cells #[.slice none 0 0] 23)).trans (hb1.mono (by omega))
 have bQ2:Boxed w2 w.heap.size 23 (.slice none 0 0):=zaE (Boxed.new w _ _) hb1 (by omega)
 have EU:=zhP w2 A n1 c N sh ((h.below hB2).more hB2.size) hc hcm (by omega) (by omega)
 rw[Int.toNat_natCast,Nat.min_eq_left (by omega:sh≤65536)]at EU
 obtain⟨V,hV⟩:∃V,N*2^sh=V:=⟨_,rfl⟩
 rw[hV]at EU
 have hVl:lenL V≤n1+1:=by
  rw[zai,←hV,Nat.pow_succ]
  exact Nat.mul_lt_mul_of_lt_of_le h.1 (zsm (zsp (by omega) (show sh≤32 by omega)) (by rw[zaZ];omega)) (by rw[zaZ];omega)
 refine⟨trivial,?_⟩
 refine(callsIn_wide.2 EU).mono ?_
 rintro e w3 ⟨Au,cu,rfl,u1,u2,u3,u4⟩
 have hsz3:=u4.size
 rw[hs1']at u3 u4 hsz3
 have hB3:Below w.heap.size w w3:=hB2.trans (u4.mono (by omega))
 have bQ3:=zaE bQ2 u4 (by omega)
 have hZ3:Buf w3 (w.heap.size+1) (n1+1) 0:=Buf.of_fr (hF1.keep u4)
 obtain⟨hcp,hZ4⟩:=ziS (i:=0) (dl:=n1+1) (dc:=n1+1) (sc:=cu) (k:=lenL V) hZ3 (by simp[zag]) (by omega) (by omega) u3.rd
 rw[Nat.pow_zero,Nat.mod_one,Nat.zero_add,Nat.one_mul,zbv (zaw V)]at hZ4
 have hG4:=zdM (w.heap.size+1) (limbs V (lenL V)) 0 w3
 have bQ4:=bQ3.kept hG4 (zan (by omega))
 have hB4:Below w.heap.size w (w3.setCells (w.heap.size+1) 0 (limbs V (lenL V))):=hB3.trans ((zaK hG4 (by omega)).mono (by omega))
 have hsz4:=hG4.size
 obtain⟨w4,hw4⟩:∃w4,w3.setCells (w.heap.size+1) 0 (limbs V (lenL V))=w4:=⟨_,rfl⟩
 rw[hw4]at hcp hZ4 bQ4 hB4 hsz4
 obtain⟨w5,hmk5,hF5,hb5,hs5⟩:=zbB w4 (n1 - n) (by omega)
 rw[show(((n1 - n:Nat)):Int)=(n1:Int) - ((n:Int)+1)+1 from by omega]at hmk5
 have bQ5:=zaE bQ4 hb5 (by omega)
 have hB5:Below w.heap.size w w5:=hB4.trans (hb5.mono (by omega))
 have HZ4:=zsi hZ4
 have HG4:=zsi hG4
 have HF5:=zsi hF5
 have hcQ:=bQ5.cell
 have hfQ:=bQ5.frozen
 clear hmk hF1 hZ3 hZ4 u3 hG4 hF5 hw4 EU
 gi_wp2_with fail
 have bQ6:=bQ5.set (.slice (some ⟨w4.heap.size,0,none⟩) (n1 - n:Nat) (n1 - n:Nat))
 have hB6:=hB5.setCell (p:=⟨w.heap.size,0,none⟩) zsk (.slice (some ⟨w4.heap.size,0,none⟩) (n1 - n:Nat) (n1 - n:Nat))
 have hW5:=wrote w5 w.heap.size 0 (.slice (some ⟨w4.heap.size,0,none⟩) (n1 - n:Nat) (n1 - n:Nat))
 have hZ6:=(HZ4.out.grown (zbV (r:=none) hb5) (by simp) (by omega)).grown hW5 (zan (by omega)) (by omega)
 have hq6:=(Buf.of_fr HF5.out).grown hW5 (zan (by omega)) (by omega)
 have hs6:=hW5.size
 obtain⟨w6,hw6⟩:∃w6,w5.setCell ⟨w.heap.size,0,none⟩ (.slice (some ⟨w4.heap.size,0,none⟩) (n1 - n:Nat) (n1 - n:Nat))=w6:=⟨_,rfl⟩
 rw[hw6]at bQ6 hB6 hZ6 hq6 hs6 ⊢
 have EU2:=zhP w6 (some ad) (n+1) c' D sh ((h'.below hB6).more hB6.size) hc' hcm' (by omega) (by omega)
 rw[Int.toNat_natCast,Nat.min_eq_left (by omega:sh≤65536)]at EU2
 clear hw6 hW5 bQ2 bQ3 bQ4 bQ5 hcQ hfQ hmk5 hcp
 refine⟨trivial,?_⟩
 refine(callsIn_wide.2 EU2).mono ?_
 rintro e w7 ⟨Ad,cd,rfl,v1,v2,v3,v4⟩
 rw[HS2.out]at v1 v3
 rw[HS2.out]
 have hG7:=zbV (r:=none) v4
 have bQ7:=bQ6.kept hG7 (by simp)
 have hB7:=hB6.trans (v4.mono hB6.size)
 have hZ7:=hZ6.grown hG7 (by simp) (by omega)
 have hq7:=hq6.grown hG7 (by simp) (by omega)
 have HV3:=zsi v3
 clear v3 v4 EU2 hZ6 hq6 bQ6
 gi_wp2_with (refine⟨trivial,?_⟩;gi_at_call 162;refine(callsIn_wide.2 (callsIn_wide.1 (ziU _ _ _ _ _ _ _))).mono ?_;rintro e w' ⟨rfl,rfl⟩)
 obtain⟨m,hm⟩:∃m,n1 - n=m:=⟨_,rfl⟩
 obtain⟨gq,hgq⟩:∃gq,w4.heap.size=gq:=⟨_,rfl⟩
 obtain⟨D2,hD2⟩:∃D2,D*2^sh=D2:=⟨_,rfl⟩
 have hfirst:=znC (s:=sh) h.1 hl hn1
 rw[hV,hD2,hm]at hfirst
 rw[hD2]at HS2 HV3
 rw[hgq,hm]at bQ7 hq7
 rw[hgq]at hs5 hb5 hsz4
 rw[hgq,hm]
 have hbl:=(Below.refl w7.heap.size w7).alloc zsk (.cells #[.slice (some ⟨w.heap.size+1,0,none⟩) (n1+1:Nat) (n1+1:Nat)] 23)
 have hbl2:=hbl.alloc hbl.size (.cells #[.slice Ad (n+1:Nat) cd] 23)
 have bR:=(Boxed.new w7 23 (.slice (some ⟨w.heap.size+1,0,none⟩) (n1+1:Nat) (n1+1:Nat))).alloc (.cells #[.slice Ad (n+1:Nat) cd] 23)
 have bD:=Boxed.new (w7.alloc (.cells #[.slice (some ⟨w.heap.size+1,0,none⟩) (n1+1:Nat) (n1+1:Nat)] 23)) 23 (.slice Ad (n+1:Nat) cd)
 rw[World.size_alloc]at bD
 have hsz0:((w7.alloc (.cells #[.slice (some ⟨w.heap.size+1,0,none⟩) (n1+1:Nat) (n1+1:Nat)] 23)).alloc (.cells #[.slice Ad (n+1:Nat) cd] 23)).heap.size=w7.heap.size+2:=by rw[World.size_alloc,World.size_alloc]
 obtain⟨W0,hW0⟩:∃W0,(w7.alloc (.cells #[.slice (some ⟨w.heap.size+1,0,none⟩) (n1+1:Nat) (n1+1:Nat)] 23)).alloc (.cells #[.slice Ad (n+1:Nat) cd] 23)=W0:=⟨_,rfl⟩
 rw[hW0]at hbl2 bR bD hsz0 ⊢
 have hG0:=zbV (r:=none) hbl2
 have hfr:=HV3.out.keep hbl2
 have hs67:=hG7.size
 have hlt7:w.heap.size+1<w7.heap.size:=by omega
 have hltq:gq<w7.heap.size:=by omega
 have hD2p:0<D2:=by
  rcases zsr D2 with h|h
  ·have:=HS2.out;rw[h,zaT]at this;omega
  ·exact h
 have hYm:V/D2<Bw^m:=by rw[Nat.div_lt_iff_lt_mul hD2p,Nat.mul_comm];exact hfirst
 have hI0:LimbsI w (w7.heap.size+1) w7.heap.size (w.heap.size+1) (n1+1) (n+1) (n1+1) cd V D2 m gq Ad (m,m) W0:=
  ⟨⟨bD.cell,bR.cell,hfr.rn (by omega),hfr.rd.more (by omega),by
   rw[Nat.mod_eq_of_lt hfirst];exact hZ7.grown hG0 (by simp) hlt7,by omega,Nat.le_refl _,by omega⟩,bQ7.kept hG0 (by simp),by rw[znD hYm];exact hq7.grown hG0 (by simp) hltq,hB7.trans (hbl2.mono (by omega)),by omega,hfr.rn (by omega)⟩
 have HI0:=zsi hI0
 have HYm:=zsi hYm
 have hE1:=HS2.out
 have hdt:=zfN hE1
 have hDl:=zaw D2
 rw[hE1]at hDl
 clear hI0 bD bR bQ7 hfr hZ7 hq7 hW0 hbl hbl2
 refine zdI rfl (by omega) (gf:=175) (lb:= #[.pointer (some ⟨w7.heap.size+1,0,none⟩),.pointer (some ⟨w7.heap.size,0,none⟩)]) rfl trivial (enters_of Tryz.func175 (by kernel_rfl) rfl)
  (fun _=>rfl) (LimbsI w (w7.heap.size+1) w7.heap.size (w.heap.size+1) (n1+1) (n+1) (n1+1) cd V D2 m gq Ad) (fun _ _ _=>False) (zj2 (by omega)) (fun _ _ _ _ _ h _ _=>h)
  HI0.out (zlX ⟨by omega,by omega⟩ (by omega) (by omega)) (fun s s' A B hm=>⟨w.heap.size+1,by omega,hm.2.2.1⟩)
  (zfH (w7.heap.size+1) w7.heap.size (w.heap.size+1) (n1+1) (n+1) (n1+1) cd V D2 m Ad (by omega) (by omega) (by omega) zsk (by omega) v1 v2 hdt hDl ⟨by omega,by omega⟩ _ (fun _ _ h=>h.src) Fence.wide rfl)
  (fun x=> { tmps:= #[.slice A n1 c,.slice (some ad) (n+1:Nat) c',undef,undef,.pointer (some ⟨w.heap.size,0,none⟩),.slice none 0 0,.int .i64 (sh:Nat),.slice (some ⟨w.heap.size+1,0,none⟩) (n1+1:Nat) (n1+1:Nat),.int .i64 (x.1:Nat),.int .u32 (x.2:Nat),
    .slice (some ad) (n+1:Nat) c',.slice (some ad) (n+1:Nat) c',.int .i64 ((n:Int)+1),.int .i64 (n:Nat),.pointer (some (ad.add n)),.int .u32 (dig D n:Nat),.int .i64 (sh:Nat),.slice A n1 c,.int .i64 (n1:Nat),.int .i64 ((n1:Int)+1),
    .slice (some ⟨w.heap.size+1,0,none⟩) (n1+1:Nat) (n1+1:Nat),.slice (some ⟨w.heap.size+1,0,none⟩) (n1+1:Nat) (n1+1:Nat),.slice A n1 c,.int .i64 (sh:Nat),.slice Au (lenL V) cu,.int .i64 (lenL V:Nat),.slice A n1 c,.int .i64 (n1:Nat),.slice (some ad) (n+1:Nat) c',.int .i64 ((n:Int)+1),
    .int .i64 ((n1:Int) - ((n:Int)+1)),.int .i64 ((n1:Int) - ((n:Int)+1)+1),.slice (some ⟨gq,0,none⟩) m m,.slice (some ⟨w.heap.size+1,0,none⟩) (n1+1:Nat) (n1+1:Nat),.slice (some ad) (n+1:Nat) c',.int .i64 (sh:Nat),.slice Ad (n+1:Nat) cd,
    .func (.func 175) #[] #[.pointer (some ⟨w7.heap.size+1,0,none⟩),.pointer (some ⟨w7.heap.size,0,none⟩)],.int .i64 (x.1:Nat),.int .u32 (x.2:Nat),undef,undef,undef,undef,undef,undef,undef,undef,undef],defers:=[] }) ?assign ?body ?done ?stop
 case assign=>
  intro l x W K hK
  gi_wp2
  exact hK
 case body=>
  rintro l ⟨s1,s2⟩ ⟨xi,xd⟩ W hI ⟨hs,hx⟩
  simp only[Prod.mk.injEq]at hs hx
  obtain⟨rfl,rfl⟩:=hx
  have hml:=hI.src.s1
  have hcq:=hI.box.cell
  have hlm:xi<m:=by simp only at hml;omega
  obtain⟨hc1,hc2⟩:=hI.q xi hlm
  have HN:=zsi (zj3 ⟨by omega,by omega⟩ (by omega) (by omega) hI ⟨hs,rfl⟩ HYm.out)
  have HK:=zsi (KeepsFrom.of_grownBy (B:=w7.heap.size+2) (wrote W gq xi (.int .u32 (dig (V/D2) xi:Nat))) (fun j e=>by cases e;omega))
  clear hI hml hs
  gi_wp2
  exact⟨HK.out,HN.out⟩
 case done=>
  rintro K s W hD rfl hI hK
  obtain⟨hsrc,hbx,hq,hbel,hgq1,_⟩:=hI
  have hr:=hsrc.r
  simp only[Nat.pow_zero,Nat.mul_one]at hr
  simp only[zlV]at hq
  have HYQ:V/D2=N/D:=by rw[←hV,←hD2,Nat.mul_div_mul_right _ _ (zss sh)]
  have HYR:V%D2=N%D*2^sh:=by rw[←hV,←hD2,Nat.mul_mod_mul_right]
  rw[HYQ]at hq hYm
  rw[HYR]at hr
  have hKl:K<W.heap.size:=(Array.getElem?_eq_some_iff.1 hK).1
  have hRl:N%D*2^sh<Bw^(n1+1):=by
   rw[←HYR]
   exact Nat.lt_trans (Nat.mod_lt _ hD2p) (zat hDl (by omega))
  have ET:=zcy W (some ⟨gq,0,none⟩) m m (N/D) (hq.rd hYm (fun _=>hgq1)) zsk (by simp only[maxLen];omega) (by omega)
  have hcb:=hbx.cell
  gi_wp2_with fail
  refine⟨trivial,?_⟩
  refine(callsIn_wide.2 ET).mono ?_
  rintro e W1 ⟨Aq,cq,rfl,x1,x2,x3,x4⟩
  have hbx1:=zaE hbx x4 hbx.lt
  have hbel1:=hbel.trans (x4.mono hbel.size)
  have hK1:=(x4.block K hKl).trans hK
  have ED:=zg7 W1 (some ⟨w.heap.size+1,0,none⟩) (n1+1) (n1+1) (N%D*2^sh) sh (((hr.rd hRl (fun _=>hsrc.g1)).below x4).more x4.size) zsk (by simp only[maxLen];omega) (by omega) (by omega)
  rw[Int.toNat_natCast,Nat.min_eq_left (by omega:sh≤65536),Nat.mul_div_cancel _ (zss sh)]at ED
  have HX3:=zsi x3
  clear x3
  gi_wp2_with fail
  refine⟨trivial,?_⟩
  refine(callsIn_wide.2 ED).mono ?_
  rintro e W2 ⟨Ar,cr,rfl,y1,y2,y3,y4⟩
  have hbx2:=zaE hbx1 y4 hbx1.lt
  have hbel2:=hbel1.trans (y4.mono hbel1.size)
  have hK2:=(y4.block K (by have:=x4.size;omega)).trans hK1
  have hc2:=hbx2.cell
  have hf2:=hbx2.frozen
  have HX3':=zsi (HX3.out.keep y4)
  have HY3:=zsi y3
  clear y3
  gi_wp2
  have bx3:=hbx2.set (.slice Aq (lenL (N/D)) cq)
  have hK3:=(Below.heap_setCell W2 ⟨w.heap.size,0,none⟩ (.slice Aq (lenL (N/D)) cq) K (by simp only;omega)).trans hK2
  have hb3:=hbel2.setCell (p:=⟨w.heap.size,0,none⟩) zsk (.slice Aq (lenL (N/D)) cq)
  have hX:=HX3'.out.setCell (p:=0) hbx.lt (.slice Aq (lenL (N/D)) cq)
  have hY:=HY3.out.setCell (p:=0) hbx1.lt (.slice Aq (lenL (N/D)) cq)
  have hsz3:(W2.setCell ⟨w.heap.size,0,none⟩ (.slice Aq (lenL (N/D)) cq)).heap.size=W2.heap.size:=World.size_setCell _ _ _
  obtain⟨W3,hW3⟩:∃W3,W2.setCell ⟨w.heap.size,0,none⟩ (.slice Aq (lenL (N/D)) cq)=W3:=⟨_,rfl⟩
  rw[hW3]at bx3 hK3 hb3 hX hY hsz3 ⊢
  refine⟨by simp,.inl ⟨_,_,rfl,run_takeDeferred hK3,?_⟩⟩
  have hgp:=grownBy_putObj' W3 K (.deferred none)
  have hgr:∀r,some K=some r→∃o:Obj,W3.heap[r]?=some o∧o.isCells=false:=fun r e=>by cases e;exact⟨_,hK3,rfl⟩
  have hc4:=(za0 bx3 hgp hgr).cell
  have hs4:(W3.putObj K (.deferred none)).heap.size=W3.heap.size:=by simp[World.putObj]
  have hs12:=x4.size
  have hs22:=y4.size
  have hbs:=hbel.size
  refine⟨.tuple #[.slice Aq (lenL (N/D)) cq,.slice Ar (lenL (N%D)) cr],by rw[results_cell_tmp rfl];go_simp,?_⟩
  exact⟨Aq,cq,Ar,cr,rfl,x1,x2,y1,y2,((hX.kept hgp hgr).from hbs).more (by omega),((hY.kept hgp hgr).from (by omega)).more (by omega),hb3.trans (belowK_b (w:=w) zsk W3 K _ _ (by omega) hK3 rfl rfl)⟩
 case stop=>
  rintro D c s W _ _ h _
  exact h.elim
theorem ziV (A A':Option Addr)(n1 n c c' N D:Nat)(w:World)(h:Rd w w.heap.size A n1 N)(h':Rd w w.heap.size A' (n+1) D)(hc:n1≤c)(hcm:c≤maxLen)(hc':n+1≤c')(hcm':c'≤maxLen)(hn:1≤n)(hn1:n+1≤n1)(hb:n1≤100000000)(hl:lenL D=n+1):
  Calls Tryz.prog 146 #[.slice A n1 c,.slice A' (n+1:Nat) c'] w (zgh w (N/D) (N%D) fun a b=> .tuple #[a,b]):=
 callsIn_wide.1 (zj4 A A' n1 n c c' N D w h h' hc hcm hc' hcm' hn hn1 hb hl)
theorem zbN {fn:Func}{p q u:Tmp}{ty ty':TypeId}(h:fn.results= #[.cell p ty,.cell q ty',.tmp u])(tmps:Array Value)(P:Program)(w:World):
  (results fn tmps).run P w=
   ((asAddr (tmps.getD p undef)).run P w).andThen fun a w₁=>((loadVar ty a).run P w₁).andThen fun v w₂=>((asAddr (tmps.getD q undef)).run P w₂).andThen fun a' w₃=>((loadVar ty' a').run P w₃).andThen fun v' w₄=> .ok (.tuple #[v,v',tmps.getD u undef]) w₄:=by
 simp only[results,h]
 simp[Sem.run_bind,Result.andThen]
def sRest (N M k:Nat):Nat:=N/Bw^k%M
def zeR (N M k:Nat):Nat:=N%Bw^k+Bw^k*(N/Bw^k/M)
theorem zlY (N M:Nat):zeR N M 0=N/M:=by simp[zeR,Nat.mod_one]
theorem zj5 (N M:Nat):sRest N M 0=N%M:=by simp[sRest]
theorem znE {N n:Nat}(M:Nat)(h:N<Bw^n):zeR N M n=N:=by simp[zeR,Nat.mod_eq_of_lt h,Nat.div_eq_of_lt h]
theorem zlZ {N n:Nat}(M:Nat)(h:N<Bw^n):sRest N M n=0:=by simp[sRest,Nat.div_eq_of_lt h]
theorem zo9 {N n k:Nat}(M:Nat)(h:N<Bw^n):zeR N M k<Bw^n:=by
 have h1:N/Bw^k/M≤N/Bw^k:=Nat.div_le_self _ _
 have h2:=Nat.mul_le_mul_left (Bw^k) h1
 have h3:=Nat.mod_add_div N (Bw^k)
 unfold zeR
 omega
theorem zrs {N M i:Nat}:dig (zeR N M (i+1)) i=dig N i:=by
 unfold zeR
 rw[zcX (Nat.mod_lt _ (zag _)),if_pos (by omega)]
 have:=zcX (Y:=N/Bw^(i+1)) (Nat.mod_lt N (zag (i+1))) i
 rw[if_pos (by omega),Nat.mod_add_div]at this
 exact this.symm
theorem zrt (N i:Nat):N/Bw^i=N/Bw^(i+1)*4294967296+dig N i:=by
 unfold dig
 rw[Nat.pow_succ,←Nat.div_div_eq_div_mul,←zaZ,Nat.mul_comm,Nat.div_add_mod]
theorem zrW {x M q r d B:Nat}(h:r+M*q=x):x*B+d=(r*B+d)+M*(q*B):=by
 rw[←h,Nat.add_mul,Nat.mul_assoc]
 omega
theorem zp0 {N M i:Nat}(hM:0<M):sRest N M i=(sRest N M (i+1)*4294967296+dig N i)%M∧N/Bw^i/M=N/Bw^(i+1)/M*4294967296+(sRest N M (i+1)*4294967296+dig N i)/M:=by
 unfold sRest
 rw[zrt N i,zrW (B:=4294967296) (d:=dig N i) (Nat.mod_add_div (N/Bw^(i+1)) M)]
 exact⟨Nat.add_mul_mod_self_left _ _ _,by rw[Nat.add_mul_div_left _ _ hM,Nat.add_comm]⟩
theorem zrX {N M i O':Nat}(hM:0<M)(h:O'+dig (zeR N M (i+1)) i*Bw^i=zeR N M (i+1)+(sRest N M (i+1)*4294967296+dig N i)/M*Bw^i):O'=zeR N M i:=by
 have e0:=(zp0 (N:=N) (i:=i) hM).2
 rw[zrs]at h
 unfold zeR at h ⊢
 rw[e0,Nat.mul_add]
 rw[zaL]at h
 obtain⟨y,hy⟩:∃y,(sRest N M (i+1)*4294967296+dig N i)/M=y:=⟨_,rfl⟩
 obtain⟨z,hz⟩:∃z,N/Bw^(i+1)/M=z:=⟨_,rfl⟩
 rw[hy,hz]at h ⊢
 have e1:Bw^(i+1)*z=Bw^i*(z*4294967296):=by rw[Nat.pow_succ,zaZ];ac_rfl
 have e2:dig N i*Bw^i=Bw^i*dig N i:=Nat.mul_comm _ _
 have e3:y*Bw^i=Bw^i*y:=Nat.mul_comm _ _
 omega
structure ShortI (w:World) (b g n c N M:Nat) (A:Option Addr) (k:Nat) (W:World):Prop where
 kn:k≤n
 sb:W.cell? ⟨b,0,none⟩=some (.slice A n c)
 bN:Boxed W w.heap.size 77 (.int .u32 (M:Nat))
 bQ:Boxed W (w.heap.size+1) 23 (.slice A n c)
 bR:Boxed W (w.heap.size+1+1) 77 (.int .u32 (sRest N M k:Nat))
 row:Buf W g n (zeR N M k)
 below:Below w.heap.size w W
theorem zgi {w:World}{b g n c N M B:Nat}{A:Option Addr}(hB:w.heap.size≤B):OwnFrom B (ShortI w b g n c N M A):=by
 rintro s W W' row ⟨h0,h1,h2,h3,h4,h5,h6⟩ hg hr
 have hr':=fun r e=>(hr r e).2
 exact⟨h0,cell_kept h1 hg hr',za0 h2 hg hr',za0 h3 hg hr',za0 h4 hg hr',h5.kept hg hr',h6.grown hg h6.size (fun r e=>by have:=(hr r e).1;omega)⟩
theorem zj6 {w:World}{b g n c N M:Nat}{A:Option Addr}(hA:0<n→A=some ⟨g,0,none⟩)(k:Nat)(W:World)(h:ShortI w b g n c N M A k W):zrr b A n c (dig N) k W:=
 ⟨h.sb,h.kn,fun i hi=>⟨_,hA (by have:=h.kn;omega),by
  subst hi
  rw[zaO,(h.row i (by have:=h.kn;omega)).1,zrs]⟩⟩
theorem ziW {w:World}{b g n c N M i:Nat}{A:Option Addr}(hN:N<Bw^n)(hM:0<M)(hg:w.heap.size+2<g)(hb:w.heap.size+2<b∧g<b){W:World}(h:ShortI w b g n c N M A (i+1) W):
  ShortI w b g n c N M A i ((W.setCell ⟨g,i,none⟩ (.int .u32 ((sRest N M (i+1)*4294967296+dig N i)/M:Nat))).setCell ⟨w.heap.size+1+1,0,none⟩ (.int .u32 ((sRest N M (i+1)*4294967296+dig N i)%M:Nat))):=by
 obtain⟨h0,h1,h2,h3,h4,h5,h6⟩:=h
 have hr:sRest N M (i+1)<M:=Nat.mod_lt _ hM
 have hy:(sRest N M (i+1)*4294967296+dig N i)/M<4294967296:=by
  rw[Nat.div_lt_iff_lt_mul hM]
  have:(sRest N M (i+1)+1)*4294967296≤M*4294967296:=Nat.mul_le_mul_right _ hr
  have:=zar N i
  rw[Nat.mul_comm 4294967296]
  omega
 obtain⟨O',o1,o2,o3⟩:=h5.set (m:=n) (p:=i) (zo9 M hN) (by omega) hy
 rw[zrX hM o3]at o1
 rw[←(zp0 (N:=N) (i:=i) hM).1]
 have hG1:=wrote W g i (.int .u32 ((sRest N M (i+1)*4294967296+dig N i)/M:Nat))
 have b1:=h1
 have bx:=(h4.kept hG1 (zan (by omega)))
 have hG2:=wrote (W.setCell ⟨g,i,none⟩ (.int .u32 ((sRest N M (i+1)*4294967296+dig N i)/M:Nat))) (w.heap.size+1+1) 0 (.int .u32 (sRest N M i:Nat))
 have hgs:g<W.heap.size:=by
  have:=(h5 i (by omega)).1
  rcases zsq g W.heap.size with h|h
  ·exact h
  ·simp[World.cell?,Array.getElem?_eq_none h]at this
 refine⟨by omega,hG2.cell (hG1.cell h1 (zan (a:=b) (by omega))) (zan (a:=b) (by omega)),(h2.kept hG1 (zan (by omega))).kept hG2 (zan (by omega)),(h3.kept hG1 (zan (by omega))).kept hG2 (zan (by omega)),bx.set _,o1.grown hG2 (zan (by omega)) (zsn hgs hG1.size),?_⟩
 exact(h6.setCell (p:=⟨g,i,none⟩) (by simp only;omega) _).setCell (p:=⟨w.heap.size+1+1,0,none⟩) (by simp only;omega) _
def zd3 (w:World)(N M:Nat)(e:Ending)(w':World):Prop:=
 ∃A c,e= .returned (.tuple #[.slice A (lenL (N/M)) c,.int .u32 (N%M:Nat),.int .i64 0])∧lenL (N/M)≤c∧c≤maxLen∧Fr w' w.heap.size w'.heap.size A (lenL (N/M)) (N/M)∧Below w.heap.size w w'
theorem zgj {w w':World}(h:Below w.drew.heap.size w.drew w'):Below w.heap.size w w':=⟨h.os,h.tape,h.output,h.size,h.block⟩
theorem zdp {w W w1:World}{N M z kd cq:Nat}{Aq:Option Addr}{v0:Value}(hbel:Below w.heap.size w W)(hkd:w.heap.size+2<kd)(hKl:kd<W.heap.size)(hK:W.heap[kd]?=some (.deferred (some [])))(x4:Below W.heap.size W w1)
  (bq:Boxed w1 (w.heap.size+1) 23 v0) (br:Boxed w1 (w.heap.size+1+1) 77 (.int .u32 (z:Nat))) (x3:Fr w1 W.drew.heap.size w1.heap.size Aq (lenL (N/M)) (N/M)) (x1:lenL (N/M)≤cq) (x2:cq≤maxLen) (hz:N%M=z):
  ((
   w1.setCell ⟨w.heap.size+1,0,none⟩ (.slice Aq (lenL (N/M)) cq)).setCell ⟨w.heap.size+1+1,0,none⟩ (.int .u32 (z:Nat))).heap[kd]?=some (.deferred (some []))∧
   (((w1.setCell ⟨w.heap.size+1,0,none⟩ (.slice Aq (lenL (N/M)) cq)).setCell ⟨w.heap.size+1+1,0,none⟩ (.int .u32 (z:Nat))).putObj kd (.deferred none)).cell? ⟨w.heap.size+1,0,none⟩=some (.slice Aq (lenL (N/M)) cq)∧
   (((w1.setCell ⟨w.heap.size+1,0,none⟩ (.slice Aq (lenL (N/M)) cq)).setCell ⟨w.heap.size+1+1,0,none⟩ (.int .u32 (z:Nat))).putObj kd (.deferred none)).cell? ⟨w.heap.size+1+1,0,none⟩=some (.int .u32 (z:Nat))∧
   zd3 w N M (.returned (.tuple #[.slice Aq (lenL (N/M)) cq,.int .u32 (z:Nat),.int .i64 0])) (((w1.setCell ⟨w.heap.size+1,0,none⟩ (.slice Aq (lenL (N/M)) cq)).setCell ⟨w.heap.size+1+1,0,none⟩ (.int .u32 (z:Nat))).putObj kd (.deferred none)):=by
 have hG2:=wrote (w1.setCell ⟨w.heap.size+1,0,none⟩ (.slice Aq (lenL (N/M)) cq)) (w.heap.size+1+1) 0 (.int .u32 (z:Nat))
 have hG1:=wrote w1 (w.heap.size+1) 0 (.slice Aq (lenL (N/M)) cq)
 have hK1:=(x4.block kd hKl).trans hK
 have hs1:=x4.size
 have hK3:=(hG2.block kd (by have:=hG1.size;omega) (zan (by omega))).trans ((hG1.block kd (by omega) (zan (by omega))).trans hK1)
 have bq3:=(bq.set (.slice Aq (lenL (N/M)) cq)).kept hG2 (zan (by omega))
 have br3:=(br.kept hG1 (zan (by omega))).set (.int .u32 (z:Nat))
 have hws:w.heap.size+2<W.heap.size:=by omega
 have hX:=(x3.setCell (g:=w.heap.size+1) (p:=0) (by show w.heap.size+1<W.heap.size;omega) (.slice Aq (lenL (N/M)) cq)).setCell (g:=w.heap.size+1+1) (p:=0) (by show w.heap.size+1+1<W.heap.size;omega) (.int .u32 (z:Nat))
 have hb3:=((hbel.trans (x4.mono (by omega))).setCell (p:=⟨w.heap.size+1,0,none⟩) (by simp only;omega) (.slice Aq (lenL (N/M)) cq)).setCell (p:=⟨w.heap.size+1+1,0,none⟩) (by simp only;omega) (.int .u32 (z:Nat))
 have hsz:((w1.setCell ⟨w.heap.size+1,0,none⟩ (.slice Aq (lenL (N/M)) cq)).setCell ⟨w.heap.size+1+1,0,none⟩ (.int .u32 (z:Nat))).heap.size=w1.heap.size:=by rw[World.size_setCell,World.size_setCell]
 obtain⟨W3,hW3⟩:∃W3,(w1.setCell ⟨w.heap.size+1,0,none⟩ (.slice Aq (lenL (N/M)) cq)).setCell ⟨w.heap.size+1+1,0,none⟩ (.int .u32 (z:Nat))=W3:=⟨_,rfl⟩
 rw[hW3]at hK3 bq3 br3 hX hb3 hsz ⊢
 have hgp:=grownBy_putObj' W3 kd (.deferred none)
 have hgr:∀r,some kd=some r→∃o:Obj,W3.heap[r]?=some o∧o.isCells=false:=fun r e=>by cases e;exact⟨_,hK3,rfl⟩
 have hs4:(W3.putObj kd (.deferred none)).heap.size=W3.heap.size:=by simp[World.putObj]
 refine⟨hK3,(za0 bq3 hgp hgr).cell,(za0 br3 hgp hgr).cell,Aq,cq,by rw[hz],x1,x2,((hX.kept hgp hgr).from (show w.heap.size≤W.heap.size by omega)).more (by omega),hb3.trans (belowK_b (w:=w) zsk W3 kd _ _ (by omega) hK3 rfl rfl)⟩
theorem znF (A:Option Addr)(n c N M:Nat)(w:World)(h:Rd w w.heap.size A n N)(hc:n≤c)(hcm:c≤maxLen)(hb:n≤1000000000)(hM:0<M)(hM2:M<4294967296):
  CallsIn Fence.wide 10 Tryz.prog 159 #[.slice A n c,.int .u32 (M:Nat)] w (zd3 w N M):=by
 have hMi: ¬(M:Int)=0:=by omega
 have hMi2:((M:Int)==0)=false:=by simp;omega
 have hB1:=(Below.refl w.heap.size w).alloc zsk (.cells #[.int .u32 (M:Nat)] 77)
 have hB2:=hB1.alloc hB1.size (.cells #[.slice none 0 0] 23)
 have hB3:=hB2.alloc hB2.size (.cells #[.int .u32 0] 77)
 have bN:=((Boxed.new w 77 (.int .u32 (M:Nat))).alloc (.cells #[.slice none 0 0] 23)).alloc (.cells #[.int .u32 0] 77)
 have bQ:=(Boxed.new (w.alloc (.cells #[.int .u32 (M:Nat)] 77)) 23 (.slice none 0 0)).alloc (.cells #[.int .u32 0] 77)
 have bR:=Boxed.new ((w.alloc (.cells #[.int .u32 (M:Nat)] 77)).alloc (.cells #[.slice none 0 0] 23)) 77 (.int .u32 0)
 have hs3:(((w.alloc (.cells #[.int .u32 (M:Nat)] 77)).alloc (.cells #[.slice none 0 0] 23)).alloc (.cells #[.int .u32 0] 77)).heap.size=w.heap.size+3:=by simp
 rw[World.size_alloc,World.size_alloc]at bR
 rw[World.size_alloc]at bQ
 have ET:=zsi (zcy _ A n c N ((h.below hB3).more hB3.size) hc hcm (by omega))
 have BN:=zsi bN
 have BQ:=zsi bQ
 have BR:=zsi bR
 clear bN bQ bR hB1 hB2
 refine callsIn_of_wp_marks Tryz.func159 rfl trivial ?_ rfl
 simp only[Tryz.ntmps159,List.size_toArray,List.length_cons,List.length_nil,Nat.reduceAdd,Nat.reduceSub,Array.replicate_succ,Array.replicate_zero,List.push_toArray,List.append_toArray,List.nil_append,List.cons_append]
 gi_wp2_with fail
 refine⟨trivial,?_⟩
 refine(callsIn_wide.2 ET.out).mono ?_
 rintro e w4 ⟨At,ct,rfl,a1,a2,a3,a4⟩
 obtain⟨w3,hw3⟩:∃w3,((w.alloc (.cells #[.int .u32 (M:Nat)] 77)).alloc (.cells #[.slice none 0 0] 23)).alloc (.cells #[.int .u32 0] 77)=w3:=⟨_,rfl⟩
 rw[hw3]at BN BQ BR hs3 hB3 a3 a4
 have hs4:=a4.size
 have bN4:=zaE BN.out a4 (by omega)
 have bQ4:=zaE BQ.out a4 (by omega)
 have bR4:=zaE BR.out a4 (by omega)
 have hB4:=hB3.trans (a4.mono hB3.size)
 obtain⟨g,hgA,hgl⟩:∃g,(0<lenL N→At=some ⟨g,0,none⟩)∧(0<lenL N→w.heap.size+2<g∧g<w4.heap.size):=by
  rcases zsr (lenL N)with h0|h0
  ·exact⟨0,fun h=>by omega,fun h=>by omega⟩
  ·obtain⟨g,e,h1,h2,_⟩:=a3.2 h0
   exact⟨g,fun _=>e,fun _=>⟨by omega,h2⟩⟩
 have hBuf:Buf w4 g (lenL N) N:=fun j hj=>by
  obtain⟨g',e,_,_,hcs⟩:=a3.2 (by omega)
  rw[hgA (by omega)]at e
  cases e
  exact hcs j hj
 have hc4:=bQ4.cell
 have hf4:=bQ4.frozen
 have hln:=zai.2 h.1
 have HBuf:=zsi hBuf
 have HgA:=zsi hgA
 have Hgl:=zsi hgl
 clear BN BQ BR ET hw3 a3 hBuf hgA hgl
 gi_wp2_with (refine⟨trivial,?_⟩;gi_at_call 171;refine(callsIn_wide.2 (callsIn_wide.1 (ziT _ _ _ _))).mono ?_;rintro e w' ⟨rfl,rfl⟩)
 have hW5:=wrote w4 (w.heap.size+1) 0 (.slice At (lenL N) ct)
 have bQ5:=(bQ4.set (.slice At (lenL N) ct)).alloc (.cells #[.slice At (lenL N:Nat) ct] 23)
 have hGa:=World.grownBy_alloc (w4.setCell ⟨w.heap.size+1,0,none⟩ (.slice At (lenL N) ct)) (.cells #[.slice At (lenL N:Nat) ct] 23) none
 have hs5:(w4.setCell ⟨w.heap.size+1,0,none⟩ (.slice At (lenL N) ct)).heap.size=w4.heap.size:=World.size_setCell _ _ _
 have bB:=Boxed.new (w4.setCell ⟨w.heap.size+1,0,none⟩ (.slice At (lenL N) ct)) 23 (.slice At (lenL N:Nat) ct)
 rw[hs5]at bB
 have hI0:ShortI w w4.heap.size g (lenL N) ct N M At (lenL N) ((w4.setCell ⟨w.heap.size+1,0,none⟩ (.slice At (lenL N) ct)).alloc (.cells #[.slice At (lenL N:Nat) ct] 23)):=
  ⟨Nat.le_refl _,bB.cell,(bN4.kept hW5 (zan (by omega))).alloc _,bQ5,by rw[zlZ M (zaw N)];exact(bR4.kept hW5 (zan (by omega))).alloc _,by
   rw[znE M (zaw N)]
   intro j hj
   have hgl:=Hgl.out (by omega)
   exact((HBuf.out.grown hW5 (zan (by omega)) hgl.2).grown hGa (by simp) (by rw[hs5];exact hgl.2)) j hj,(hB4.setCell (p:=⟨w.heap.size+1,0,none⟩) (by simp only;omega) _).alloc (by rw[hs5];omega) _⟩
 have hs0:((w4.setCell ⟨w.heap.size+1,0,none⟩ (.slice At (lenL N) ct)).alloc (.cells #[.slice At (lenL N:Nat) ct] 23)).heap.size=w4.heap.size+1:=by rw[World.size_alloc,hs5]
 obtain⟨W0,hW0⟩:∃W0,(w4.setCell ⟨w.heap.size+1,0,none⟩ (.slice At (lenL N) ct)).alloc (.cells #[.slice At (lenL N:Nat) ct] 23)=W0:=⟨_,rfl⟩
 rw[hW0]at hI0 hs0 ⊢
 have HI0:=zsi hI0
 clear hI0 hW5 bQ5 hGa bB hW0 bN4 bQ4 bR4 hc4 hf4
 refine zaV rfl (by omega) (gf:=180) (lb:= #[.pointer (some ⟨w4.heap.size,0,none⟩)]) rfl trivial (enters_of Tryz.func180 (by kernel_rfl) rfl)
  (fun _=>rfl) (ShortI w w4.heap.size g (lenL N) ct N M At) (fun _ _ _=>False) (zgi (by omega)) (fun _ _ _ _ _ h _ _=>h)
  HI0.out
  (zfG w4.heap.size At (lenL N) ct (dig N) (by omega) (zar N) _ (fun k W h=>zj6 HgA.out k W h) Fence.wide rfl)
  (fun x=> { tmps:= #[.slice A n c,.int .u32 (M:Nat),undef,.pointer (some ⟨w.heap.size,0,none⟩),.pointer (some ⟨w.heap.size+1,0,none⟩),.pointer (some ⟨w.heap.size+1+1,0,none⟩),.int .i64 0,.int .i64 (x.1:Nat),.int .u32 (x.2:Nat),
     .int .u32 (M:Nat),.bool false,.slice A n c,.slice At (lenL N) ct,.slice At (lenL N) ct,.func (.func 180) #[] #[.pointer (some ⟨w4.heap.size,0,none⟩)],.int .i64 (x.1:Nat),.int .u32 (x.2:Nat),undef,undef,undef,undef,undef,undef,undef,undef,undef,undef,undef,undef,undef],defers:=[] }) ?assign ?body ?done ?stop
 case assign=>
  intro l x W K hK
  gi_wp2
  exact hK
 case body=>
  rintro l s ⟨i,d⟩ W hI ⟨hs,hd⟩
  simp only at hs hd
  subst hs hd
  have hcQ:=hI.bQ.cell
  have hcR:=hI.bR.cell
  have hfR:=hI.bR.frozen
  have hcN:=hI.bN.cell
  have hil:i<lenL N:=hI.kn
  have hgl:=Hgl.out (by omega)
  have hAt:=HgA.out (by omega)
  obtain⟨hc1,hc2⟩:=hI.row i hil
  have hr:sRest N M (i+1)<M:=Nat.mod_lt _ hM
  have ED:=zsi (fun W=>zlU W (sRest N M (i+1)) (dig N i) M hr (zar _ _) hM2)
  have HO:=zsi (fun W1 (hg:W.grownBy W1 none)=>zgi (B:=w.heap.size) zsk _ W W1 none hI hg (fun r e=>by cases e))
  have HN:=zsi (fun W' (h:ShortI w w4.heap.size g (lenL N) ct N M At (i+1) W')=>ziW (zaw N) hM hgl.1 ⟨by omega,hgl.2⟩ h)
  obtain⟨y,hy⟩:∃y,(sRest N M (i+1)*4294967296+dig N i)/M=y:=⟨_,rfl⟩
  obtain⟨z,hz⟩:∃z,(sRest N M (i+1)*4294967296+dig N i)%M=z:=⟨_,rfl⟩
  obtain⟨r,hrr⟩:∃r,sRest N M (i+1)=r:=⟨_,rfl⟩
  rw[hy,hz]at ED HN
  rw[hrr]at ED hcR
  obtain⟨o,ho⟩:∃o,dig (zeR N M (i+1)) i=o:=⟨_,rfl⟩
  rw[ho]at hc1
  have HK:=zsi (fun W1 (hg:W.grownBy W1 none)=>(KeepsFrom.of_grownBy (B:=W0.heap.size) hg (fun j e=>by cases e)).trans ((KeepsFrom.of_grownBy (wrote W1 g i (.int .u32 (y:Nat))) (fun j e=>by cases e;omega)).trans (KeepsFrom.of_grownBy (wrote (W1.setCell ⟨g,i,none⟩ (.int .u32 (y:Nat))) (w.heap.size+1+1) 0 (.int .u32 (z:Nat))) (fun j e=>by cases e;omega))))
  have hgi:(⟨g,0,none⟩:Addr).add i=⟨g,i,none⟩:=zaO g i
  have hne:g≠w.heap.size+1+1:=by omega
  clear hI hr hy hz hrr ho
  subst hAt
  gi_wp2
  refine zbM (by kernel_rfl) (by kernel_rfl) ?_
  refine wpAnyIn_take (i:=1) (v:=_) rfl rfl (by kernel_rfl) (by kernel_rfl) (by kernel_rfl) (fun _ _ _ h=>h) ⟨Or.inl ⟨by rfl,fun w=>BigFrame.run_move (.tmp 7) rfl w⟩,fun _=>rfl⟩ ?_
  refine wpAnyIn_take (i:=3) (v:=_) rfl rfl (by kernel_rfl) (by kernel_rfl) (by kernel_rfl) (fun _ _ _ h=>h) ⟨Or.inl ⟨by rfl,fun w=>BigFrame.run_move (.tmp 8) rfl w⟩,fun _=>rfl⟩ ?_
  refine wpAnyIn_ready (rs:=[0,2,4]) (by kernel_rfl) (by simp) ?_
  refine AllReadyIn.cons rfl (fun K hK=>?_) ?_
  ·go_simp
   refine hK _ _ ?_
   clear hK K
   refine wpAnyIn_ready (rs:=[2,4]) (by kernel_rfl) (by simp) ?_
   refine AllReadyIn.cons rfl (fun K hK=>?_) ?_
   ·go_simp
    refine hK _ _ ?_
    clear hK K
    refine wpAnyIn_ready (rs:=[4]) (by kernel_rfl) (by simp) ?_
    refine AllReadyIn.cons rfl (fun K hK=>?_) ?_
    ·go_simp
     refine hK _ _ ?_
     clear hK K
     refine wpAnyIn_ready (rs:=[5]) (by kernel_rfl) (by simp) ?_
     refine AllReadyIn.cons rfl (fun K hK=>?_) ?_
     ·go_simp
      refine⟨trivial,(callsIn_wide.2 (ED.out _)).mono ?_⟩
      rintro e w1 ⟨rfl,k1,rfl⟩
      refine hK _ _ ?_
      clear hK K
      refine wpAnyIn_take (i:=6) (v:=_) rfl rfl (by kernel_rfl) (by kernel_rfl) (by kernel_rfl) (fun _ _ _ h=>h) ⟨Or.inl ⟨by rfl,fun w=>BigFrame.run_move (.tmp 23) rfl w⟩,fun _=>rfl⟩ ?_
      refine wpAnyIn_take (i:=7) (v:= .int .u32 (y:Nat)) rfl rfl (by kernel_rfl) (by kernel_rfl) (by kernel_rfl) (fun _ _ _ h=>h) ⟨Or.inl ⟨by rfl,fun w=>by go_simp⟩,fun _=>rfl⟩ ?_
      refine wpAnyIn_take (i:=8) (v:= .int .u32 (z:Nat)) rfl rfl (by kernel_rfl) (by kernel_rfl) (by kernel_rfl) (fun _ _ _ h=>h) ⟨Or.inl ⟨by rfl,fun w=>by go_simp⟩,fun _=>rfl⟩ ?_
      refine wpAnyIn_take (i:=9) (v:= .pointer (some ⟨g,i,none⟩)) rfl rfl (by kernel_rfl) (by kernel_rfl) (by kernel_rfl) (fun _ _ _ h=>h) ⟨Or.inl ⟨by rfl,fun w=>by go_simp⟩,fun _=>rfl⟩ ?_
      refine wpAnyIn_ready (rs:=[10]) (by kernel_rfl) (by simp) ?_
      refine AllReadyIn.cons rfl (fun K hK=>?_) ?_
      ·go_simp
       refine hK _ _ ?_
       clear hK K
       refine wpAnyIn_ready (rs:=[11]) (by kernel_rfl) (by simp) ?_
       refine AllReadyIn.cons rfl (fun K hK=>?_) ?_
       ·go_simp
        refine hK _ _ ?_
        clear hK K
        refine wpAnyIn_done (by kernel_rfl) ?_ _
        exact⟨HK.out _ (zaH W _ none),HN.out _ (HO.out _ (zaH W _ none))⟩
       exact AllReadyIn.nil
      exact AllReadyIn.nil
     exact AllReadyIn.nil
    exact AllReadyIn.nil
   refine AllReadyIn.cons rfl (fun K hK=>?_) ?_
   ·go_simp
    refine hK _ _ ?_
    clear hK K
    refine wpAnyIn_ready (rs:=[2]) (by kernel_rfl) (by simp) ?_
    refine AllReadyIn.cons rfl (fun K hK=>?_) ?_
    ·go_simp
     refine hK _ _ ?_
     clear hK K
     refine wpAnyIn_ready (rs:=[5]) (by kernel_rfl) (by simp) ?_
     refine AllReadyIn.cons rfl (fun K hK=>?_) ?_
     ·go_simp
      refine⟨trivial,(callsIn_wide.2 (ED.out _)).mono ?_⟩
      rintro e w1 ⟨rfl,k1,rfl⟩
      refine hK _ _ ?_
      clear hK K
      refine wpAnyIn_take (i:=6) (v:=_) rfl rfl (by kernel_rfl) (by kernel_rfl) (by kernel_rfl) (fun _ _ _ h=>h) ⟨Or.inl ⟨by rfl,fun w=>BigFrame.run_move (.tmp 23) rfl w⟩,fun _=>rfl⟩ ?_
      refine wpAnyIn_take (i:=7) (v:= .int .u32 (y:Nat)) rfl rfl (by kernel_rfl) (by kernel_rfl) (by kernel_rfl) (fun _ _ _ h=>h) ⟨Or.inl ⟨by rfl,fun w=>by go_simp⟩,fun _=>rfl⟩ ?_
      refine wpAnyIn_take (i:=8) (v:= .int .u32 (z:Nat)) rfl rfl (by kernel_rfl) (by kernel_rfl) (by kernel_rfl) (fun _ _ _ h=>h) ⟨Or.inl ⟨by rfl,fun w=>by go_simp⟩,fun _=>rfl⟩ ?_
      refine wpAnyIn_take (i:=9) (v:= .pointer (some ⟨g,i,none⟩)) rfl rfl (by kernel_rfl) (by kernel_rfl) (by kernel_rfl) (fun _ _ _ h=>h) ⟨Or.inl ⟨by rfl,fun w=>by go_simp⟩,fun _=>rfl⟩ ?_
      refine wpAnyIn_ready (rs:=[10]) (by kernel_rfl) (by simp) ?_
      refine AllReadyIn.cons rfl (fun K hK=>?_) ?_
      ·go_simp
       refine hK _ _ ?_
       clear hK K
       refine wpAnyIn_ready (rs:=[11]) (by kernel_rfl) (by simp) ?_
       refine AllReadyIn.cons rfl (fun K hK=>?_) ?_
       ·go_simp
        refine hK _ _ ?_
        clear hK K
        refine wpAnyIn_done (by kernel_rfl) ?_ _
        exact⟨HK.out _ (zaH W _ none),HN.out _ (HO.out _ (zaH W _ none))⟩
       exact AllReadyIn.nil
      exact AllReadyIn.nil
     exact AllReadyIn.nil
    exact AllReadyIn.nil
   exact AllReadyIn.nil
  refine AllReadyIn.cons rfl (fun K hK=>?_) ?_
  ·go_simp
   refine hK _ _ ?_
   clear hK K
   refine wpAnyIn_ready (rs:=[0,4]) (by kernel_rfl) (by simp) ?_
   refine AllReadyIn.cons rfl (fun K hK=>?_) ?_
   ·go_simp
    refine hK _ _ ?_
    clear hK K
    refine wpAnyIn_ready (rs:=[4]) (by kernel_rfl) (by simp) ?_
    refine AllReadyIn.cons rfl (fun K hK=>?_) ?_
    ·go_simp
     refine hK _ _ ?_
     clear hK K
     refine wpAnyIn_ready (rs:=[5]) (by kernel_rfl) (by simp) ?_
     refine AllReadyIn.cons rfl (fun K hK=>?_) ?_
     ·go_simp
      refine⟨trivial,(callsIn_wide.2 (ED.out _)).mono ?_⟩
      rintro e w1 ⟨rfl,k1,rfl⟩
      refine hK _ _ ?_
      clear hK K
      refine wpAnyIn_take (i:=6) (v:=_) rfl rfl (by kernel_rfl) (by kernel_rfl) (by kernel_rfl) (fun _ _ _ h=>h) ⟨Or.inl ⟨by rfl,fun w=>BigFrame.run_move (.tmp 23) rfl w⟩,fun _=>rfl⟩ ?_
      refine wpAnyIn_take (i:=7) (v:= .int .u32 (y:Nat)) rfl rfl (by kernel_rfl) (by kernel_rfl) (by kernel_rfl) (fun _ _ _ h=>h) ⟨Or.inl ⟨by rfl,fun w=>by go_simp⟩,fun _=>rfl⟩ ?_
      refine wpAnyIn_take (i:=8) (v:= .int .u32 (z:Nat)) rfl rfl (by kernel_rfl) (by kernel_rfl) (by kernel_rfl) (fun _ _ _ h=>h) ⟨Or.inl ⟨by rfl,fun w=>by go_simp⟩,fun _=>rfl⟩ ?_
      refine wpAnyIn_take (i:=9) (v:= .pointer (some ⟨g,i,none⟩)) rfl rfl (by kernel_rfl) (by kernel_rfl) (by kernel_rfl) (fun _ _ _ h=>h) ⟨Or.inl ⟨by rfl,fun w=>by go_simp⟩,fun _=>rfl⟩ ?_
      refine wpAnyIn_ready (rs:=[10]) (by kernel_rfl) (by simp) ?_
      refine AllReadyIn.cons rfl (fun K hK=>?_) ?_
      ·go_simp
       refine hK _ _ ?_
       clear hK K
       refine wpAnyIn_ready (rs:=[11]) (by kernel_rfl) (by simp) ?_
       refine AllReadyIn.cons rfl (fun K hK=>?_) ?_
       ·go_simp
        refine hK _ _ ?_
        clear hK K
        refine wpAnyIn_done (by kernel_rfl) ?_ _
        exact⟨HK.out _ (zaH W _ none),HN.out _ (HO.out _ (zaH W _ none))⟩
       exact AllReadyIn.nil
      exact AllReadyIn.nil
     exact AllReadyIn.nil
    exact AllReadyIn.nil
   refine AllReadyIn.cons rfl (fun K hK=>?_) ?_
   ·go_simp
    refine hK _ _ ?_
    clear hK K
    refine wpAnyIn_ready (rs:=[0,5]) (by kernel_rfl) (by simp) ?_
    refine AllReadyIn.cons rfl (fun K hK=>?_) ?_
    ·go_simp
     refine hK _ _ ?_
     clear hK K
     refine wpAnyIn_ready (rs:=[5]) (by kernel_rfl) (by simp) ?_
     refine AllReadyIn.cons rfl (fun K hK=>?_) ?_
     ·go_simp
      refine⟨trivial,(callsIn_wide.2 (ED.out _)).mono ?_⟩
      rintro e w1 ⟨rfl,k1,rfl⟩
      refine hK _ _ ?_
      clear hK K
      refine wpAnyIn_take (i:=6) (v:=_) rfl rfl (by kernel_rfl) (by kernel_rfl) (by kernel_rfl) (fun _ _ _ h=>h) ⟨Or.inl ⟨by rfl,fun w=>BigFrame.run_move (.tmp 23) rfl w⟩,fun _=>rfl⟩ ?_
      refine wpAnyIn_take (i:=7) (v:= .int .u32 (y:Nat)) rfl rfl (by kernel_rfl) (by kernel_rfl) (by kernel_rfl) (fun _ _ _ h=>h) ⟨Or.inl ⟨by rfl,fun w=>by go_simp⟩,fun _=>rfl⟩ ?_
      refine wpAnyIn_take (i:=8) (v:= .int .u32 (z:Nat)) rfl rfl (by kernel_rfl) (by kernel_rfl) (by kernel_rfl) (fun _ _ _ h=>h) ⟨Or.inl ⟨by rfl,fun w=>by go_simp⟩,fun _=>rfl⟩ ?_
      refine wpAnyIn_take (i:=9) (v:= .pointer (some ⟨g,i,none⟩)) rfl rfl (by kernel_rfl) (by kernel_rfl) (by kernel_rfl) (fun _ _ _ h=>h) ⟨Or.inl ⟨by rfl,fun w=>by go_simp⟩,fun _=>rfl⟩ ?_
      refine wpAnyIn_ready (rs:=[10]) (by kernel_rfl) (by simp) ?_
      refine AllReadyIn.cons rfl (fun K hK=>?_) ?_
      ·go_simp
       refine hK _ _ ?_
       clear hK K
       refine wpAnyIn_ready (rs:=[11]) (by kernel_rfl) (by simp) ?_
       refine AllReadyIn.cons rfl (fun K hK=>?_) ?_
       ·go_simp
        refine hK _ _ ?_
        clear hK K
        refine wpAnyIn_done (by kernel_rfl) ?_ _
        exact⟨HK.out _ (zaH W _ none),HN.out _ (HO.out _ (zaH W _ none))⟩
       exact AllReadyIn.nil
      exact AllReadyIn.nil
     exact AllReadyIn.nil
    refine AllReadyIn.cons rfl (fun K hK=>?_) ?_
    ·go_simp
     refine⟨trivial,(callsIn_wide.2 (ED.out _)).mono ?_⟩
     rintro e w1 ⟨rfl,k1,rfl⟩
     refine hK _ _ ?_
     clear hK K
     refine wpAnyIn_take (i:=6) (v:=_) rfl rfl (by kernel_rfl) (by kernel_rfl) (by kernel_rfl) (fun _ _ _ h=>h) ⟨Or.inl ⟨by rfl,fun w=>BigFrame.run_move (.tmp 23) rfl w⟩,fun _=>rfl⟩ ?_
     refine wpAnyIn_take (i:=7) (v:= .int .u32 (y:Nat)) rfl rfl (by kernel_rfl) (by kernel_rfl) (by kernel_rfl) (fun _ _ _ h=>h) ⟨Or.inl ⟨by rfl,fun w=>by go_simp⟩,fun _=>rfl⟩ ?_
     refine wpAnyIn_take (i:=8) (v:= .int .u32 (z:Nat)) rfl rfl (by kernel_rfl) (by kernel_rfl) (by kernel_rfl) (fun _ _ _ h=>h) ⟨Or.inl ⟨by rfl,fun w=>by go_simp⟩,fun _=>rfl⟩ ?_
     refine wpAnyIn_ready (rs:=[0]) (by kernel_rfl) (by simp) ?_
     refine AllReadyIn.cons rfl (fun K hK=>?_) ?_
     ·go_simp
      refine hK _ _ ?_
      clear hK K
      refine wpAnyIn_take (i:=9) (v:= .pointer (some ⟨g,i,none⟩)) rfl rfl (by kernel_rfl) (by kernel_rfl) (by kernel_rfl) (fun _ _ _ h=>h) ⟨Or.inl ⟨by rfl,fun w=>by go_simp⟩,fun _=>rfl⟩ ?_
      refine wpAnyIn_ready (rs:=[10]) (by kernel_rfl) (by simp) ?_
      refine AllReadyIn.cons rfl (fun K hK=>?_) ?_
      ·go_simp
       refine hK _ _ ?_
       clear hK K
       refine wpAnyIn_ready (rs:=[11]) (by kernel_rfl) (by simp) ?_
       refine AllReadyIn.cons rfl (fun K hK=>?_) ?_
       ·go_simp
        refine hK _ _ ?_
        clear hK K
        refine wpAnyIn_done (by kernel_rfl) ?_ _
        exact⟨HK.out _ (zaH W _ none),HN.out _ (HO.out _ (zaH W _ none))⟩
       exact AllReadyIn.nil
      exact AllReadyIn.nil
     exact AllReadyIn.nil
    exact AllReadyIn.nil
   exact AllReadyIn.nil
  refine AllReadyIn.cons rfl (fun K hK=>?_) ?_
  ·go_simp
   refine hK _ _ ?_
   clear hK K
   refine wpAnyIn_ready (rs:=[0,2]) (by kernel_rfl) (by simp) ?_
   refine AllReadyIn.cons rfl (fun K hK=>?_) ?_
   ·go_simp
    refine hK _ _ ?_
    clear hK K
    refine wpAnyIn_ready (rs:=[2]) (by kernel_rfl) (by simp) ?_
    refine AllReadyIn.cons rfl (fun K hK=>?_) ?_
    ·go_simp
     refine hK _ _ ?_
     clear hK K
     refine wpAnyIn_ready (rs:=[5]) (by kernel_rfl) (by simp) ?_
     refine AllReadyIn.cons rfl (fun K hK=>?_) ?_
     ·go_simp
      refine⟨trivial,(callsIn_wide.2 (ED.out _)).mono ?_⟩
      rintro e w1 ⟨rfl,k1,rfl⟩
      refine hK _ _ ?_
      clear hK K
      refine wpAnyIn_take (i:=6) (v:=_) rfl rfl (by kernel_rfl) (by kernel_rfl) (by kernel_rfl) (fun _ _ _ h=>h) ⟨Or.inl ⟨by rfl,fun w=>BigFrame.run_move (.tmp 23) rfl w⟩,fun _=>rfl⟩ ?_
      refine wpAnyIn_take (i:=7) (v:= .int .u32 (y:Nat)) rfl rfl (by kernel_rfl) (by kernel_rfl) (by kernel_rfl) (fun _ _ _ h=>h) ⟨Or.inl ⟨by rfl,fun w=>by go_simp⟩,fun _=>rfl⟩ ?_
      refine wpAnyIn_take (i:=8) (v:= .int .u32 (z:Nat)) rfl rfl (by kernel_rfl) (by kernel_rfl) (by kernel_rfl) (fun _ _ _ h=>h) ⟨Or.inl ⟨by rfl,fun w=>by go_simp⟩,fun _=>rfl⟩ ?_
      refine wpAnyIn_take (i:=9) (v:= .pointer (some ⟨g,i,none⟩)) rfl rfl (by kernel_rfl) (by kernel_rfl) (by kernel_rfl) (fun _ _ _ h=>h) ⟨Or.inl ⟨by rfl,fun w=>by go_simp⟩,fun _=>rfl⟩ ?_
      refine wpAnyIn_ready (rs:=[10]) (by kernel_rfl) (by simp) ?_
      refine AllReadyIn.cons rfl (fun K hK=>?_) ?_
      ·go_simp
       refine hK _ _ ?_
       clear hK K
       refine wpAnyIn_ready (rs:=[11]) (by kernel_rfl) (by simp) ?_
       refine AllReadyIn.cons rfl (fun K hK=>?_) ?_
       ·go_simp
        refine hK _ _ ?_
        clear hK K
        refine wpAnyIn_done (by kernel_rfl) ?_ _
        exact⟨HK.out _ (zaH W _ none),HN.out _ (HO.out _ (zaH W _ none))⟩
       exact AllReadyIn.nil
      exact AllReadyIn.nil
     exact AllReadyIn.nil
    exact AllReadyIn.nil
   refine AllReadyIn.cons rfl (fun K hK=>?_) ?_
   ·go_simp
    refine hK _ _ ?_
    clear hK K
    refine wpAnyIn_ready (rs:=[0,5]) (by kernel_rfl) (by simp) ?_
    refine AllReadyIn.cons rfl (fun K hK=>?_) ?_
    ·go_simp
     refine hK _ _ ?_
     clear hK K
     refine wpAnyIn_ready (rs:=[5]) (by kernel_rfl) (by simp) ?_
     refine AllReadyIn.cons rfl (fun K hK=>?_) ?_
     ·go_simp
      refine⟨trivial,(callsIn_wide.2 (ED.out _)).mono ?_⟩
      rintro e w1 ⟨rfl,k1,rfl⟩
      refine hK _ _ ?_
      clear hK K
      refine wpAnyIn_take (i:=6) (v:=_) rfl rfl (by kernel_rfl) (by kernel_rfl) (by kernel_rfl) (fun _ _ _ h=>h) ⟨Or.inl ⟨by rfl,fun w=>BigFrame.run_move (.tmp 23) rfl w⟩,fun _=>rfl⟩ ?_
      refine wpAnyIn_take (i:=7) (v:= .int .u32 (y:Nat)) rfl rfl (by kernel_rfl) (by kernel_rfl) (by kernel_rfl) (fun _ _ _ h=>h) ⟨Or.inl ⟨by rfl,fun w=>by go_simp⟩,fun _=>rfl⟩ ?_
      refine wpAnyIn_take (i:=8) (v:= .int .u32 (z:Nat)) rfl rfl (by kernel_rfl) (by kernel_rfl) (by kernel_rfl) (fun _ _ _ h=>h) ⟨Or.inl ⟨by rfl,fun w=>by go_simp⟩,fun _=>rfl⟩ ?_
      refine wpAnyIn_take (i:=9) (v:= .pointer (some ⟨g,i,none⟩)) rfl rfl (by kernel_rfl) (by kernel_rfl) (by kernel_rfl) (fun _ _ _ h=>h) ⟨Or.inl ⟨by rfl,fun w=>by go_simp⟩,fun _=>rfl⟩ ?_
      refine wpAnyIn_ready (rs:=[10]) (by kernel_rfl) (by simp) ?_
      refine AllReadyIn.cons rfl (fun K hK=>?_) ?_
      ·go_simp
       refine hK _ _ ?_
       clear hK K
       refine wpAnyIn_ready (rs:=[11]) (by kernel_rfl) (by simp) ?_
       refine AllReadyIn.cons rfl (fun K hK=>?_) ?_
       ·go_simp
        refine hK _ _ ?_
        clear hK K
        refine wpAnyIn_done (by kernel_rfl) ?_ _
        exact⟨HK.out _ (zaH W _ none),HN.out _ (HO.out _ (zaH W _ none))⟩
       exact AllReadyIn.nil
      exact AllReadyIn.nil
     exact AllReadyIn.nil
    refine AllReadyIn.cons rfl (fun K hK=>?_) ?_
    ·go_simp
     refine⟨trivial,(callsIn_wide.2 (ED.out _)).mono ?_⟩
     rintro e w1 ⟨rfl,k1,rfl⟩
     refine hK _ _ ?_
     clear hK K
     refine wpAnyIn_take (i:=6) (v:=_) rfl rfl (by kernel_rfl) (by kernel_rfl) (by kernel_rfl) (fun _ _ _ h=>h) ⟨Or.inl ⟨by rfl,fun w=>BigFrame.run_move (.tmp 23) rfl w⟩,fun _=>rfl⟩ ?_
     refine wpAnyIn_take (i:=7) (v:= .int .u32 (y:Nat)) rfl rfl (by kernel_rfl) (by kernel_rfl) (by kernel_rfl) (fun _ _ _ h=>h) ⟨Or.inl ⟨by rfl,fun w=>by go_simp⟩,fun _=>rfl⟩ ?_
     refine wpAnyIn_take (i:=8) (v:= .int .u32 (z:Nat)) rfl rfl (by kernel_rfl) (by kernel_rfl) (by kernel_rfl) (fun _ _ _ h=>h) ⟨Or.inl ⟨by rfl,fun w=>by go_simp⟩,fun _=>rfl⟩ ?_
     refine wpAnyIn_ready (rs:=[0]) (by kernel_rfl) (by simp) ?_
     refine AllReadyIn.cons rfl (fun K hK=>?_) ?_
     ·go_simp
      refine hK _ _ ?_
      clear hK K
      refine wpAnyIn_take (i:=9) (v:= .pointer (some ⟨g,i,none⟩)) rfl rfl (by kernel_rfl) (by kernel_rfl) (by kernel_rfl) (fun _ _ _ h=>h) ⟨Or.inl ⟨by rfl,fun w=>by go_simp⟩,fun _=>rfl⟩ ?_
      refine wpAnyIn_ready (rs:=[10]) (by kernel_rfl) (by simp) ?_
      refine AllReadyIn.cons rfl (fun K hK=>?_) ?_
      ·go_simp
       refine hK _ _ ?_
       clear hK K
       refine wpAnyIn_ready (rs:=[11]) (by kernel_rfl) (by simp) ?_
       refine AllReadyIn.cons rfl (fun K hK=>?_) ?_
       ·go_simp
        refine hK _ _ ?_
        clear hK K
        refine wpAnyIn_done (by kernel_rfl) ?_ _
        exact⟨HK.out _ (zaH W _ none),HN.out _ (HO.out _ (zaH W _ none))⟩
       exact AllReadyIn.nil
      exact AllReadyIn.nil
     exact AllReadyIn.nil
    exact AllReadyIn.nil
   exact AllReadyIn.nil
  exact AllReadyIn.nil
 case done=>
  rintro kd s W hD rfl hI hK
  obtain⟨_,_,_,hbQ,hbR,hrow,hbel⟩:=hI
  rw[zj5]at hbR
  rw[zlY]at hrow
  have hKl:kd<W.heap.size:=(Array.getElem?_eq_some_iff.1 hK).1
  have hQN:N/M<Bw^lenL N:=zso (Nat.div_le_self _ _) (zaw N)
  have hRd:Rd W W.heap.size At (lenL N) (N/M):=⟨hQN,fun h0=>⟨_,HgA.out h0,by have:=(Hgl.out h0).2;simp only;omega,fun j hj=>by rw[zaO];exact(hrow j hj).1⟩⟩
  have ET:=zcy W.drew At (lenL N) ct (N/M) hRd a1 a2 (by omega)
  have hcQ:=hbQ.cell
  have hcR:=hbR.cell
  have ET:=zsi ET
  have HBQ:=zsi hbQ
  have HBR:=zsi hbR
  have hzz:(N%M:Nat)=N%M:=rfl
  obtain⟨z,hz⟩:∃z,N%M=z:=⟨_,rfl⟩
  rw[hz]at hcR HBR
  clear hzz hrow hRd hbQ hbR
  gi_wp2
  have hkd:w.heap.size+2<kd:=by omega
  refine wpIn_region_any (by kernel_rfl) ?_
  change wpAnyIn _ _ _ _ _ _ _ _ _ (World.drew _)
  refine wpAnyIn_ready (rs:=[0,2]) (by kernel_rfl) (by simp) ?_
  refine AllReadyIn.cons rfl (fun K hK=>?_) ?_
  ·go_simp
   refine hK _ _ ?_
   clear hK K
   refine wpAnyIn_ready (rs:=[1,2]) (by kernel_rfl) (by simp) ?_
   refine AllReadyIn.cons rfl (fun K hK=>?_) ?_
   ·go_simp
    refine⟨trivial,(callsIn_wide.2 ET.out).mono ?_⟩
    rintro e w1 ⟨Aq,cq,rfl,x1,x2,x3,x4⟩
    replace x4:=zgj x4
    replace x3:=zsi x3
    have bq1:=zsi (zaE HBQ.out x4 HBQ.out.lt)
    have br1:=zsi (zaE HBR.out x4 HBR.out.lt)
    have hcQ1:=bq1.out.cell
    have hfQ1:=bq1.out.frozen
    have hcR1:=br1.out.cell
    have hfR1:=br1.out.frozen
    refine hK _ _ ?_
    clear hK K
    refine wpAnyIn_ready (rs:=[2,3]) (by kernel_rfl) (by simp) ?_
    refine AllReadyIn.cons rfl (fun K hK=>?_) ?_
    ·go_simp
     refine hK _ _ ?_
     clear hK K
     refine wpAnyIn_ready (rs:=[3]) (by kernel_rfl) (by simp) ?_
     refine AllReadyIn.cons rfl (fun K hK=>?_) ?_
     ·go_simp
      refine hK _ _ ?_
      clear hK K
      refine wpAnyIn_ready (rs:=[4]) (by kernel_rfl) (by simp) ?_
      refine AllReadyIn.cons rfl (fun K hK=>?_) ?_
      ·go_simp
       refine hK _ _ ?_
       clear hK K
       refine wpAnyIn_ready (rs:=[5]) (by kernel_rfl) (by simp) ?_
       refine AllReadyIn.cons rfl (fun K hK=>?_) ?_
       ·go_simp
        refine hK _ _ ?_
        clear hK K
        refine wpAnyIn_done (by kernel_rfl) ?_ _
        gi_wp2
        obtain⟨t1,t2,t3,t4⟩:=zdp hbel hkd hKl hK x4 bq1.out br1.out x3.out x1 x2 hz
        refine⟨by simp,.inl ⟨_,_,rfl,run_takeDeferred t1,?_⟩⟩
        exact⟨_,by rw[zbN rfl];go_simp,t4⟩
       exact AllReadyIn.nil
      exact AllReadyIn.nil
     exact AllReadyIn.nil
    refine AllReadyIn.cons rfl (fun K hK=>?_) ?_
    ·go_simp
     refine hK _ _ ?_
     clear hK K
     refine wpAnyIn_ready (rs:=[2]) (by kernel_rfl) (by simp) ?_
     refine AllReadyIn.cons rfl (fun K hK=>?_) ?_
     ·go_simp
      refine hK _ _ ?_
      clear hK K
      refine wpAnyIn_ready (rs:=[4]) (by kernel_rfl) (by simp) ?_
      refine AllReadyIn.cons rfl (fun K hK=>?_) ?_
      ·go_simp
       refine hK _ _ ?_
       clear hK K
       refine wpAnyIn_ready (rs:=[5]) (by kernel_rfl) (by simp) ?_
       refine AllReadyIn.cons rfl (fun K hK=>?_) ?_
       ·go_simp
        refine hK _ _ ?_
        clear hK K
        refine wpAnyIn_done (by kernel_rfl) ?_ _
        gi_wp2
        obtain⟨t1,t2,t3,t4⟩:=zdp hbel hkd hKl hK x4 bq1.out br1.out x3.out x1 x2 hz
        refine⟨by simp,.inl ⟨_,_,rfl,run_takeDeferred t1,?_⟩⟩
        exact⟨_,by rw[zbN rfl];go_simp,t4⟩
       exact AllReadyIn.nil
      exact AllReadyIn.nil
     exact AllReadyIn.nil
    exact AllReadyIn.nil
   refine AllReadyIn.cons rfl (fun K hK=>?_) ?_
   ·go_simp
    refine hK _ _ ?_
    clear hK K
    refine wpAnyIn_ready (rs:=[1]) (by kernel_rfl) (by simp) ?_
    refine AllReadyIn.cons rfl (fun K hK=>?_) ?_
    ·go_simp
     refine⟨trivial,(callsIn_wide.2 ET.out).mono ?_⟩
     rintro e w1 ⟨Aq,cq,rfl,x1,x2,x3,x4⟩
     replace x4:=zgj x4
     replace x3:=zsi x3
     have bq1:=zsi (zaE HBQ.out x4 HBQ.out.lt)
     have br1:=zsi (zaE HBR.out x4 HBR.out.lt)
     have hcQ1:=bq1.out.cell
     have hfQ1:=bq1.out.frozen
     have hcR1:=br1.out.cell
     have hfR1:=br1.out.frozen
     refine hK _ _ ?_
     clear hK K
     refine wpAnyIn_ready (rs:=[3]) (by kernel_rfl) (by simp) ?_
     refine AllReadyIn.cons rfl (fun K hK=>?_) ?_
     ·go_simp
      refine hK _ _ ?_
      clear hK K
      refine wpAnyIn_ready (rs:=[4]) (by kernel_rfl) (by simp) ?_
      refine AllReadyIn.cons rfl (fun K hK=>?_) ?_
      ·go_simp
       refine hK _ _ ?_
       clear hK K
       refine wpAnyIn_ready (rs:=[5]) (by kernel_rfl) (by simp) ?_
       refine AllReadyIn.cons rfl (fun K hK=>?_) ?_
       ·go_simp
        refine hK _ _ ?_
        clear hK K
        refine wpAnyIn_done (by kernel_rfl) ?_ _
        gi_wp2
        obtain⟨t1,t2,t3,t4⟩:=zdp hbel hkd hKl hK x4 bq1.out br1.out x3.out x1 x2 hz
        refine⟨by simp,.inl ⟨_,_,rfl,run_takeDeferred t1,?_⟩⟩
        exact⟨_,by rw[zbN rfl];go_simp,t4⟩
       exact AllReadyIn.nil
      exact AllReadyIn.nil
     exact AllReadyIn.nil
    exact AllReadyIn.nil
   exact AllReadyIn.nil
  refine AllReadyIn.cons rfl (fun K hK=>?_) ?_
  ·go_simp
   refine hK _ _ ?_
   clear hK K
   refine wpAnyIn_ready (rs:=[0]) (by kernel_rfl) (by simp) ?_
   refine AllReadyIn.cons rfl (fun K hK=>?_) ?_
   ·go_simp
    refine hK _ _ ?_
    clear hK K
    refine wpAnyIn_ready (rs:=[1]) (by kernel_rfl) (by simp) ?_
    refine AllReadyIn.cons rfl (fun K hK=>?_) ?_
    ·go_simp
     refine⟨trivial,(callsIn_wide.2 ET.out).mono ?_⟩
     rintro e w1 ⟨Aq,cq,rfl,x1,x2,x3,x4⟩
     replace x4:=zgj x4
     replace x3:=zsi x3
     have bq1:=zsi (zaE HBQ.out x4 HBQ.out.lt)
     have br1:=zsi (zaE HBR.out x4 HBR.out.lt)
     have hcQ1:=bq1.out.cell
     have hfQ1:=bq1.out.frozen
     have hcR1:=br1.out.cell
     have hfR1:=br1.out.frozen
     refine hK _ _ ?_
     clear hK K
     refine wpAnyIn_ready (rs:=[3]) (by kernel_rfl) (by simp) ?_
     refine AllReadyIn.cons rfl (fun K hK=>?_) ?_
     ·go_simp
      refine hK _ _ ?_
      clear hK K
      refine wpAnyIn_ready (rs:=[4]) (by kernel_rfl) (by simp) ?_
      refine AllReadyIn.cons rfl (fun K hK=>?_) ?_
      ·go_simp
       refine hK _ _ ?_
       clear hK K
       refine wpAnyIn_ready (rs:=[5]) (by kernel_rfl) (by simp) ?_
       refine AllReadyIn.cons rfl (fun K hK=>?_) ?_
       ·go_simp
        refine hK _ _ ?_
        clear hK K
        refine wpAnyIn_done (by kernel_rfl) ?_ _
        gi_wp2
        obtain⟨t1,t2,t3,t4⟩:=zdp hbel hkd hKl hK x4 bq1.out br1.out x3.out x1 x2 hz
        refine⟨by simp,.inl ⟨_,_,rfl,run_takeDeferred t1,?_⟩⟩
        exact⟨_,by rw[zbN rfl];go_simp,t4⟩
       exact AllReadyIn.nil
      exact AllReadyIn.nil
     exact AllReadyIn.nil
    exact AllReadyIn.nil
   exact AllReadyIn.nil
  exact AllReadyIn.nil
 case stop=>
  rintro D c s W _ _ h _
  exact h.elim
theorem zl0 (A:Option Addr)(n c N M:Nat)(w:World)(h:Rd w w.heap.size A n N)(hc:n≤c)(hcm:c≤maxLen)(hb:n≤1000000000)(hM:0<M)(hM2:M<4294967296):
  Calls Tryz.prog 159 #[.slice A n c,.int .u32 (M:Nat)] w (zd3 w N M):=
 callsIn_wide.1 (znF A n c N M w h hc hcm hb hM hM2)
end
theorem zj7 (A:Option Addr)(n c N M:Nat)(w:World)(h:Rd w w.heap.size A n N)(hc:n≤c)(hcm:c≤maxLen)(hb:n≤1000000000)(hM:0<M)(hM2:M<4294967296):
  Calls Tryz.prog 145 #[.slice A n c,.int .u32 (M:Nat)] w (zgh w (N/M) (N%M) fun a b=> .tuple #[a,b]):=by
 have ES:=zl0 A n c N M w h hc hcm hb hM hM2
 have hm:N%M<M:=Nat.mod_lt _ hM
 obtain⟨z,hz⟩:∃z,N%M=z:=⟨_,rfl⟩
 have EO:=zsi (fun W=>zf4 W z (by omega))
 unfold zd3 at ES
 rw[hz]at ES hm ⊢
 have ES:=zsi ES
 have hzb:z<4294967296:=by omega
 go_enter Tryz.func145,Tryz.ntmps145
 go_wp2_with (go_at_call 159;refine ES.out.mono ?_;rintro e w1 ⟨A1,c1,rfl,a1,a2,a3,a4⟩;replace a3:=zsi a3)
 refine(EO.out w1).mono ?_
 rintro e w2 ⟨A2,c2,rfl,b1,b2,b3,b4⟩
 have HA:=zsi ((a3.out.keep b4).more b4.size)
 have HB:=zsi (b3.from a4.size)
 have hb:=a4.trans (b4.mono a4.size)
 clear b3 b4 a3
 go_wp2
 go_ret2
 exact⟨A1,c1,A2,c2,rfl,a1,a2,b1,b2,HA.out,HB.out,hb⟩
def zd4 (w:World)(N M:Nat):Ending→World→Prop:=zgh w (N/M) (zbS N M) fun a b=> .tuple #[a,b,.int .i64 (zeJ M)]
theorem zpa (A A':Option Addr)(n n' c c' N M:Nat)(w:World)(h:Rd w w.heap.size A n N)(h':Rd w w.heap.size A' n' M)(hc:n≤c)(hcm:c≤maxLen)(hc':n'≤c')(hcm':c'≤maxLen)(hb:n≤100000000)(hb':n'≤100000000):
  Calls Tryz.prog 123 #[.slice A n c,.slice A' n' c'] w (zd4 w N M):=by
 have E1:=zsi (zcy w A n c N h hc hcm (by omega))
 have E2:=zsi (fun W (hB:Below w.heap.size w W)=>zcy W A' n' c' M ((h'.below hB).more hB.size) hc' hcm' (by omega))
 have l1:=zai.2 h.1
 have l2:=zai.2 h'.1
 clear h h'
 go_enter Tryz.func123,Tryz.ntmps123
 go_wp2_with fail
 refine E1.out.mono ?_
 rintro e w1 ⟨At,ct,rfl,a1,a2,a3,a4⟩
 replace a3:=zsi a3
 go_wp2_with fail
 refine(E2.out w1 a4).mono ?_
 rintro e w2 ⟨Bt,dt,rfl,b1,b2,b3,b4⟩
 have HA:=zsi ((a3.out.keep b4).more b4.size)
 have HB:=zsi (b3.from a4.size)
 have hbel:=a4.trans (b4.mono a4.size)
 have hsz:=hbel.size
 clear b3 b4 a3 E1 E2
 obtain⟨lm,hlm⟩:∃lm,lenL M=lm:=⟨_,rfl⟩
 obtain⟨ln,hln⟩:∃ln,lenL N=ln:=⟨_,rfl⟩
 rw[hlm]at b1 l2 HB ⊢
 rw[hln]at a1 l1 HA ⊢
 have HLM:=zsi hlm
 have HLN:=zsi hln
 clear hlm hln
 rcases zsr lm with h0|h0
 ·subst h0
  have hM:M=0:=zbt.1 HLM.out
  go_wp2
  go_ret3
  refine⟨none,0,none,0,?_,?_,by simp[maxLen],?_,by simp[maxLen],?_,?_,hbel⟩
  ·rw[hM,zco,zet,Nat.div_zero,zaT];rfl
  ·rw[hM,Nat.div_zero,zaT];exact Nat.le_refl _
  ·rw[hM,zco,zaT];exact Nat.le_refl _
  ·rw[hM,Nat.div_zero,zaT];exact Fr.nil
  ·rw[hM,zco,zaT];exact Fr.nil
 have hM:M≠0:=fun e=>by have:=HLM.out;rw[e,zaT]at this;omega
 have HP:=zsi (show zd4 w N M=zgh w (N/M) (N%M) fun a b=> .tuple #[a,b,.int .i64 0] by unfold zd4;rw[zca hM,zdW hM])
 by_cases h1:lm=1
 ·subst h1
  obtain⟨g,hg,hcell⟩:=zna HB.out.rd rfl
  subst hg
  have hM2:M<4294967296:=by
   have:=zai.1 (Nat.le_of_eq HLM.out)
   rwa [Nat.pow_one,zaZ]at this
  have ED:=zsi (zj7 At ln ct N M w2 (HA.out.rd) a1 a2 (by omega) (by omega) hM2)
  go_wp2_with (go_at_call 145;refine ED.out.mono ?_;rintro e w3 ⟨A3,c3,A4,c4,rfl,x1,x2,y1,y2,x3,y3,x4⟩;replace x3:=zsi x3;replace y3:=zsi y3)
  go_ret3
  change zd4 w N M _ _
  rw[HP.out]
  exact⟨A3,c3,A4,c4,rfl,x1,x2,y1,y2,x3.out.from hsz,y3.out.from hsz,hbel.trans (x4.mono hsz)⟩
 ·by_cases h2:ln<lm
  ·have hlt:N<M:=by
    rcases zsq N M with h|h
    ·exact h
    ·have:=zaC h
     rw[HLM.out,HLN.out]at this
     omega
   have HQ:=zsi (show N/M=0∧N%M=N from⟨Nat.div_eq_of_lt hlt,Nat.mod_eq_of_lt hlt⟩)
   go_wp2
   go_ret3
   change zd4 w N M _ _
   rw[HP.out,HQ.out.1,HQ.out.2]
   refine⟨none,0,At,ct,?_,?_,by simp[maxLen],?_,a2,?_,?_,hbel⟩
   ·rw[zaT,HLN.out];rfl
   ·rw[zaT];exact Nat.le_refl _
   ·rw[HLN.out];exact a1
   ·rw[zaT];exact Fr.nil
   ·rw[HLN.out];exact HA.out
  ·obtain⟨k,rfl⟩:∃k,lm=k+1:=⟨lm - 1,by omega⟩
   have EB:=zsi (ziV At Bt ln k ct dt N M w2 HA.out.rd HB.out.rd a1 a2 b1 b2 (by omega) (by omega) (by omega) HLM.out)
   go_wp2_with (go_at_call 146;refine EB.out.mono ?_;rintro e w3 ⟨A3,c3,A4,c4,rfl,x1,x2,y1,y2,x3,y3,x4⟩;replace x3:=zsi x3;replace y3:=zsi y3)
   go_ret3
   change zd4 w N M _ _
   rw[HP.out]
   exact⟨A3,c3,A4,c4,rfl,x1,x2,y1,y2,x3.out.from hsz,y3.out.from hsz,hbel.trans (x4.mono hsz)⟩
end Go.Proofs.YtdeelcoipmdoiaaGreatDoor
