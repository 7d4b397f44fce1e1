/- Contract of the reference's Trim of layer 1. -/
import Derived.Test.YtipckjmgdghkiaaGreatDoorGNum
set_option maxHeartbeats 2000000
set_option maxRecDepth 100000
namespace Go.Proofs.YtipckjmgdghkiaaGreatDoor
open Go Go.RowKit
theorem zbs (w:World)(A:Option Addr)(n c N:Nat)(h:Rd w w.heap.size A n N)(hn:n<=c)(hcm:c<=maxLen)(hb:n<=35184372087808:=by omega):
  Calls Tryz.prog 67 #[.slice A n c] w (Gives w N):=by
 have hc:c<=9223372036854775807:=by simpa[maxLen]using hcm
 obtain⟨i0,hi,hz0,hz1,hz2⟩:=info_parts zbJ
 go_enter Tryz.func67,Tryz.ntmps67
 go_wp2
 go_loop [3] (fun i=>∃k:Nat,k<=n/\i= .int .i64 k/\Hid (N<Bw^k)) (fun i=>(intOf i).toNat)
 case atStart=>exact⟨n,Nat.le_refl _,rfl,zvY h.1⟩
 case round=>
  obtain⟨k,hk,rfl,hN⟩:=hrel
  rcases zv7 k with rfl|hpos
  ·have h0:N=0:=by simpa using hN.out
   subst h0
   cases A with
   |none=>
    have hR:=zck (k:=0) h (by omega)
    have HR:=zvY hR
    clear hR
    go_wp2_with (at_builtin;refine zaC _ rfl (.tmp 18) (.tmp 21) _ rfl w.heap.size 92 i0 (.int .u32 0) 4 Tryz.underlying23 hi hz0 hz1 hz2 rfl (.slice (some ⟨w.heap.size,0,none⟩) 0 0) 0 [] rfl (World.ownsRow_lit w #[] 0 zv0 (by simp) rfl) none 0 c (limbs 0 0) rfl (zat _ _) HR.out zcg (by simp) (by omega) (by simp) ?_;intro v1 W1 hown1 hg1 _;have HE:=zvY (zgh (by rfl) hown1 hg1);clear hown1 hg1)
    go_ret
    exact HE.out
   |some ad=>
    have hR:=zck (k:=0) h (by omega)
    have HR:=zvY hR
    clear hR
    go_wp2_with (at_builtin;refine zaC _ rfl (.tmp 18) (.tmp 21) _ rfl w.heap.size 92 i0 (.int .u32 0) 4 Tryz.underlying23 hi hz0 hz1 hz2 rfl (.slice (some ⟨w.heap.size,0,none⟩) 0 0) 0 [] rfl (World.ownsRow_lit w #[] 0 zv0 (by simp) rfl) (some ad) 0 c (limbs 0 0) rfl (zat _ _) HR.out zcg (by simp) (by omega) (by simp) ?_;intro v1 W1 hown1 hg1 _;have HE:=zvY (zgh (by rfl) hown1 hg1);clear hown1 hg1)
    go_ret
    exact HE.out
  ·obtain⟨j,rfl⟩:∃j,k=j+1:=⟨k - 1,by omega⟩
   obtain⟨ad,rfl,_,hcell⟩:=h.at_ (k:=j) (by omega)
   by_cases hd:dig N j=0
   ·rw[hd]at hcell
    go_wp2
    go_round
    case rel=>exact⟨j,by omega,by go_num,zvY (zdC hN.out hd)⟩
    case measure=>simp[intOf]
   ·have hb:((dig N j:Int)==0)=false:=by rw[beq_eq_false_iff_ne];omega
    have hlen:=zvY (zi4 hN.out hd)
    have hR:=zck (k:=j+1) h hk
    have HR:=zvY hR
    clear hd hR
    go_wp2_with (at_builtin;refine zaC _ rfl (.tmp 18) (.tmp 21) _ rfl w.heap.size 92 i0 (.int .u32 0) 4 Tryz.underlying23 hi hz0 hz1 hz2 rfl (.slice (some ⟨w.heap.size,0,none⟩) 0 0) 0 [] rfl (World.ownsRow_lit w #[] 0 zv0 (by simp) rfl) (some ad) (j+1) c (limbs N (j+1)) rfl (zat _ _) HR.out zcg (by simp only[maxLen];omega) (by omega) (by simp) ?_;intro v1 W1 hown1 hg1 _;have HE:=zvY (zgh hlen.out.symm hown1 hg1);clear hown1 hg1)
    go_ret
    exact HE.out
theorem zc5 {w w1:World}{v:Value}{n N:Nat}(hb:Below w.heap.size w w1)(hown:w1.ownsRow w.heap.size 92 1 v n (limbs N n)) (hN:N<Bw^n) (hn:n<=35184372087808:=by omega):
  Calls Tryz.prog 67 #[v] w1 (Gives w N):=by
 obtain⟨A,c,rfl,h1,h2,h3⟩:=Fr.of_own hown hN (fun j hj=>zci hj)
 exact(zbs w1 A n c N h3.rd h1 h2 hn).mono fun _ _ h=>h.later hb
section
variable {w W:World}{e:List Num}{x:Num}
theorem zb1 (h:Env w e W)(hx:x∈e):Calls Tryz.prog 67 #[.slice x.A x.n x.c] W (zh5 w e W.heap.size x.N (fun r=> .slice r.A r.n r.c)):=by
 obtain⟨h1,h2,h3,h4⟩:=h.2 x hx
 exact(zbs W _ _ _ _ h1 h2 h3 h4).mono fun _ _ hg=>zbh h hg (zv2 (zai.2 h1.1) h4)
end
theorem zcH (w:World)(hi:Nat)(A:Option Addr)(n c N:Nat)(h:Rd w hi A n N)(k:Nat):
  Calls Tryz.prog 206 #[.slice A n c,.int .i64 k] w fun e w'=>e= .returned (.int .u64 (dig N k:Nat))/\w=w':=by
 have hd:=zav N k
 by_cases hk:k<n
 ·obtain⟨ad,rfl,_,hc⟩:=h.at_ hk
  go_enter Tryz.func206,Tryz.ntmps206
  go_wp2
  go_ret
  exact⟨rfl,rfl⟩
 ·have h0:=zvY (zbN h.1 (by omega:n<=k))
  clear hd
  go_enter Tryz.func206,Tryz.ntmps206
  go_wp2
  go_ret
  exact⟨by rw[h0.out];rfl,rfl⟩
theorem zug (w:World)(A A':Option Addr)(n n' c c' N M:Nat)(hx:Rd w w.heap.size A n N)(hy:Rd w w.heap.size A' n' M)(hb:n'<=100000)(hnn:n<n'):
  Calls Tryz.prog 204 #[.slice A n c,.slice A' n' c'] w (Gives w (N+M)):=by
 obtain⟨i0,hi,hz0,hz1,hz2⟩:=info_parts zbJ
 have HX:=zvY hx.1
 have HY:=zvY hy.1
 go_enter Tryz.func204,Tryz.ntmps204
 go_wp2
 go_loopw [5,6,7] (fun ov cy i wr=>∃k:Nat,k<=n'/\i= .int .i64 k/\cy= .int .u64 (car N M k:Nat)/\wr.ownsRow w.heap.size 92 1 ov k (limbs (N+M) k)/\Below w.heap.size w wr) (fun _ _ i _=>n' - (intOf i).toNat)
 case atStart=>exact⟨0,Nat.zero_le _,rfl,by rw[zfG];rfl,World.ownsRow_nil _ _ _ _,Below.refl _ _⟩
 case round=>
  rename_i ov
  obtain⟨k,hk,rfl,rfl,hown,hB⟩:=hrel
  have hsz:=hB.size
  have hcl:=zgb N M k
  by_cases hlt:k<n'
  ·have E1:=zvY (zcH wr w.heap.size A n c N (hx.below hB) k)
   have E2:=zvY (zcH wr w.heap.size A' n' c' M (hy.below hB) k)
   have h1:=zav N k
   have h2:=zav M k
   have hdc:=zgY N M k
   have h3:=zav (N+M) k
   have HV1:=zvY (show Value.int .u32 (((dig N k:Int)+(dig M k:Int)+(car N M k:Int))%4294967296)= .int .u32 (dig (N+M) k:Nat) by congr 1;omega)
   have HV2:=zvY (show((dig N k:Int)+(dig M k:Int)+(car N M k:Int))/4294967296=(car N M (k+1):Nat) by omega)
   have HO:=zvY hown
   clear hdc h3 hown
   go_wp2_with (first
    |(go_at_call 206;(with_reducible refine E1.out.mono ?_);rintro e w' ⟨rfl,rfl⟩)
    |(go_at_call 206;(with_reducible refine E2.out.mono ?_);rintro e w' ⟨rfl,rfl⟩)
    |(at_builtin;refine zaC _ rfl (.tmp 27) (.tmp 30) _ rfl w.heap.size 92 i0 (.int .u32 0) 4 Tryz.underlying23 hi hz0 hz1 hz2 rfl _ k (limbs (N+M) k) rfl (HO.out.alloc _) (some ⟨wr.heap.size,0,none⟩) 1 1 [.int .u32 (((dig N k:Int)+(dig M k:Int)+(car N M k:Int))%4294967296)] rfl rfl (zcK _ _ _) (zbU _) (by simp only[maxLen];omega) (by omega) (by simp;omega) ?_;intro v' w1 hown' hg' _;have HS:=zvY (zcL hB HO.out HV1.out hown' hg');clear hown' hg'))
   go_roundw
   case rel=>exact⟨k+1,by omega,by go_num,by rw[HV2.out],HS.out.1,HS.out.2⟩
   case measure=>simp[intOf];omega
  ·obtain rfl:k=n':=by omega
   have HO:=zvY hown
   have HV1:=zvY (show Value.int .u32 (car N M k:Nat)= .int .u32 (dig (N+M) k:Nat) by
    rw[zi3,zbN (zaz HX.out (m:=k) (by omega)) zv0,zbN (zaz HY.out (m:=k) (by omega)) zv0,Nat.zero_add,Nat.mod_eq_of_lt (by rw[za4];omega)])
   have hS:=zvY (zai.1 (zc2 (zaz HX.out (m:=k) (by omega)) (zaz HY.out (m:=k) (by omega))))
   clear hown
   go_wp2_with (at_builtin;refine zaC _ rfl (.tmp 34) (.tmp 37) _ rfl w.heap.size 92 i0 (.int .u32 0) 4 Tryz.underlying23 hi hz0 hz1 hz2 rfl _ k (limbs (N+M) k) rfl (HO.out.alloc _) (some ⟨wr.heap.size,0,none⟩) 1 1 [.int .u32 (car N M k:Nat)] rfl rfl (zcK _ _ _) (zbU _) (by simp only[maxLen];omega) (by omega) (by simp;omega) ?_;intro v' w1 hown' hg' _;have HS:=zvY (zcL hB HO.out HV1.out hown' hg');clear hown' hg')
   refine(zc5 HS.out.2 HS.out.1 hS.out).mono ?_
   intro e w2 hgv
   obtain⟨A2,c2,rfl,g1,g2,g3,g4⟩:=hgv
   go_wp2
   go_ret
   exact⟨A2,c2,rfl,g1,g2,g3,g4⟩
theorem zuh (w:World)(A A':Option Addr)(n n' c c' N M:Nat)(hx:Rd w w.heap.size A n N)(hy:Rd w w.heap.size A' n' M)(hb:n<=100000)(hnn:n'<=n):
  Calls Tryz.prog 204 #[.slice A n c,.slice A' n' c'] w (Gives w (N+M)):=by
 obtain⟨i0,hi,hz0,hz1,hz2⟩:=info_parts zbJ
 have HX:=zvY hx.1
 have HY:=zvY hy.1
 go_enter Tryz.func204,Tryz.ntmps204
 go_wp2
 go_loopw [5,6,7] (fun ov cy i wr=>∃k:Nat,k<=n/\i= .int .i64 k/\cy= .int .u64 (car N M k:Nat)/\wr.ownsRow w.heap.size 92 1 ov k (limbs (N+M) k)/\Below w.heap.size w wr) (fun _ _ i _=>n - (intOf i).toNat)
 case atStart=>exact⟨0,Nat.zero_le _,rfl,by rw[zfG];rfl,World.ownsRow_nil _ _ _ _,Below.refl _ _⟩
 case round=>
  rename_i ov
  obtain⟨k,hk,rfl,rfl,hown,hB⟩:=hrel
  have hsz:=hB.size
  have hcl:=zgb N M k
  by_cases hlt:k<n
  ·have E1:=zvY (zcH wr w.heap.size A n c N (hx.below hB) k)
   have E2:=zvY (zcH wr w.heap.size A' n' c' M (hy.below hB) k)
   have h1:=zav N k
   have h2:=zav M k
   have hdc:=zgY N M k
   have h3:=zav (N+M) k
   have HV1:=zvY (show Value.int .u32 (((dig N k:Int)+(dig M k:Int)+(car N M k:Int))%4294967296)= .int .u32 (dig (N+M) k:Nat) by congr 1;omega)
   have HV2:=zvY (show((dig N k:Int)+(dig M k:Int)+(car N M k:Int))/4294967296=(car N M (k+1):Nat) by omega)
   have HO:=zvY hown
   clear hdc h3 hown
   go_wp2_with (first
    |(go_at_call 206;(with_reducible refine E1.out.mono ?_);rintro e w' ⟨rfl,rfl⟩)
    |(go_at_call 206;(with_reducible refine E2.out.mono ?_);rintro e w' ⟨rfl,rfl⟩)
    |(at_builtin;refine zaC _ rfl (.tmp 27) (.tmp 30) _ rfl w.heap.size 92 i0 (.int .u32 0) 4 Tryz.underlying23 hi hz0 hz1 hz2 rfl _ k (limbs (N+M) k) rfl (HO.out.alloc _) (some ⟨wr.heap.size,0,none⟩) 1 1 [.int .u32 (((dig N k:Int)+(dig M k:Int)+(car N M k:Int))%4294967296)] rfl rfl (zcK _ _ _) (zbU _) (by simp only[maxLen];omega) (by omega) (by simp;omega) ?_;intro v' w1 hown' hg' _;have HS:=zvY (zcL hB HO.out HV1.out hown' hg');clear hown' hg'))
   go_roundw
   case rel=>exact⟨k+1,by omega,by go_num,by rw[HV2.out],HS.out.1,HS.out.2⟩
   case measure=>simp[intOf];omega
  ·obtain rfl:k=n:=by omega
   have HO:=zvY hown
   have HV1:=zvY (show Value.int .u32 (car N M k:Nat)= .int .u32 (dig (N+M) k:Nat) by
    rw[zi3,zbN (zaz HX.out (m:=k) (by omega)) zv0,zbN (zaz HY.out (m:=k) (by omega)) zv0,Nat.zero_add,Nat.mod_eq_of_lt (by rw[za4];omega)])
   have hS:=zvY (zai.1 (zc2 (zaz HX.out (m:=k) (by omega)) (zaz HY.out (m:=k) (by omega))))
   clear hown
   go_wp2_with (at_builtin;refine zaC _ rfl (.tmp 34) (.tmp 37) _ rfl w.heap.size 92 i0 (.int .u32 0) 4 Tryz.underlying23 hi hz0 hz1 hz2 rfl _ k (limbs (N+M) k) rfl (HO.out.alloc _) (some ⟨wr.heap.size,0,none⟩) 1 1 [.int .u32 (car N M k:Nat)] rfl rfl (zcK _ _ _) (zbU _) (by simp only[maxLen];omega) (by omega) (by simp;omega) ?_;intro v' w1 hown' hg' _;have HS:=zvY (zcL hB HO.out HV1.out hown' hg');clear hown' hg')
   refine(zc5 HS.out.2 HS.out.1 hS.out).mono ?_
   intro e w2 hgv
   obtain⟨A2,c2,rfl,g1,g2,g3,g4⟩:=hgv
   go_wp2
   go_ret
   exact⟨A2,c2,rfl,g1,g2,g3,g4⟩
theorem zsx (w:World)(A A':Option Addr)(n n' c c' N M:Nat)(hx:Rd w w.heap.size A n N)(hy:Rd w w.heap.size A' n' M)(hb:n<=100000)(hb':n'<=100000):
  Calls Tryz.prog 204 #[.slice A n c,.slice A' n' c'] w (Gives w (N+M)):=by
 rcases zv6 n n' with h|h
 ·exact zug w A A' n n' c c' N M hx hy hb' h
 ·exact zuh w A A' n n' c c' N M hx hy hb h
theorem zk8 (w:World)(A:Option Addr)(c:Nat)(l:List Num)(h:Rds w w.heap.size A l)(hl:l.length<=100000000000000)(hb:∀x∈l,x.n<=1000)(hs:lenL (zbO l)<=1000):
  Calls Tryz.prog 162 #[.slice A l.length c] w (Gives w (zbO l)):=by
 have HS:=zvY hs
 clear hs
 go_enter Tryz.func162,Tryz.ntmps162
 go_wp2
 go_loopw [3,4] (fun ov i wr=>∃k:Nat,k<=l.length/\i= .int .i64 k/\Below w.heap.size w wr/\∃r:Num,ov= .slice r.A r.n r.c/\r.n<=1000/\Hid (r.N=zdX l k)/\Hid (r.ok wr wr.heap.size)) (fun _ i _=>l.length - (intOf i).toNat)
 case atStart=>exact⟨0,Nat.zero_le _,rfl,Below.refl _ _,⟨none,0,0,0⟩,rfl,Nat.zero_le _,zvY rfl,zvY ⟨Rd.none_,Nat.le_refl _,Nat.zero_le _,Nat.zero_le _⟩⟩
 case round=>
  obtain⟨k,hk,rfl,hB,⟨RA,Rn,Rc,RN⟩,rfl,hrn,hrN,hro⟩:=hrel
  have hrn':Rn<=1000:=hrn
  by_cases hlt:k<l.length
  ·obtain⟨⟨ad,rfl,hadb,hc⟩,hr,hr1,hr2,hr3⟩:=(h.below hB) k hlt
   have HN:=zvY (show RN+l[k].N=zdX l (k+1) by rw[zhi hlt];have:=hrN.out;simp only at this;omega)
   have hln:=hb _ (List.getElem_mem hlt)
   have E:=zvY (zsx wr RA l[k].A Rn l[k].n Rc l[k].c RN l[k].N hro.out.1 (hr.more hB.size) (by omega) (by omega))
   have HL:=zvY (show lenL (zdX l (k+1))<=1000 from zv2 (zaG (zkg l _)) HS.out)
   clear hr hr1 hr2 hr3
   go_wp2_with fail
   refine E.out.mono ?_
   rw[HN.out]
   rintro e w' ⟨A2,c2,rfl,g1,g2,g3,g4⟩
   have hG:=zvY (g3.ok g1 g2 (by have:=HL.out;omega))
   have hB':=hB.trans (g4.mono hB.size)
   clear g1 g2 g3 g4
   go_wp2
   go_roundw
   case rel=>exact⟨k+1,by omega,by go_num,hB',⟨A2,_,c2,zdX l (k+1)⟩,rfl,HL.out,zvY rfl,hG⟩
   case measure=>simp[intOf];omega
  ·obtain rfl:k=l.length:=by omega
   have HN:=zvY (show RN=zbO l by have:=hrN.out;rw[zir]at this;exact this)
   have E:=zvY (zbs wr RA Rn Rc RN hro.out.1 hro.out.2.1 hro.out.2.2.1 hro.out.2.2.2)
   go_wp2_with fail
   refine E.out.mono ?_
   rw[HN.out]
   intro e w2 hg
   obtain⟨A2,c2,rfl,g1,g2,g3,g4⟩:=hg.later hB
   go_wp2
   go_ret
   exact⟨A2,c2,rfl,g1,g2,g3,g4⟩
section
variable {w W:World}{e:List Num}{x y z:Num}
theorem zjK {g:Nat}(h:Env w e W)(hx:x∈e)(hy:y∈e)(hg:W.heap.size=g)(bx:x.n<=900)(by':y.n<=900):
  Calls Tryz.prog 162 #[.slice (some ⟨g,0,none⟩) 2 2] (W.alloc (.cells #[.slice x.A x.n x.c,.slice y.A y.n y.c] 23)) (zh5 w e W.heap.size (x.N+y.N) (fun r=> .slice r.A r.n r.c)):=by
 subst hg
 have hlen:=zjl h hx hy (b:=900) bx by'
 have hS:zbO [x,y]=x.N+y.N:=by simp[zbO]
 refine(zk8 _ _ 2 [x,y] (Rds.two (h.2 x hx) (h.2 y hy)) (by simp) (by
  intro u hu
  simp only[List.mem_cons,List.not_mem_nil,or_false]at hu
  rcases hu with rfl|rfl <;> omega) (by rw[hS];omega)).mono fun e w' hg=>?_
 rw[hS]at hg
 exact zbh h hg.alloc (by omega)
end
theorem zhP (w:World)(hi hi':Nat)(A A':Option Addr)(n n' c c' N N':Nat)(hA:Rd w hi A n N)(hA':Rd w hi' A' n' N')(hn:n<=9223372036854775806)(hn':n'<=9223372036854775806):
  Calls Tryz.prog 165 #[.slice A n c,.slice A' n' c'] w fun e w'=>e= .returned (.int .i64 (zcj N N'))/\w=w':=by
 have hmx:∀j,max n n'<=j->dig N j=dig N' j:=fun j hj=>by rw[zbN hA.1 (by omega),zbN hA'.1 (by omega)]
 have HX:=zvY hmx
 have HB:=zvY hA.1
 have HB':=zvY hA'.1
 have hm2:max n n'<=9223372036854775806:=by omega
 clear hmx
 go_enter Tryz.func165,Tryz.ntmps165
 go_wp2
 all_goals
  go_loop [5] (fun i=>zjm (fun s=>Hid (∀j,s<=j->dig N j=dig N' j)) i) (fun i=>(intOf i+1).toNat)
  case atStart=>
   first
   |exact zdL n' hn' (zvY fun j hj=>HX.out j (by omega))
   |exact zdL n hn (zvY fun j hj=>HX.out j (by omega))
  case round=>
   rcases hrel with⟨rfl,hP⟩|⟨j,hj,rfl,hP⟩
   ·have HN:=zvY (zgF HB.out HB'.out (fun j=>hP.out j (Nat.zero_le _)))
    go_wp2
    go_ret
    exact⟨by rw[<-HN.out,zmT];rfl,rfl⟩
   ·have e1:=zcH w hi A n c N hA j
    have e2:=zcH w hi' A' n' c' N' hA' j
    have h1:=zav N j
    have h2:=zav N' j
    have E1:=zvY e1
    have E2:=zvY e2
    clear e1 e2
    rcases Nat.lt_trichotomy (dig N j) (dig N' j)with hlt|heq|hgt
    ·have HN:=zvY (zfO (zdD HB.out HB'.out (fun i hi=>hP.out i (by omega)) hlt))
     go_wp2_with (first
      |(go_at_call 206;(with_reducible refine E1.out.mono ?_);rintro e w' ⟨rfl,rfl⟩)
      |(go_at_call 206;(with_reducible refine E2.out.mono ?_);rintro e w' ⟨rfl,rfl⟩))
     go_ret
     exact⟨by rw[HN.out];rfl,rfl⟩
    ·have HE:=zvY heq
     rw[heq]at E1
     clear heq h1
     go_wp2_with (first
      |(go_at_call 206;(with_reducible refine E1.out.mono ?_);rintro e w' ⟨rfl,rfl⟩)
      |(go_at_call 206;(with_reducible refine E2.out.mono ?_);rintro e w' ⟨rfl,rfl⟩))
     go_round
     case rel=>exact zdL j (by omega) (zvY fun i hi=>by
      rcases zv6 j i with h1|h1
      ·exact hP.out i (by omega)
      ·obtain rfl:i=j:=by omega
       exact HE.out)
     case measure=>simp[intOf]
    ·have HN:=zvY (zmS (zdD HB'.out HB.out (fun i hi=>(hP.out i (by omega)).symm) hgt))
     go_wp2_with (first
      |(go_at_call 206;(with_reducible refine E1.out.mono ?_);rintro e w' ⟨rfl,rfl⟩)
      |(go_at_call 206;(with_reducible refine E2.out.mono ?_);rintro e w' ⟨rfl,rfl⟩))
     go_ret
     exact⟨by rw[HN.out];rfl,rfl⟩
section
variable {w W:World}{e:List Num}{x y:Num}
theorem zui (h:Env w e W)(hx:x∈e)(hy:y∈e):
  Calls Tryz.prog 165 #[.slice x.A x.n x.c,.slice y.A y.n y.c] W fun e' W'=>e'= .returned (.int .i64 (zcj x.N y.N))/\Env w e W':=
 (zhP W _ _ _ _ _ _ _ _ _ _ (h.2 x hx).1 (h.2 y hy).1 (big (h.2 x hx).2.2.2) (big (h.2 y hy).2.2.2)).mono fun _ _ ⟨he,hb⟩=>⟨he,by rw[<-hb];exact h⟩
end
theorem zoL (w:World)(hi hi':Nat)(A A':Option Addr)(n n' c c' N M:Nat)(h:Rd w hi A n N)(h':Rd w hi' A' n' M)(hn:n<=9223372036854775806):
  Calls Tryz.prog 52 #[.slice A n c,.slice A' n' c'] w fun e w'=>e= .returned (.bool (zfN n n' N M))/\Below w.heap.size w w':=by
 by_cases hnn:n=n'
 ·subst hnn
  have hN:=zvY h.1
  have hM:=zvY h'.1
  go_enter Tryz.func52,Tryz.ntmps52
  go_wp2
  go_loopw [5] (fun i wr=>∃k:Nat,k<=n/\i= .int .i64 k/\Hid (∀j,j<k->dig N j=dig M j)/\Below w.heap.size w wr/\Rd wr hi A n N/\Rd wr hi' A' n M) (fun i _=>n - (intOf i).toNat)
  case atStart=>exact⟨0,Nat.zero_le _,rfl,zvY (fun j hj=>by omega),Below.refl _ _,h,h'⟩
  case round=>
   obtain⟨k,hk,rfl,hj,hB,r1,r2⟩:=hrel
   by_cases hlt:k<n
   ·obtain⟨ad,rfl,_,hc⟩:=r1.at_ hlt
    obtain⟨ad',rfl,_,hc'⟩:=r2.at_ hlt
    by_cases hd:dig N k=dig M k
    ·have HD:=zvY hd
     rw[hd]at hc
     clear hd
     go_wp2
     go_quiet (fail)
     go_wp2
     go_roundw
     case rel=>exact⟨k+1,by omega,by go_num,zvY (fun j h1=>by
      rcases zv6 j k with h2|h2
      ·exact hj.out j h2
      ·obtain rfl:j=k:=by omega
       exact HD.out),zdF hB _,r1,r2⟩
     case measure=>simp[intOf];omega
    ·have hF:=zvY (show zfN n n N M=false by
      simp only[zfN,decide_eq_false_iff_not,true_and]
      exact fun e=>hd (by rw[e]))
     have hb:((dig N k:Int)==(dig M k:Int))=false:=by rw[beq_eq_false_iff_ne];omega
     have hb':((dig N k:Int) != (dig M k:Int))=true:=by rw[bne_iff_ne];omega
     clear hd
     go_wp2
     go_quiet (fail)
     go_wp2
     go_ret
     exact⟨by rw[hF.out];rfl,zdF hB _⟩
   ·obtain rfl:k=n:=by omega
    have hT:=zvY (show zfN k k N M=true by
     simp only[zfN,decide_eq_true_eq,true_and]
     exact zpR hN.out hM.out hj.out)
    go_wp2
    go_ret
    exact⟨by rw[hT.out];rfl,hB⟩
 ·have hF:=zvY (show zfN n n' N M=false by simp[zfN,hnn])
  have hb:((n:Int)==(n':Int))=false:=by rw[beq_eq_false_iff_ne];omega
  have hb':((n:Int) != (n':Int))=true:=by rw[bne_iff_ne];omega
  clear hnn
  go_enter Tryz.func52,Tryz.ntmps52
  go_wp2
  go_ret
  exact⟨by rw[hF.out];rfl,Below.refl _ _⟩
end Go.Proofs.YtipckjmgdghkiaaGreatDoor
