/- Contracts of package nat's functions. -/
import Derived.LoopNIn
import Derived.LoopIn
import Derived.Sort.QuietIn
import Derived.Test.YtipckjmgdghkiaaGreatDoorGNum
set_option maxHeartbeats 2000000
set_option maxRecDepth 100000
namespace Go.Proofs.YtipckjmgdghkiaaGreatDoor
open Go Go.RowKit
theorem zec (w:World)(hi:Nat)(A:Option Addr)(n c N:Nat)(h:Rd w hi A n N)(i:Int)(h0:0<=i):
  Calls Tryz.prog 198 #[.slice A n c,.int .i64 i] w fun e w'=>e= .returned (.int .u32 (dig N i.toNat:Nat))/\w=w':=by
 obtain⟨k,rfl⟩:=Int.eq_ofNat_of_zero_le h0
 rw[Int.toNat_natCast]
 by_cases hk:k<n
 ·obtain⟨ad,rfl,_,hc⟩:=h.at_ hk
  go_enter Tryz.func198,Tryz.ntmps198
  go_wp2
  go_ret
  exact⟨rfl,rfl⟩
 ·have hd:=zbN h.1 (by omega:n<=k)
  rw[hd]
  go_enter Tryz.func198,Tryz.ntmps198
  go_wp2
  go_ret
  exact⟨rfl,rfl⟩
theorem zpK (w:World)(x y z l b:Int)(hx:0<=x/\x<4294967296)(hy:0<=y/\y<4294967296)(hz:0<=z/\z<=1)(hl:0<=l/\l<4294967296)(h:x+y+z=l+4294967296*b):
  Calls Tryz.prog 203 #[.int .u64 x,.int .u64 y,.int .u64 z] w fun e w'=>e= .returned (.tuple #[.int .u32 l,.int .u64 b])/\w=w':=by
 have e1:(x+y+z)%4294967296=l:=by omega
 have e2:(x+y+z)/4294967296=b:=by omega
 have H1:=zvY e1
 have H2:=zvY e2
 clear e1 e2 h hl
 go_enter Tryz.func203,Tryz.ntmps203
 go_wp2
 rw[H1.out,H2.out]
 go_ret2
 exact⟨rfl,rfl⟩
theorem zlO {x y z l b:Int}(hx:0<=x/\x<4294967296)(hy:0<=y/\y<4294967296)(hz:0<=z/\z<=1)(hl:0<=l/\l<4294967296)(h:x+4294967296*b=l+y+z):
  IntKind.u64.wrap (IntKind.u64.wrap (x - y) - z)%4294967296=l/\IntKind.u64.wrap (IntKind.u64.wrap (x - y) - z)/9223372036854775808=b:=by
 simp only[zbT];omega
theorem znX (w:World)(x y z l b:Int)(hx:0<=x/\x<4294967296)(hy:0<=y/\y<4294967296)(hz:0<=z/\z<=1)(hl:0<=l/\l<4294967296)(h:x+4294967296*b=l+y+z):
  Calls Tryz.prog 215 #[.int .u64 x,.int .u64 y,.int .u64 z] w fun e w'=>e= .returned (.tuple #[.int .u32 l,.int .u64 b])/\w=w':=by
 have H:=zvY (zlO hx hy hz hl h)
 clear h hl
 go_enter Tryz.func215,Tryz.ntmps215
 go_wp2
 rw[H.out.1,H.out.2]
 go_ret2
 exact⟨rfl,rfl⟩
theorem zdE (w:World)(hi:Nat)(A:Option Addr)(n c N:Nat)(h:Rd w hi A n N)(hn:n<=c)(hc:c<=9223372036854775807:=by omega):
  Calls Tryz.prog 122 #[.slice A n c] w fun e w'=>e= .returned (.slice (zfm N A) (lenL N) (lenL N))/\w=w':=by
 go_enter Tryz.func122,Tryz.ntmps122
 go_wp2
 go_loop [3] (fun i=>∃k:Nat,k<=n/\i= .int .i64 k/\Hid (N<Bw^k)) (fun i=>(intOf i).toNat)
 case atStart=>exact⟨n,Nat.le_refl _,rfl,zvY h.1⟩
 case round=>
  obtain⟨k,hk,rfl,hN⟩:=hrel
  rcases zv7 k with rfl|hpos
  ·have h0:N=0:=by simpa using hN.out
   subst h0
   go_wp2
   go_ret
   exact⟨rfl,rfl⟩
  ·obtain⟨j,rfl⟩:∃j,k=j+1:=⟨k - 1,by omega⟩
   obtain⟨ad,rfl,_,hcell⟩:=h.at_ (k:=j) (by omega)
   by_cases hd:dig N j=0
   ·rw[hd]at hcell
    go_wp2
    go_round
    case rel=>exact⟨j,by omega,by go_num,zvY (zdC hN.out hd)⟩
    case measure=>simp[intOf]
   ·have hb:((dig N j:Int)==0)=false:=by simpa using hd
    have hlen:=zvY (zi4 hN.out hd)
    have hN0: ¬N=0:=fun h0=>hd (by rw[h0];exact zbI j)
    clear hd
    go_wp2
    go_ret
    exact⟨by rw[hlen.out,zdW hN0];rfl,rfl⟩
theorem zc1 (w:World)(A:Option Addr)(n c N:Nat)(h:Rd w w.heap.size A n N)(hn:n<=c)(hcm:c<=maxLen)(hb:n<=35184372087808:=by omega):
  Calls Tryz.prog 155 #[.slice A n c] w (Gives w N):=by
 have hl:=zai.2 h.1
 have hc:c<=9223372036854775807:=by simpa[maxLen]using hcm
 have hlt:=zaF N
 by_cases h0:N=0
 ·have HL:=zvY h0
  clear h0
  go_enter Tryz.func155,Tryz.ntmps155
  go_wp2_with (go_at_call 122;refine(zdE _ _ A n c N h hn).mono ?_;rintro e w' ⟨rfl,rfl⟩;rw[HL.out,zaS,ziq])
  go_ret
  exact⟨none,0,by rw[HL.out];rfl,by rw[HL.out];simp[lenL],by simp[maxLen],by rw[HL.out];exact Fr.nil,Below.refl _ _⟩
 ·obtain⟨m,hm⟩:∃m,lenL N=m+1:=⟨lenL N - 1,by have:=zbF (N:=N);omega⟩
  obtain⟨ad,rfl,_,_⟩:=h.at_ (k:=0) (by omega)
  have hcell:∀j u,(limbs N (lenL N))[j]?=some u->w.cell? (ad.add j)=some u:=fun j u hu=>by
   obtain⟨hj,rfl⟩:=zd0 hu
   obtain⟨ad',e,_,hc'⟩:=h.at_ (k:=j) (by omega)
   cases e
   exact hc'
  have HC:=zvY hcell
  have HT:=zvY hlt
  have HN:=zvY h0
  clear hcell hlt hm h0
  obtain⟨i0,hi,hz0,hz1,hz2⟩:=info_parts zbJ
  go_enter Tryz.func155,Tryz.ntmps155
  go_wp2_with (first
   |(go_at_call 122;refine(zdE _ _ (some ad) n c N h hn).mono ?_;rintro e w' ⟨rfl,rfl⟩;rw[zdW HN.out])
   |(at_builtin;refine wpList_append_own _ rfl _ _ 23 rfl w.heap.size 92 i0 (.int .u32 0) 1 4 Tryz.underlying23 hi hz0 hz1 hz2 rfl (by decide) (.slice none 0 0) 0 [] rfl (World.ownsRow_nil _ _ _ _) ad (lenL N) (lenL N) (limbs N (lenL N)) rfl (by simp[zat]) HC.out zcg (by simp only[maxLen];omega) (by omega) zv0 ?_;intro v' w1 hown' hgrow _))
  go_ret
  rw[Nat.zero_add,List.nil_append]at hown'
  obtain⟨A',c',rfl,h1,h2,h3⟩:=Fr.of_own hown' HT.out (fun j hj=>zci hj)
  exact⟨A',c',rfl,h1,h2,h3,zv1.grown hgrow zv0 (by simp[Value.ownBlock])⟩
theorem zcT {w W:World}{A:Option Addr}{n N:Nat}(h:Fr W w.heap.size W.heap.size A n N)(hn:n<=maxLen)(hb:Below w.heap.size w W):
  Gives w N (.returned (.slice (zfm N A) (lenL N) (lenL N))) W:=
 ⟨_,_,rfl,Nat.le_refl _,zv2 (zai.2 h.1) hn,h.cut,hb⟩
theorem zgf (w:World)(N:Nat)(h:N<18446744073709551616):
  Calls Tryz.prog 85 #[.int .u64 N] w (Gives w N):=by
 have H:=zvY (zhy h)
 go_enter Tryz.func85,Tryz.ntmps85
 go_wp2_with fail
 have hF:Fr (w.alloc (Obj.cells #[Value.int IntKind.u32 (↑N%4294967296),Value.int IntKind.u32 (↑N/4294967296)] 92)) w.heap.size (w.heap.size+1) (some ⟨w.heap.size,0,none⟩) 2 N:=
  Fr.lit zv0 H.out.1 H.out.2
 refine(zdE _ _ _ 2 2 N hF.rd (by omega)).mono ?_
 rintro e w' ⟨rfl,rfl⟩
 go_wp2
 go_ret
 exact zcT (by simpa using hF) (by simp[maxLen]) (zv1.alloc zv0 _)
theorem zpL {x y:Nat}(hx:x<4294967296)(hy:y<4294967296):bits BinOp.or IntKind.u64 ((x:Int)*4294967296) y=((x*4294967296+y:Nat):Int):=by
 have e:((x:Int)*4294967296)=((x*4294967296:Nat):Int):=by omega
 rw[e,u64_or_nat (x*4294967296) y (by omega) (by omega)]
 have:x*4294967296 ||| y=x*4294967296+y:=by
  rw[show x*4294967296=x <<< 32 from by rw[Nat.shiftLeft_eq],Nat.shiftLeft_add_eq_or_of_lt hy]
 rw[this]
section
attribute [local go_sem] Oper.semAt_some
theorem zjj (A A':Option Addr)(n n' c c':Nat)(w:World):
  CallsIn Fence.wide 0 Tryz.prog 157 #[.slice A n c,.slice A' n' c'] w fun e w'=>
   e= .returned (.func (.func 197) #[] #[.pointer (some ⟨w.heap.size,0,none⟩),.pointer (some ⟨w.heap.size+1,0,none⟩)])/\w'=(w.alloc (.cells #[.slice A n c] 23)).alloc (.cells #[.slice A' n' c'] 23):=by
 refine callsIn_wide.2 ?_
 go_enter Tryz.func157,Tryz.ntmps157
 go_wp2
 go_ret
 exact⟨rfl,rfl⟩
def ztE (g:Nat)(A A':Option Addr)(n n' c c' N N':Nat)(W:World):Prop:=
 (W.cell? ⟨g,0,none⟩=some (.slice A n c)/\W.cell? ⟨g+1,0,none⟩=some (.slice A' n' c'))/\Rd W g A n N/\Rd W g A' n' N'
theorem zjk {J:Nat->World->Prop}{W:World}(n:Nat)(hn:n<=9223372036854775806)(h:J n W):
  (Value.int .i64 ((n:Int) - 1)= .int .i64 (-1)/\J 0 W)\/ ∃j:Nat,j<=9223372036854775805/\Value.int .i64 ((n:Int) - 1)= .int .i64 j/\J (j+1) W:=by
 rcases n with _|n
 ·exact .inl ⟨rfl,h⟩
 ·exact .inr ⟨n,by omega,by simp,h⟩
theorem zgg (g:Nat)(A A':Option Addr)(n n' c c' N N':Nat)(hn:n<=9223372036854775806)(hn':n'<=9223372036854775806)(I:Nat->World->Prop)(hI:∀s W,I s W->ztE g A A' n n' c c' N N' W)(F:Fence)(hF:F=Fence.wide):
  zfH F 9 Tryz.prog 197 #[.pointer (some ⟨g,0,none⟩),.pointer (some ⟨g+1,0,none⟩)] (fun x:Nat×Nat=> #[.int .u32 (x.1:Nat),.int .u32 (x.2:Nat)])
   (fun s x=>0<s/\x=(dig N (s - 1),dig N' (s - 1))) (fun s _=>s - 1) (max n n') (fun s=>s=0) (fun _=>True) I:=by
 subst hF
 intro l J Jx W hJI hJ hJx hY h0
 have hmax:max n n'<=9223372036854775806:=by omega
 obtain⟨⟨hb1,hb2⟩,_,_⟩:=hI _ _ (hJI _ _ h0)
 refine callsIn_of_wp Tryz.func197 rfl trivial ?_ rfl
 simp only[Tryz.ntmps197,List.size_toArray,List.length_cons,List.length_nil,Nat.reduceAdd,Nat.reduceSub,Array.replicate_succ,Array.replicate_zero,List.push_toArray,List.append_toArray,List.nil_append,List.cons_append]
 gi_wp2
 all_goals
  gi_loopw [4] (fun i wr=>(i= .int .i64 (-1)/\J 0 wr)\/ ∃j:Nat,j<=9223372036854775805/\i= .int .i64 j/\J (j+1) wr) (fun i _=>(intOf i+1).toNat)
  case atStart=>
   first
   |exact zjk n' hn' (by rwa [Nat.max_eq_right (by omega)]at h0)
   |exact zjk n hn (by rwa [Nat.max_eq_left (by omega)]at h0)
  case round=>
   rcases hrel with⟨rfl,hJs⟩|⟨j,hj,rfl,hJs⟩
   ·gi_wp2
    go_end0
    exact⟨⟨_,rfl⟩,.inl ⟨0,rfl,hJs⟩⟩
   ·obtain⟨⟨hc1,hc2⟩,r1,r2⟩:=hI _ _ (hJI _ _ hJs)
    replace r1:Rd wr.drew g A n N:=r1
    replace r2:Rd wr.drew g A' n' N':=r2
    obtain⟨fn,tmps,assign,body,hy,hR⟩:=hY _ (dig N j,dig N' j) wr.drew (hJ _ _ _ hJs (zhj _ _)) ⟨by omega,by simp⟩
    dsimp only at hy
    gi_wp2
    gi_region_with (first
     |(refine⟨trivial,?_⟩;gi_at_call 198;(with_reducible refine(callsIn_wide.2 (zec _ _ A n c _ r1 _ (by omega))).mono ?_);rintro e w' ⟨rfl,rfl⟩;rw[Int.toNat_natCast])
     |(refine⟨trivial,?_⟩;gi_at_call 198;(with_reducible refine(callsIn_wide.2 (zec _ _ A' n' c' _ r2 _ (by omega))).mono ?_);rintro e w' ⟨rfl,rfl⟩;rw[Int.toNat_natCast])
     |(refine hR.mono ?_;rintro e W3 ⟨b,rfl,hb1,hb2⟩))
    all_goals
     have g1:=zvY hb1
     have g2:=zvY hb2
     clear hb1 hb2
     cases b
     ·gi_wp2
      refine bodyPost_ret (results_none rfl _ _ _) rfl ?_
      exact⟨⟨_,rfl⟩,.inr ⟨_,by first|exact g2.out rfl|exact g2.out trivial⟩⟩
     ·gi_wp2
      go_roundw
      case rel=>exact zjk j (by omega) (g1.out rfl)
      case measure=>simp[intOf]
def ztF (w:World)(A A':Option Addr)(n n' c c' N N':Nat)(s:Nat)(W:World):Prop:=
 ztE (w.heap.size+1) A A' n n' c c' N N' W/\Boxed W w.heap.size 3 (.int .i64 0)/\(∀j,s<=j->dig N j=dig N' j)/\Below w.heap.size w W
def zuK (w:World)(N N':Nat)(c:Code)(_:Nat)(W:World):Prop:=
 c= .exit 0/\Boxed W w.heap.size 3 (.int .i64 (zcj N N'))/\Below w.heap.size w W
theorem zpM {w:World}{A A':Option Addr}{n n' c c' N N' k:Nat}(hk:k=w.heap.size+3):OwnFrom k (ztF w A A' n n' c c' N N'):=by
 rintro s W W' row ⟨⟨⟨h1,h2⟩,h3,h4⟩,h5,h6,h7⟩ hg hr
 have hr':=fun r e=>(hr r e).2
 exact⟨⟨⟨cell_kept h1 hg hr',cell_kept h2 hg hr'⟩,h3.kept hg hr',h4.kept hg hr'⟩,za7 h5 hg hr',h6,h7.grown hg h7.size (fun r e=>by have:=(hr r e).1;omega)⟩
theorem zpN {w:World}{N N' k:Nat}(hk:k=w.heap.size+3)(c:Code):OwnFrom k (zuK w N N' c):=by
 rintro s W W' row ⟨h1,h5,h7⟩ hg hr
 have hr':=fun r e=>(hr r e).2
 exact⟨h1,za7 h5 hg hr',h7.grown hg h7.size (fun r e=>by have:=(hr r e).1;omega)⟩
theorem ztG (A A':Option Addr)(n n' c c' N N':Nat)(w:World)(hn:n<=9223372036854775806)(hn':n'<=9223372036854775806)(h:Rd w w.heap.size A n N)(h':Rd w w.heap.size A' n' N'):
  CallsIn Fence.wide 10 Tryz.prog 117 #[.slice A n c,.slice A' n' c'] w fun e w'=>e= .returned (.int .i64 (zcj N N'))/\Below w.heap.size w w':=by
 refine callsIn_of_wp_marks Tryz.func117 rfl trivial ?_ rfl
 simp only[Tryz.ntmps117,List.size_toArray,List.length_cons,List.length_nil,Nat.reduceAdd,Nat.reduceSub,Array.replicate_succ,Array.replicate_zero,List.push_toArray,List.append_toArray,List.nil_append,List.cons_append]
 gi_wp2
 apply zep
 gi_wp2
 refine wpIn_label ?_
 gi_wp2_with (refine⟨trivial,?_⟩;gi_at_call 157;refine(callsIn_wide.2 (callsIn_wide.1 (zjj A A' n n' c c' _))).mono ?_;rintro e w' ⟨rfl,rfl⟩)
 have bO:=Boxed.new w 3 (.int .i64 0)
 have b1:=Boxed.new (w.alloc (.cells #[.int .i64 0] 3)) 23 (.slice A n c)
 have b2:=Boxed.new ((w.alloc (.cells #[.int .i64 0] 3)).alloc (.cells #[.slice A n c] 23)) 23 (.slice A' n' c')
 rw[World.size_alloc]at b1
 rw[World.size_alloc,World.size_alloc]at b2
 have hB0:Below w.heap.size w (((w.alloc (.cells #[.int .i64 0] 3)).alloc (.cells #[.slice A n c] 23)).alloc (.cells #[.slice A' n' c'] 23)):=(((Below.refl _ w).alloc zv0 _).alloc (by simp) _).alloc (by simp;omega) _
 have hsz:(((w.alloc (.cells #[.int .i64 0] 3)).alloc (.cells #[.slice A n c] 23)).alloc (.cells #[.slice A' n' c'] 23)).heap.size=w.heap.size+3:=by simp
 replace bO:=(bO.alloc (.cells #[.slice A n c] 23)).alloc (.cells #[.slice A' n' c'] 23)
 replace b1:=b1.alloc (.cells #[.slice A' n' c'] 23)
 obtain⟨W0,hW0⟩:∃W0,((w.alloc (.cells #[.int .i64 0] 3)).alloc (.cells #[.slice A n c] 23)).alloc (.cells #[.slice A' n' c'] 23)=W0:=⟨_,rfl⟩
 rw[hW0]at bO b1 b2 hB0 hsz ⊢
 clear hW0
 have hI:∀s W,(ztF w A A' n n' c c' N N' s W)->ztE (w.heap.size+1) A A' n n' c c' N N' W:=fun s W h=>h.1
 refine za5 rfl (by omega) (gf:=197) (lb:= #[.pointer (some ⟨w.heap.size+1,0,none⟩),.pointer (some ⟨w.heap.size+1+1,0,none⟩)]) rfl trivial (enters_of Tryz.func197 (by kernel_rfl) rfl)
  (fun _=>rfl) (ztF w A A' n n' c c' N N') (zuK w N N') (zpM hsz) (zpN hsz)
  ⟨⟨⟨b1.cell,b2.cell⟩,(h.below hB0).more (by omega),(h'.below hB0).more (by omega)⟩,bO,(fun j hj=>by rw[zbN h.1 (by omega),zbN h'.1 (by omega)]),hB0⟩
  (zgg (w.heap.size+1) A A' n n' c c' N N' hn hn' _ hI Fence.wide rfl)
  (fun x=> { tmps:= #[.slice A n c,.slice A' n' c',undef,undef,.int .i64 0,.pointer (some ⟨w.heap.size,0,none⟩),.int .u32 (x.1:Nat),.int .u32 (x.2:Nat),.slice A n c,.slice A' n' c',.func (.func 197) #[] #[.pointer (some ⟨w.heap.size+1,0,none⟩),.pointer (some ⟨w.heap.size+1+1,0,none⟩)],.int .u32 (x.1:Nat),.int .u32 (x.2:Nat),undef,undef,undef,undef,undef,undef,undef,undef,undef],defers:=[] }) ?assign ?body ?done ?stop
 case assign=>
  intro l x W K hK
  gi_wp2
  exact hK
 case body=>
  rintro l s x W ⟨hB,bO1,hs1,hBl⟩ ⟨hs,rfl⟩
  obtain⟨j,rfl⟩:∃j,s=j+1:=⟨s - 1,by omega⟩
  have hO:=bO1.cell
  have hf:=bO1.frozen
  have HS:=zvY hs1
  clear hs1
  simp only[Nat.add_sub_cancel]
  rcases Nat.lt_trichotomy (dig N j) (dig N' j)with hlt|heq|hgt
  ·have HN:=zvY (zdD h.1 h'.1 (fun i hi=>HS.out i (by omega)) hlt)
   gi_wp2
   refine⟨(KeepsOthers.setCell _ _ _).from _,rfl,?_,hBl.setCell (p:=⟨w.heap.size,0,none⟩) zv0 _⟩
   rw[zfO HN.out]
   exact bO1.set _
  ·have HE:=zvY heq
   rw[heq]
   clear heq
   gi_wp2
   exact⟨KeepsFrom.refl _ _,hB,bO1,(fun i hi=>by
    rcases zv6 j i with h1|h1
    ·exact HS.out i (by omega)
    ·obtain rfl:i=j:=by omega
     exact HE.out),hBl⟩
  ·have HN:=zvY (zdD h'.1 h.1 (fun i hi=>(HS.out i (by omega)).symm) hgt)
   gi_wp2
   refine⟨(KeepsOthers.setCell _ _ _).from _,rfl,?_,hBl.setCell (p:=⟨w.heap.size,0,none⟩) zv0 _⟩
   rw[zmS HN.out]
   exact bO1.set _
 case done=>
  rintro D s W hD rfl ⟨hB,bO1,hs1,hBl⟩ hK
  have hO:=bO1.cell
  have HN:=zvY (zgF h.1 h'.1 (fun j=>hs1 j (Nat.zero_le _)))
  clear hs1
  gi_wp2
  rw[Exit.noGoto_ret]
  refine⟨by simp,.inl ⟨_,_,rfl,run_takeDeferred hK,?_⟩⟩
  exact⟨_,results_tmp rfl _ _ _,by rw[<-HN.out,zmT];rfl,hBl.trans (belowK_b (w:=w) zv0 W D _ _ (by omega) hK rfl rfl)⟩
 case stop=>
  rintro D c s W hD _ ⟨rfl,bO1,hBl⟩ hK
  have hO:=bO1.cell
  gi_wp2
  rw[Exit.noGoto_ret]
  refine⟨by simp,.inl ⟨_,_,rfl,run_takeDeferred hK,?_⟩⟩
  exact⟨_,results_tmp rfl _ _ _,rfl,hBl.trans (belowK_b (w:=w) zv0 W D _ _ (by omega) hK rfl rfl)⟩
theorem zg3 (A A':Option Addr)(n n' c c' N N':Nat)(w:World)(h:Rd w w.heap.size A n N)(h':Rd w w.heap.size A' n' N')(hn:n<=9223372036854775806)(hn':n'<=9223372036854775806):
  Calls Tryz.prog 117 #[.slice A n c,.slice A' n' c'] w fun e w'=>e= .returned (.int .i64 (zcj N N'))/\Below w.heap.size w w':=
 callsIn_wide.1 (ztG A A' n n' c c' N N' w hn hn' h h')
theorem zlP (w:World)(hi:Nat)(A:Option Addr)(n c N:Nat)(h:Rd w hi A n N)(k:Nat):
  Calls Tryz.prog 198 #[.slice A n c,.int .i64 k] w fun e w'=>e= .returned (.int .u32 (dig N k:Nat))/\w=w':=by
 have:=zec w hi A n c N h k (by omega)
 rwa [Int.toNat_natCast]at this
def zpO (f D V O T:Nat):Prop:=(f=203/\O=D/\T=D+V)\/(f=215/\O=D+V/\T=D)
theorem zpP {f D V O T:Nat}(hf:zpO f D V O T)(w:World)(k:Nat):
  Calls Tryz.prog f #[.int .u64 (dig O k:Nat),.int .u64 (dig V k:Nat),.int .u64 (car D V k:Nat)] w fun e w'=>e= .returned (.tuple #[.int .u32 (dig T k:Nat),.int .u64 (car D V (k+1):Nat)])/\w=w':=by
 have h:=zgY D V k
 have h1:=zav D k
 have h2:=zav V k
 have h3:=zav (D+V) k
 have h4:=zgb D V k
 rcases hf with⟨rfl,rfl,rfl⟩|⟨rfl,rfl,rfl⟩
 ·exact zpK w _ _ _ _ _ (by omega) (by omega) (by omega) (by omega) (by omega)
 ·exact znX w _ _ _ _ _ (by omega) (by omega) (by omega) (by omega) (by omega)
theorem zkt {f D V O T:Nat}(hf:zpO f D V O T):∀args w,(callFunc f args).run Tryz.prog w= .ok (.enter f args) w:=by
 rcases hf with⟨rfl,_⟩|⟨rfl,_⟩
 ·exact enters_of Tryz.func203 (by kernel_rfl) rfl
 ·exact enters_of Tryz.func215 (by kernel_rfl) rfl
theorem zhw (A A':Option Addr)(n n' c c' f:Nat)(w:World):
  CallsIn Fence.wide 0 Tryz.prog 202 #[.slice A n c,.slice A' n' c',.func (.func f) #[] #[]] w fun e w'=>
   e= .returned (.func (.func 227) #[] #[.pointer (some ⟨w.heap.size,0,none⟩),.pointer (some ⟨w.heap.size+1,0,none⟩),.pointer (some ⟨w.heap.size+1+1,0,none⟩)])/\
   w'=((w.alloc (.cells #[.slice A n c] 23)).alloc (.cells #[.slice A' n' c'] 23)).alloc (.cells #[.func (.func f) #[] #[]] 215):=by
 refine callsIn_wide.2 ?_
 go_enter Tryz.func202,Tryz.ntmps202
 go_wp2
 go_ret
 exact⟨rfl,rfl⟩
def Mid (W:World)(g:Nat)(A:Option Addr)(n k T O:Nat):Prop:=
 ∀j,j<n->A=some ⟨g,0,none⟩/\W.cell? ⟨g,j,none⟩=some (.int .u32 (if j<k then dig T j else dig O j:Nat))/\W.frozen? ⟨g,j,none⟩=false
def Cols (b g:Nat)(A A':Option Addr)(n n' c c' f V T O:Nat)(k:Nat)(W:World):Prop:=
 (W.cell? ⟨b,0,none⟩=some (.slice A n c)/\W.cell? ⟨b+1,0,none⟩=some (.slice A' n' c')/\W.cell? ⟨b+1+1,0,none⟩=some (.func (.func f) #[] #[]))/\Mid W g A n k T O/\Rd W g A' n' V
theorem zhx (b g:Nat)(A A':Option Addr)(n n' c c' f D V T O:Nat)(hn:n<=9223372036854775806)(hf:zpO f D V O T)(I:Nat->World->Prop)(hI:∀s W,I s W->Cols b g A A' n n' c c' f V T O s W)(F:Fence)(hF:F=Fence.wide):
  zfH F 9 Tryz.prog 227 #[.pointer (some ⟨b,0,none⟩),.pointer (some ⟨b+1,0,none⟩),.pointer (some ⟨b+1+1,0,none⟩)] (fun x:Nat×Nat=> #[.int .i64 (x.1:Nat),.int .u32 (x.2:Nat)])
   (fun s x=>s<n/\x=(s,dig T s)) (fun s _=>s+1) 0 (fun s=>∀j,s<=j->j<n->dig O j=dig T j) (fun _=>True) I:=by
 subst hF
 intro l J Jx W hJI hJ hJx hY h0
 obtain⟨⟨hb1,hb2,hb3⟩,_,hr0⟩:=hI _ _ (hJI _ _ h0)
 have hV:=zvY hr0.1
 clear hr0
 refine callsIn_of_wp Tryz.func227 rfl trivial ?_ rfl
 simp only[Tryz.ntmps227,List.size_toArray,List.length_cons,List.length_nil,Nat.reduceAdd,Nat.reduceSub,Array.replicate_succ,Array.replicate_zero,List.push_toArray,List.append_toArray,List.nil_append,List.cons_append]
 gi_wp2
 gi_loopw [6,10] (fun cy i wr=>∃k:Nat,k<=n/\i= .int .i64 k/\cy= .int .u64 (car D V k:Nat)/\J k wr) (fun _ i _=>n - (intOf i).toNat)
 case atStart=>exact⟨0,Nat.zero_le _,rfl,by rw[zfG];rfl,h0⟩
 case round=>
  obtain⟨k,hk,rfl,rfl,hJs⟩:=hrel
  obtain⟨⟨hc1,hc2,hc3⟩,hM,hR⟩:=hI _ _ (hJI _ _ hJs)
  by_cases hlt:k<n
  ·obtain⟨rfl,hc4,hf4⟩:=hM k hlt
   rw[if_neg (Nat.lt_irrefl k)]at hc4
   have hx:=zav O k
   have hy:=zav V k
   have hz:=zav T k
   have hcar:=zgb D V k
   by_cases hst:n'<=k/\car D V k=0
   ·obtain⟨hs1,hs2⟩:=hst
    have hS:∀j,k<=j->j<n->dig O j=dig T j:=fun j hj _=>by
     have:=zpq (D:=D) (V:=V) (zv3 hV.out (zv5 zb9 hs1)) hs2 hj
     rcases hf with⟨_,rfl,rfl⟩|⟨_,rfl,rfl⟩
     ·exact this.symm
     ·exact this
    have HS:=zvY hS
    have HF:=zvY hf
    clear hS hf hM
    rw[hs2]
    gi_wp2
    refine bodyPost_ret (results_none rfl _ _ _) rfl ?_
    exact⟨⟨_,rfl⟩,.inl ⟨k,HS.out,hJs⟩⟩
   ·have hgo:k<n'\/(n'<=k/\((car D V k:Int)==0)=false):=by
     rcases zv6 k n' with h1|h1
     ·exact .inl h1
     ·exact .inr ⟨h1,by have:car D V k≠0:=fun h=>hst ⟨h1,h⟩;simpa using this⟩
    have HF:=zvY hf
    clear hst hM hf
    have hRn:∀q,Rd (wr.drewN q) g A' n' V:=fun _=>hR
    have hw1:IntKind.u64.wrap (dig O k:Nat)=(dig O k:Nat):=by rw[zbT];omega
    have hw2:IntKind.u64.wrap (dig V k:Nat)=(dig V k:Nat):=by rw[zbT];omega
    have hent:=zkt HF.out
    rcases hgo with h1|⟨h1,h2⟩
    all_goals
     gi_wp2
     refine wpIn_wide.2 ?_
     go_quiet ((first
      |(go_at_call 198;exact zed (zlP _ g A' n' c' V (hRn _) k))
      |exact zed (zpP HF.out _ k)))
     clear hent hRn hw1 hw2 hc1 hc2 hc3 hc4 hf4 hb1 hb2 hb3 hR
     obtain⟨fn,tmps,assign,body,hy,hRd⟩:=hY k (k,dig T k) (wr.drewN nq) (hJ _ _ _ hJs (zaJ _ _ _)) ⟨hlt,rfl⟩
     dsimp only at hy
     gi_wp2
     refine hRd.mono ?_
     rintro e W3 ⟨b,rfl,hb1,hb2⟩
     have g1:=zvY hb1
     have g2:=zvY hb2
     clear hb1 hb2
     cases b
     ·gi_wp2
      refine bodyPost_ret (results_none rfl _ _ _) rfl ?_
      exact⟨⟨_,rfl⟩,.inr ⟨k+1,(by first|exact⟨trivial,g2.out (by first|rfl|trivial)⟩|exact g2.out (by first|rfl|trivial))⟩⟩
     ·gi_wp2
      go_roundw
      case rel=>exact⟨k+1,by omega,by go_num,rfl,g1.out (by first|rfl|trivial)⟩
      case measure=>simp[intOf];omega
  ·obtain rfl:k=n:=by omega
   clear hM
   gi_wp2
   go_end0
   exact⟨⟨_,rfl⟩,.inl ⟨k,fun j h1 h2=>by omega,hJs⟩⟩
theorem zeq (W:World)(p:Addr)(v:Value):W.grownBy (W.setCell p v) (some p.block):=
 ⟨rfl,rfl,rfl,(KeepsWalks.setCell W _ v).size,fun k _ hk=>Below.heap_setCell _ _ _ k (fun e=>hk (by rw[e]))⟩
def zuL (w:World)(q b g:Nat)(A A':Option Addr)(n n' c c' f V T O:Nat)(k:Nat)(W:World):Prop:=
 Cols b g A A' n n' c c' f V T O k W/\Boxed W q 23 (.slice A n c)/\Below g w W
theorem Mid.kept {W W':World}{g n k T O:Nat}{A:Option Addr}{row:Option Nat}(h:Mid W g A n k T O)(hg:W.grownBy W' row)(hrow:∀r,row=some r->∃o:Obj,W.heap[r]?=some o/\o.isCells=false):Mid W' g A n k T O:=
 fun j hj=>⟨(h j hj).1,cell_kept (h j hj).2.1 hg hrow,(frozen_kept (h j hj).2.1 hg hrow).trans (h j hj).2.2⟩
theorem Cols.kept {W W':World}{b g:Nat}{A A':Option Addr}{n n' c c' f V T O k:Nat}{row:Option Nat}(h:Cols b g A A' n n' c c' f V T O k W)(hg:W.grownBy W' row)(hrow:∀r,row=some r->∃o:Obj,W.heap[r]?=some o/\o.isCells=false):Cols b g A A' n n' c c' f V T O k W':=
 ⟨⟨cell_kept h.1.1 hg hrow,cell_kept h.1.2.1 hg hrow,cell_kept h.1.2.2 hg hrow⟩,h.2.1.kept hg hrow,h.2.2.kept hg hrow⟩
theorem Mid.write {W:World}{g n k T O:Nat}{A:Option Addr}(h:Mid W g A n k T O)(hk:k<n):Mid (W.setCell ⟨g,k,none⟩ (.int .u32 (dig T k:Nat))) g A n (k+1) T O:=by
 intro j hj
 obtain⟨h1,h2,h3⟩:=h j hj
 refine⟨h1,?_,by rw[World.frozen?_setCell];exact h3⟩
 by_cases e:j=k
 ·subst e
  rw[if_pos (by omega)]
  exact World.cell?_setCell_same' _ _ _ (by rw[h2];rfl)
 ·rw[World.cell?_setCell_other W ⟨g,k,none⟩ ⟨g,j,none⟩ _ (by first|(simp;done)|(simp;omega)),h2]
  by_cases e':j<k
  ·rw[if_pos e',if_pos (by omega)]
  ·rw[if_neg e',if_neg (by omega)]
theorem Mid.done {W:World}{lo g n k T O:Nat}{A:Option Addr}(h:Mid W g A n k T O)(hS:∀j,k<=j->j<n->dig O j=dig T j)(hT:T<Bw^n)(hlo:lo<=g):Fr W lo (g+1) A n T:=
 ⟨hT,fun hn=>⟨g,(h 0 hn).1,hlo,by omega,fun j hj=>by
  obtain⟨_,h2,h3⟩:=h j hj
  refine⟨?_,h3⟩
  rw[h2]
  by_cases e:j<k
  ·rw[if_pos e]
  ·rw[if_neg e,hS j (by omega) hj]⟩⟩
theorem zpQ {w:World}{q b g:Nat}{A A':Option Addr}{n n' c c' f V T O B:Nat}(hB:g<=B)(hw:g<=w.heap.size):OwnFrom B (zuL w q b g A A' n n' c c' f V T O):=by
 rintro s W W' row ⟨⟨⟨h1,h2,h3⟩,h4,h5⟩,h6,h7⟩ hg hr
 have hr':=fun r e=>(hr r e).2
 exact⟨⟨⟨cell_kept h1 hg hr',cell_kept h2 hg hr',cell_kept h3 hg hr'⟩,h4.kept hg hr',h5.kept hg hr'⟩,za7 h6 hg hr',h7.grown hg (zv2 hw h7.size) (fun r e=>by have:=(hr r e).1;omega)⟩
theorem ztH (b g:Nat)(A A':Option Addr)(n n' c c' f D V T O:Nat)(w:World)(hn:n<=9223372036854775806)(hf:zpO f D V O T)
  (hgb:0<n->g<b) (hgl:g<=b) (hb:b+2<w.heap.size) (hC:Cols b g A A' n n' c c' f V T O 0 w) (hT:T<Bw^n) (lo:Nat) (hlo:lo<=g):
  CallsIn Fence.wide 10 Tryz.prog 201 #[.slice A n c,.func (.func 227) #[] #[.pointer (some ⟨b,0,none⟩),.pointer (some ⟨b+1,0,none⟩),.pointer (some ⟨b+1+1,0,none⟩)]] w fun e w'=>
   (∃v,e= .returned v)/\Fr w' lo (g+1) A n T/\Below g w w':=by
 refine callsIn_of_wp_marks Tryz.func201 rfl trivial ?_ rfl
 simp only[Tryz.ntmps201,List.size_toArray,List.length_cons,List.length_nil,Nat.reduceAdd,Nat.reduceSub,Array.replicate_succ,Array.replicate_zero,List.push_toArray,List.append_toArray,List.nil_append,List.cons_append]
 gi_wp2
 have bx:=Boxed.new w 23 (.slice A n c)
 have hCw:Cols b g A A' n n' c c' f V T O 0 (w.alloc (.cells #[.slice A n c] 23)):=hC.kept (World.grownBy_alloc w _ none) (fun r e=>by cases e)
 have hB0:Below g w (w.alloc (.cells #[.slice A n c] 23)):=zv1.alloc (by omega) _
 have hsz:(w.alloc (.cells #[.slice A n c] 23)).heap.size=w.heap.size+1:=by simp
 obtain⟨W0,hW0⟩:∃W0,w.alloc (.cells #[.slice A n c] 23)=W0:=⟨_,rfl⟩
 rw[hW0]at bx hCw hB0 hsz ⊢
 clear hW0 hC
 refine za5 rfl (by omega) (gf:=227) (lb:= #[.pointer (some ⟨b,0,none⟩),.pointer (some ⟨b+1,0,none⟩),.pointer (some ⟨b+1+1,0,none⟩)]) rfl trivial (enters_of Tryz.func227 (by kernel_rfl) rfl)
  (fun _=>rfl) (zuL w w.heap.size b g A A' n n' c c' f V T O) (fun _ _ _=>False) (zpQ (by omega) (by omega)) (fun _ _ _ _ _ h _ _=>h)
  ⟨hCw,bx,hB0⟩
  (zhx b g A A' n n' c c' f D V T O hn hf _ (fun _ _ h=>h.1) Fence.wide rfl)
  (fun x=> { tmps:= #[.slice A n c,.func (.func 227) #[] #[.pointer (some ⟨b,0,none⟩),.pointer (some ⟨b+1,0,none⟩),.pointer (some ⟨b+1+1,0,none⟩)],.pointer (some ⟨w.heap.size,0,none⟩),undef,.int .i64 (x.1:Nat),.int .u32 (x.2:Nat),.func (.func 227) #[] #[.pointer (some ⟨b,0,none⟩),.pointer (some ⟨b+1,0,none⟩),.pointer (some ⟨b+1+1,0,none⟩)],.int .i64 (x.1:Nat),.int .u32 (x.2:Nat),undef,undef,undef,undef],defers:=[] }) ?assign ?body ?done ?stop
 case assign=>
  intro l x W K hK
  gi_wp2
  exact hK
 case body=>
  rintro l s x W ⟨⟨hcs,hM,hR⟩,hbx,hBl⟩ ⟨hs,rfl⟩
  obtain⟨rfl,hc,hf'⟩:=hM s hs
  have hgb:=hgb (by omega)
  have hcb:=hbx.cell
  have HM:=zvY hM
  have HC:=zvY hcs
  clear hM hcs hcb
  have hcb:=hbx.cell
  gi_wp2
  refine⟨(KeepsOthers.setCell _ _ _).from _,⟨⟨?_,?_,?_⟩,HM.out.write hs,hR.keep (fun p hp=>World.cell?_setCell_other _ _ _ _ (fun e=>by subst e;simp at hp))⟩,hbx.kept (zeq W ⟨g,s,none⟩ _) (by simp;omega),hBl.setCell (p:=⟨g,s,none⟩) zv0 _⟩
  ·rw[World.cell?_setCell_other W ⟨g,s,none⟩ ⟨b,0,none⟩ _ (by first|(simp;done)|(simp;omega))];exact HC.out.1
  ·rw[World.cell?_setCell_other W ⟨g,s,none⟩ ⟨b+1,0,none⟩ _ (by first|(simp;done)|(simp;omega))];exact HC.out.2.1
  ·rw[World.cell?_setCell_other W ⟨g,s,none⟩ ⟨b+1+1,0,none⟩ _ (by first|(simp;done)|(simp;omega))];exact HC.out.2.2
 case done=>
  rintro D s W hD hS ⟨⟨hcs,hM,hR⟩,hbx,hBl⟩ hK
  have HF:=zvY (hM.done hS hT hlo)
  clear hS hM hcs
  gi_wp2
  refine⟨by simp,.inl ⟨_,_,rfl,run_takeDeferred hK,?_⟩⟩
  exact⟨_,results_none rfl _ _ _,⟨_,rfl⟩,HF.out.kept (grownBy_putObj' _ D (.deferred none)) (fun r e=>by cases e;exact⟨_,hK,rfl⟩),hBl.trans (belowK_b (w:=w) (by omega) W D _ _ (by omega) hK rfl rfl)⟩
 case stop=>
  rintro D c s W _ _ h _
  exact h.elim
theorem Fr.mid {W:World}{lo hi g n T O:Nat}{A:Option Addr}(h:Fr W lo hi A n O)(hA:0<n->A=some ⟨g,0,none⟩):Mid W g A n 0 T O:=fun j hj=>by
 have e:=hA (by omega)
 obtain⟨g',e',_,_,hc⟩:=h.2 (by omega)
 rw[e]at e'
 cases e'
 exact⟨e,by rw[if_neg (by omega)];exact(hc j hj).1,(hc j hj).2⟩
end
theorem zku (w:World)(hi:Nat)(A:Option Addr)(c:Nat)(l:List Num)(h:Rds w hi A l)(hl:l.length<=100000000000000):
  Calls Tryz.prog 200 #[.slice A l.length c] w fun e w'=>e= .returned (.int .i64 (longestN l:Nat))/\w=w':=by
 go_enter Tryz.func200,Tryz.ntmps200
 go_wp2
 go_loop [3,8] (fun m i=>∃k:Nat,k<=l.length/\i= .int .i64 k/\m= .int .i64 (longAt l k:Nat)) (fun _ i=>l.length - (intOf i).toNat)
 case atStart=>exact⟨0,Nat.zero_le _,rfl,rfl⟩
 case round=>
  obtain⟨k,hk,rfl,rfl⟩:=hrel
  by_cases hlt:k<l.length
  ·obtain⟨⟨ad,rfl,_,hc⟩,hr,h1,h2,h3⟩:=h k hlt
   have HT:=zvY (zkf hlt)
   go_wp2_with (go_at_call 122;refine(zdE _ _ _ _ _ _ hr h1 (by simpa[maxLen]using h2)).mono ?_;rintro e w' ⟨rfl,rfl⟩)
   all_goals
    go_round
    case rel=>exact⟨k+1,by omega,by go_num,by rw[HT.out];go_num⟩
    case measure=>simp[intOf];omega
  ·obtain rfl:k=l.length:=by omega
   have HT:=zvY (zlB l)
   go_wp2
   go_ret
   exact⟨by rw[HT.out];rfl,rfl⟩
theorem zgI (wr:World)(g lo hi:Nat)(A A':Option Addr)(n n' c c' f D V T O:Nat)(hn:n<=9223372036854775806)(hf:zpO f D V O T)(hF:Fr wr lo hi A n O)(hA:0<n->A=some ⟨g,0,none⟩)
  (hR:Rd wr g A' n' V) (hT:T<Bw^n) (hlo:lo<=g) (hg:0<n->g<wr.heap.size) (hg':g<=wr.heap.size):
  Calls Tryz.prog 201 #[.slice A n c,.func (.func 227) #[] #[.pointer (some ⟨wr.heap.size,0,none⟩),.pointer (some ⟨wr.heap.size+1,0,none⟩),.pointer (some ⟨wr.heap.size+1+1,0,none⟩)]]
   (((wr.alloc (.cells #[.slice A n c] 23)).alloc (.cells #[.slice A' n' c'] 23)).alloc (.cells #[.func (.func f) #[] #[]] 215)) fun e w'=>
   (∃v,e= .returned v)/\Fr w' lo (g+1) A n T/\Below g wr w':=by
 have b1:=((Boxed.new wr 23 (.slice A n c)).alloc (.cells #[.slice A' n' c'] 23)).alloc (.cells #[.func (.func f) #[] #[]] 215)
 have b2:=(Boxed.new (wr.alloc (.cells #[.slice A n c] 23)) 23 (.slice A' n' c')).alloc (.cells #[.func (.func f) #[] #[]] 215)
 have b3:=Boxed.new ((wr.alloc (.cells #[.slice A n c] 23)).alloc (.cells #[.slice A' n' c'] 23)) 215 (.func (.func f) #[] #[])
 rw[World.size_alloc]at b2
 rw[World.size_alloc,World.size_alloc]at b3
 have hB:Below g wr (((wr.alloc (.cells #[.slice A n c] 23)).alloc (.cells #[.slice A' n' c'] 23)).alloc (.cells #[.func (.func f) #[] #[]] 215)):=(((Below.refl _ wr).alloc hg' _).alloc (by simp;omega) _).alloc (by simp;omega) _
 have hM:=((hF.mid (T:=T) hA).kept (World.grownBy_alloc wr (.cells #[.slice A n c] 23) none) (fun r e=>by cases e)).kept (World.grownBy_alloc _ (.cells #[.slice A' n' c'] 23) none) (fun r e=>by cases e)
 have hM':=hM.kept (World.grownBy_alloc _ (.cells #[.func (.func f) #[] #[]] 215) none) (fun r e=>by cases e)
 refine(callsIn_wide.1 (ztH wr.heap.size g A A' n n' c c' f D V T O _ hn hf hg hg' (by simp) ⟨⟨b1.cell,b2.cell,b3.cell⟩,hM',hR.below hB⟩ hT lo hlo)).mono ?_
 rintro e w' ⟨he,h1,h2⟩
 exact⟨he,h1,hB.trans h2⟩
theorem zg4 (w:World)(A:Option Addr)(c:Nat)(l:List Num)(h:Rds w w.heap.size A l)(hl:l.length<=100000000000000):
  Calls Tryz.prog 160 #[.slice A l.length c] w (Gives w (zbO l)):=by
 obtain⟨L,hL⟩:∃L,longestN l=L:=⟨_,rfl⟩
 have hLb:L<=35184372087808:=by
  rw[<-hL]
  refine zke (fun x hx=>?_)
  obtain⟨k,hk,rfl⟩:=List.getElem_of_mem hx
  obtain⟨_,h1,_,_,h2⟩:=h k hk
  exact zv2 (zai.2 h1.1) h2
 have hS:=zvY (show zbO l<Bw^(L+2) by rw[<-hL];exact zrJ hl)
 have hLn:=zku w _ A c l h hl
 rw[hL]at hLn
 have HL:=zvY hLn
 obtain⟨w1,hmk,hF1,hb1,hs1⟩:=zb6 w (L+2) (by omega)
 have HF1:=zvY hF1
 have HS1:=zvY hs1
 rw[show(((L+2:Nat)):Int)=(L:Int)+2 from by omega]at hmk
 clear hL hLn hF1 hs1
 go_enter Tryz.func160,Tryz.ntmps160
 go_wp2_with (go_at_call 200;refine HL.out.mono ?_;rintro e w' ⟨rfl,rfl⟩)
 clear hmk
 go_loopw [12] (fun i wr=>∃k:Nat,k<=l.length/\i= .int .i64 k/\Fr wr w.heap.size (w.heap.size+1) (some ⟨w.heap.size,0,none⟩) (L+2) (zdX l k)/\Below w.heap.size w wr/\w.heap.size<wr.heap.size) (fun i _=>l.length - (intOf i).toNat)
 case atStart=>exact⟨0,Nat.zero_le _,rfl,HF1.out,hb1,by have:=HS1.out;omega⟩
 case round=>
  obtain⟨k,hk,rfl,hF,hBl,hsz⟩:=hrel
  by_cases hlt:k<l.length
  ·obtain⟨⟨ad,rfl,hadb,hc⟩,hr,h1,h2,h3⟩:=(h.below hBl) k hlt
   have HT:=zvY (zhi hlt)
   go_wp2_with (go_at_call 202;refine(callsIn_wide.1 (zhw _ _ _ _ _ _ _ _)).mono ?_;rintro e w' ⟨rfl,rfl⟩)
   refine(zgI wr w.heap.size w.heap.size _ _ _ _ _ _ _ _ (zdX l k) l[k].N (zdX l k+l[k].N) (zdX l k) (by omega) (.inl ⟨rfl,rfl,rfl⟩) hF (fun _=>rfl) hr ?_ zv0 (fun _=>hsz) (by omega)).mono ?_
   ·rw[<-HT.out]
    exact zv4 (zkg l _) hS.out
   rintro e w' ⟨⟨v,rfl⟩,hF',hB'⟩
   have hF2:=zvY hF'
   clear hF'
   go_wp2
   go_roundw
   case rel=>exact⟨k+1,by omega,by go_num,by rw[HT.out];exact hF2.out,hBl.trans hB',zv3 hsz hB'.size⟩
   case measure=>simp[intOf];omega
  ·obtain rfl:k=l.length:=by omega
   rw[zir]at hF
   go_wp2_with (go_at_call 122;refine(zdE _ _ _ _ _ _ hF.rd zv0).mono ?_;rintro e w' ⟨rfl,rfl⟩)
   go_ret
   exact zcT (hF.more (by omega)) (by simp only[maxLen];omega) hBl
theorem ztI (w:World)(A A':Option Addr)(n n' c c' N M:Nat)(h:Rd w w.heap.size A n N)(h':Rd w w.heap.size A' n' M)(hn:n<=35184372087808)(hn':n'<=35184372087808)(hlt:N<M):
  Calls Tryz.prog 191 #[.slice A n c,.slice A' n' c'] w fun e w'=>e= .returned (.tuple #[.slice none 0 0,.int .i64 10])/\Below w.heap.size w w':=by
 have hC:=zg3 A A' n n' c c' N M w h h' (by omega) (by omega)
 rw[zfO hlt]at hC
 have HC:=zvY hC
 clear hC
 go_enter Tryz.func191,Tryz.ntmps191
 go_wp2_with (go_at_call 117;refine HC.out.mono ?_;rintro e w' ⟨rfl,hb⟩)
 go_ret2
 exact⟨rfl,hb⟩
theorem zg5 (w:World)(A A':Option Addr)(n n' c c' N M:Nat)(h:Rd w w.heap.size A n N)(h':Rd w w.heap.size A' n' M)(hn:n<=35184372087808)(hn':n'<=35184372087808)(hc:n<=c)(hcm:c<=maxLen)(hle:M<=N):
  Calls Tryz.prog 191 #[.slice A n c,.slice A' n' c'] w (zpS w (N - M)):=by
 have hC:=zg3 A A' n n' c c' N M w h h' (by omega) (by omega)
 have hcn:0<=zcj N M:=by unfold zcj;rw[if_neg (by omega)];split <;> omega
 obtain⟨r,hr⟩:∃r,zcj N M=r:=⟨_,rfl⟩
 rw[hr]at hC hcn
 have HC:=zvY hC
 have HE:=zvY (show N=N - M+M by omega)
 have hl:=zai.2 h.1
 clear hC hr
 go_enter Tryz.func191,Tryz.ntmps191
 go_wp2_with (go_at_call 117;refine HC.out.mono ?_;rintro e w1 ⟨rfl,hb1⟩)
 refine(zc1 w1 A n c N ((h.below hb1).more hb1.size) hc hcm hn).mono ?_
 rintro e w2 ⟨A2,c2,rfl,hc2,hm2,hF2,hb2⟩
 go_wp2_with (go_at_call 202;refine(callsIn_wide.1 (zhw _ _ _ _ _ _ _ _)).mono ?_;rintro e w' ⟨rfl,rfl⟩)
 obtain⟨g,hg1,hg2,hg3,hg4⟩:∃g,(0<lenL N->A2=some ⟨g,0,none⟩)/\w1.heap.size<=g/\(0<lenL N->g<w2.heap.size)/\g<=w2.heap.size:=by
  rcases zv7 (lenL N)with h0|h0
  ·exact⟨w2.heap.size,fun h=>by omega,hb2.size,fun h=>by omega,Nat.le_refl _⟩
  ·obtain⟨g,e,h1,h2,_⟩:=hF2.2 h0
   exact⟨g,fun _=>e,h1,fun _=>h2,by omega⟩
 have hb12:Below w.heap.size w w2:=hb1.trans (hb2.mono hb1.size)
 refine(zgI w2 g w.heap.size w2.heap.size A2 A' (lenL N) n' c2 c' 215 (N - M) M (N - M) N (by omega) (.inr ⟨rfl,HE.out,rfl⟩) (hF2.from hb1.size) hg1 ((h'.below hb12).more (zv2 hb1.size hg2)) (zv4 (Nat.sub_le _ _) (zaF N)) (zv2 hb1.size hg2) hg3 hg4).mono ?_
 rintro e w3 ⟨⟨v,rfl⟩,hF3,hb3⟩
 have hb03:Below w.heap.size w w3:=hb12.trans (hb3.mono (zv2 hb1.size hg2))
 have hgs:g<=w3.heap.size:=zv2 hg4 hb3.size
 go_wp2_with (go_at_call 122;refine(zdE _ _ _ _ _ _ hF3.rd hc2 (by simpa[maxLen]using hm2)).mono ?_;rintro e w' ⟨rfl,rfl⟩)
 go_ret2
 have hF4:Fr w3 w.heap.size w3.heap.size A2 (lenL N) (N - M):=by
  rcases zv7 (lenL N)with h0|h0
  ·exact⟨hF3.1,fun h=>by omega⟩
  ·exact hF3.more (by have:=hg3 h0;have:=hb3.size;omega)
 exact⟨_,_,rfl,Nat.le_refl _,zv2 (zaG (Nat.sub_le N M)) (zv2 hc2 hm2),hF4.cut,hb03⟩
end Go.Proofs.YtipckjmgdghkiaaGreatDoor
