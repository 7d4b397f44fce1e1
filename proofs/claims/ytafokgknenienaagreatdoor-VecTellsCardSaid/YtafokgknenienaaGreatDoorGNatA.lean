/- Contracts of package nat's functions. -/
import Derived.LoopNIn
import Derived.LoopIn
import Derived.Sort.QuietIn
import Derived.Test.YtafokgknenienaaGreatDoorGNum
set_option maxHeartbeats 2000000
set_option maxRecDepth 100000
namespace Go.Proofs.YtafokgknenienaaGreatDoor
open Go Go.RowKit
theorem zdx (w:World)(hi:Nat)(A:Option Addr)(n c N:Nat)(h:Rd w hi A n N)(i:Int)(h0:0≤i):
  Calls Tryz.prog 181 #[.slice A n c,.int .i64 i] w fun e w'=>e= .returned (.int .u32 (dig N i.toNat:Nat))∧w=w':=by
 obtain⟨k,rfl⟩:=Int.eq_ofNat_of_zero_le h0
 rw[Int.toNat_natCast]
 by_cases hk:k<n
 ·obtain⟨ad,rfl,_,hc⟩:=h.at_ hk
  go_enter Tryz.func181,Tryz.ntmps181
  go_wp2
  go_ret
  exact⟨rfl,rfl⟩
 ·have hd:=zbz h.1 (by omega:n≤k)
  rw[hd]
  go_enter Tryz.func181,Tryz.ntmps181
  go_wp2
  go_ret
  exact⟨rfl,rfl⟩
theorem znu (w:World)(x y z l b:Int)(hx:0≤x∧x<4294967296)(hy:0≤y∧y<4294967296)(hz:0≤z∧z≤1)(hl:0≤l∧l<4294967296)(h:x+y+z=l+4294967296*b):
  Calls Tryz.prog 170 #[.int .u64 x,.int .u64 y,.int .u64 z] w fun e w'=>e= .returned (.tuple #[.int .u32 l,.int .u64 b])∧w=w':=by
 have e1:(x+y+z)%4294967296=l:=by omega
 have e2:(x+y+z)/4294967296=b:=by omega
 have H1:=zs9 e1
 have H2:=zs9 e2
 clear e1 e2 h hl
 go_enter Tryz.func170,Tryz.ntmps170
 go_wp2
 rw[H1.out,H2.out]
 go_ret2
 exact⟨rfl,rfl⟩
theorem zka {x y z l b:Int}(hx:0≤x∧x<4294967296)(hy:0≤y∧y<4294967296)(hz:0≤z∧z≤1)(hl:0≤l∧l<4294967296)(h:x+4294967296*b=l+y+z):
  IntKind.u64.wrap (IntKind.u64.wrap (x - y) - z)%4294967296=l∧IntKind.u64.wrap (IntKind.u64.wrap (x - y) - z)/9223372036854775808=b:=by
 simp only[zbD];omega
theorem zl1 (w:World)(x y z l b:Int)(hx:0≤x∧x<4294967296)(hy:0≤y∧y<4294967296)(hz:0≤z∧z≤1)(hl:0≤l∧l<4294967296)(h:x+4294967296*b=l+y+z):
  Calls Tryz.prog 168 #[.int .u64 x,.int .u64 y,.int .u64 z] w fun e w'=>e= .returned (.tuple #[.int .u32 l,.int .u64 b])∧w=w':=by
 have H:=zs9 (zka hx hy hz hl h)
 clear h hl
 go_enter Tryz.func168,Tryz.ntmps168
 go_wp2
 rw[H.out.1,H.out.2]
 go_ret2
 exact⟨rfl,rfl⟩
theorem zc7 (w:World)(hi:Nat)(A:Option Addr)(n c N:Nat)(h:Rd w hi A n N)(hn:n≤c)(hc:c≤9223372036854775807):
  Calls Tryz.prog 132 #[.slice A n c] w fun e w'=>e= .returned (.slice (zey N A) (lenL N) (lenL N))∧w=w':=by
 go_enter Tryz.func132,Tryz.ntmps132
 go_wp2
 go_loop [3] (fun i=>∃k:Nat,k≤n∧i= .int .i64 k∧Hid (N<Bw^k)) (fun i=>(intOf i).toNat)
 case atStart=>exact⟨n,Nat.le_refl _,rfl,zs9 h.1⟩
 case round=>
  obtain⟨k,hk,rfl,hN⟩:=hrel
  rcases zti k with rfl|hpos
  ·have h0:N=0:=by simpa using hN.out
   subst h0
   go_wp2
   go_ret
   exact⟨rfl,rfl⟩
  ·obtain⟨j,rfl⟩:∃j,k=j+1:=⟨k - 1,by omega⟩
   obtain⟨ad,rfl,_,hcell⟩:=h.at_ (k:=j) (by omega)
   by_cases hd:dig N j=0
   ·rw[hd]at hcell
    go_wp2
    go_round
    case rel=>exact⟨j,by omega,by go_num,zs9 (zc5 hN.out hd)⟩
    case measure=>simp[intOf]
   ·have hb:((dig N j:Int)==0)=false:=by simpa using hd
    have hlen:=zs9 (zhU hN.out hd)
    have hN0: ¬N=0:=fun h0=>hd (by rw[h0];exact zbu j)
    clear hd
    go_wp2
    go_ret
    exact⟨by rw[hlen.out,zdn hN0];rfl,rfl⟩
theorem zcE (w:World)(A:Option Addr)(n c N:Nat)(h:Rd w w.heap.size A n N)(hn:n≤c)(hcm:c≤maxLen)(hb:n≤35184372087808):
  Calls Tryz.prog 152 #[.slice A n c] w (Gives w N):=by
 have hl:=zak.2 h.1
 have hc:c≤9223372036854775807:=by simpa[maxLen]using hcm
 have hlt:=zaF N
 by_cases h0:N=0
 ·have HL:=zs9 h0
  clear h0
  go_enter Tryz.func152,Tryz.ntmps152
  go_wp2_with (go_at_call 132;refine(zc7 _ _ A n c N h hn (by omega)).mono ?_;rintro e w' ⟨rfl,rfl⟩;rw[HL.out,zaU,zhe])
  go_ret
  exact⟨none,0,by rw[HL.out];rfl,by rw[HL.out];simp[lenL],by simp[maxLen],by rw[HL.out];exact Fr.nil,Below.refl _ _⟩
 ·obtain⟨m,hm⟩:∃m,lenL N=m+1:=⟨lenL N - 1,by have:=zbs (N:=N);omega⟩
  obtain⟨ad,rfl,_,_⟩:=h.at_ (k:=0) (by omega)
  have hcell:∀j u,(limbs N (lenL N))[j]?=some u→w.cell? (ad.add j)=some u:=fun j u hu=>by
   obtain⟨hj,rfl⟩:=zdp hu
   obtain⟨ad',e,_,hc'⟩:=h.at_ (k:=j) (by omega)
   cases e
   exact hc'
  have HC:=zs9 hcell
  have HT:=zs9 hlt
  have HN:=zs9 h0
  clear hcell hlt hm h0
  obtain⟨i0,hi,hz0,hz1,hz2⟩:=info_parts zbv
  go_enter Tryz.func152,Tryz.ntmps152
  go_wp2_with (first
   |(go_at_call 132;refine(zc7 _ _ (some ad) n c N h hn (by omega)).mono ?_;rintro e w' ⟨rfl,rfl⟩;rw[zdn HN.out])
   |(at_builtin;refine wpList_append_own _ rfl _ _ 23 rfl w.heap.size 50 i0 (.int .u32 0) 1 4 Tryz.underlying23 hi hz0 hz1 hz2 rfl (by decide) (.slice none 0 0) 0 [] rfl (World.ownsRow_nil _ _ _ _) ad (lenL N) (lenL N) (limbs N (lenL N)) rfl (by simp[zax]) HC.out zbX (by simp only[maxLen];omega) (by omega) ztb ?_;intro v' w1 hown' hgrow _))
  go_ret
  rw[Nat.zero_add,List.nil_append]at hown'
  obtain⟨A',c',rfl,h1,h2,h3⟩:=Fr.of_own hown' HT.out (fun j hj=>zb1 hj)
  exact⟨A',c',rfl,h1,h2,h3,ztc.grown hgrow ztb (by simp[Value.ownBlock])⟩
theorem zcv {w W:World}{A:Option Addr}{n N:Nat}(h:Fr W w.heap.size W.heap.size A n N)(hn:n≤maxLen)(hb:Below w.heap.size w W):
  Gives w N (.returned (.slice (zey N A) (lenL N) (lenL N))) W:=
 ⟨_,_,rfl,Nat.le_refl _,ztd (zak.2 h.1) hn,h.cut,hb⟩
theorem zfj (w:World)(N:Nat)(h:N<18446744073709551616):
  Calls Tryz.prog 97 #[.int .u64 N] w (Gives w N):=by
 have H:=zs9 (zgm h)
 go_enter Tryz.func97,Tryz.ntmps97
 go_wp2_with fail
 have hF:Fr (w.alloc (Obj.cells #[Value.int IntKind.u32 (↑N%4294967296),Value.int IntKind.u32 (↑N/4294967296)] 50)) w.heap.size (w.heap.size+1) (some ⟨w.heap.size,0,none⟩) 2 N:=
  Fr.lit ztb H.out.1 H.out.2
 refine(zc7 _ _ _ 2 2 N hF.rd (by omega) (by omega)).mono ?_
 rintro e w' ⟨rfl,rfl⟩
 go_wp2
 go_ret
 exact zcv (by simpa using hF) (by simp[maxLen]) (ztc.alloc ztb _)
theorem znv {x y:Nat}(hx:x<4294967296)(hy:y<4294967296):bits BinOp.or IntKind.u64 ((x:Int)*4294967296) y=((x*4294967296+y:Nat):Int):=by
 have e:((x:Int)*4294967296)=((x*4294967296:Nat):Int):=by omega
 rw[e,u64_or_nat (x*4294967296) y (by omega) (by omega)]
 have:x*4294967296 ||| y=x*4294967296+y:=by
  rw[show x*4294967296=x <<< 32 from by rw[Nat.shiftLeft_eq],Nat.shiftLeft_add_eq_or_of_lt hy]
 rw[this]
section
attribute [local go_sem] Oper.semAt_some
theorem zh1 (A A':Option Addr)(n n' c c':Nat)(w:World):
  CallsIn Fence.wide 0 Tryz.prog 159 #[.slice A n c,.slice A' n' c'] w fun e w'=>
   e= .returned (.func (.func 180) #[] #[.pointer (some ⟨w.heap.size,0,none⟩),.pointer (some ⟨w.heap.size+1,0,none⟩)])∧w'=(w.alloc (.cells #[.slice A n c] 23)).alloc (.cells #[.slice A' n' c'] 23):=by
 refine callsIn_wide.2 ?_
 go_enter Tryz.func159,Tryz.ntmps159
 go_wp2
 go_ret
 exact⟨rfl,rfl⟩
def zqW (g:Nat)(A A':Option Addr)(n n' c c' N N':Nat)(W:World):Prop:=
 (W.cell? ⟨g,0,none⟩=some (.slice A n c)∧W.cell? ⟨g+1,0,none⟩=some (.slice A' n' c'))∧Rd W g A n N∧Rd W g A' n' N'
theorem zh2 {J:Nat→World→Prop}{W:World}(n:Nat)(hn:n≤9223372036854775806)(h:J n W):
  (Value.int .i64 ((n:Int) - 1)= .int .i64 (-1)∧J 0 W)∨ ∃j:Nat,j≤9223372036854775805∧Value.int .i64 ((n:Int) - 1)= .int .i64 j∧J (j+1) W:=by
 rcases n with _|n
 ·exact .inl ⟨rfl,h⟩
 ·exact .inr ⟨n,by omega,by simp,h⟩
theorem zfk (g:Nat)(A A':Option Addr)(n n' c c' N N':Nat)(hn:n≤9223372036854775806)(hn':n'≤9223372036854775806)(I:Nat→World→Prop)(hI:∀s W,I s W→zqW g A A' n n' c c' N N' W)(F:Fence)(hF:F=Fence.wide):
  zeN F 9 Tryz.prog 180 #[.pointer (some ⟨g,0,none⟩),.pointer (some ⟨g+1,0,none⟩)] (fun x:Nat×Nat=> #[.int .u32 (x.1:Nat),.int .u32 (x.2:Nat)])
   (fun s x=>0<s∧x=(dig N (s - 1),dig N' (s - 1))) (fun s _=>s - 1) (max n n') (fun s=>s=0) (fun _=>True) I:=by
 subst hF
 intro l J Jx W hJI hJ hJx hY h0
 have hmax:max n n'≤9223372036854775806:=by omega
 obtain⟨⟨hb1,hb2⟩,_,_⟩:=hI _ _ (hJI _ _ h0)
 refine callsIn_of_wp Tryz.func180 rfl trivial ?_ rfl
 simp only[Tryz.ntmps180,List.size_toArray,List.length_cons,List.length_nil,Nat.reduceAdd,Nat.reduceSub,Array.replicate_succ,Array.replicate_zero,List.push_toArray,List.append_toArray,List.nil_append,List.cons_append]
 gi_wp2
 all_goals
  gi_loopw [4] (fun i wr=>(i= .int .i64 (-1)∧J 0 wr)∨ ∃j:Nat,j≤9223372036854775805∧i= .int .i64 j∧J (j+1) wr) (fun i _=>(intOf i+1).toNat)
  case atStart=>
   first
   |exact zh2 n' hn' (by rwa [Nat.max_eq_right (by omega)]at h0)
   |exact zh2 n hn (by rwa [Nat.max_eq_left (by omega)]at h0)
  case round=>
   rcases hrel with⟨rfl,hJs⟩|⟨j,hj,rfl,hJs⟩
   ·gi_wp2
    go_end0
    exact⟨⟨_,rfl⟩,.inl ⟨0,rfl,hJs⟩⟩
   ·obtain⟨⟨hc1,hc2⟩,r1,r2⟩:=hI _ _ (hJI _ _ hJs)
    replace r1:Rd wr.drew g A n N:=r1
    replace r2:Rd wr.drew g A' n' N':=r2
    obtain⟨fn,tmps,assign,body,hy,hR⟩:=hY _ (dig N j,dig N' j) wr.drew (hJ _ _ _ hJs (zgh _ _)) ⟨by omega,by simp⟩
    dsimp only at hy
    gi_wp2
    gi_region_with (first
     |(refine⟨trivial,?_⟩;gi_at_call 181;(with_reducible refine(callsIn_wide.2 (zdx _ _ A n c _ r1 _ (by omega))).mono ?_);rintro e w' ⟨rfl,rfl⟩;rw[Int.toNat_natCast])
     |(refine⟨trivial,?_⟩;gi_at_call 181;(with_reducible refine(callsIn_wide.2 (zdx _ _ A' n' c' _ r2 _ (by omega))).mono ?_);rintro e w' ⟨rfl,rfl⟩;rw[Int.toNat_natCast])
     |(refine hR.mono ?_;rintro e W3 ⟨b,rfl,hb1,hb2⟩))
    all_goals
     have g1:=zs9 hb1
     have g2:=zs9 hb2
     clear hb1 hb2
     cases b
     ·gi_wp2
      refine bodyPost_ret (results_none rfl _ _ _) rfl ?_
      exact⟨⟨_,rfl⟩,.inr ⟨_,by first|exact g2.out rfl|exact g2.out trivial⟩⟩
     ·gi_wp2
      go_roundw
      case rel=>exact zh2 j (by omega) (g1.out rfl)
      case measure=>simp[intOf]
def zqX (w:World)(A A':Option Addr)(n n' c c' N N':Nat)(s:Nat)(W:World):Prop:=
 zqW (w.heap.size+1) A A' n n' c c' N N' W∧Boxed W w.heap.size 3 (.int .i64 0)∧(∀j,s≤j→dig N j=dig N' j)∧Below w.heap.size w W
def zr0 (w:World)(N N':Nat)(c:Code)(_:Nat)(W:World):Prop:=
 c= .exit 0∧Boxed W w.heap.size 3 (.int .i64 (zbT N N'))∧Below w.heap.size w W
theorem znw {w:World}{A A':Option Addr}{n n' c c' N N' k:Nat}(hk:k=w.heap.size+3):OwnFrom k (zqX w A A' n n' c c' N N'):=by
 rintro s W W' row ⟨⟨⟨h1,h2⟩,h3,h4⟩,h5,h6,h7⟩ hg hr
 have hr':=fun r e=>(hr r e).2
 exact⟨⟨⟨cell_kept h1 hg hr',cell_kept h2 hg hr'⟩,h3.kept hg hr',h4.kept hg hr'⟩,za4 h5 hg hr',h6,h7.grown hg h7.size (fun r e=>by have:=(hr r e).1;omega)⟩
theorem znx {w:World}{N N' k:Nat}(hk:k=w.heap.size+3)(c:Code):OwnFrom k (zr0 w N N' c):=by
 rintro s W W' row ⟨h1,h5,h7⟩ hg hr
 have hr':=fun r e=>(hr r e).2
 exact⟨h1,za4 h5 hg hr',h7.grown hg h7.size (fun r e=>by have:=(hr r e).1;omega)⟩
theorem zqY (A A':Option Addr)(n n' c c' N N':Nat)(w:World)(hn:n≤9223372036854775806)(hn':n'≤9223372036854775806)(h:Rd w w.heap.size A n N)(h':Rd w w.heap.size A' n' N'):
  CallsIn Fence.wide 10 Tryz.prog 127 #[.slice A n c,.slice A' n' c'] w fun e w'=>e= .returned (.int .i64 (zbT N N'))∧Below w.heap.size w w':=by
 refine callsIn_of_wp_marks Tryz.func127 rfl trivial ?_ rfl
 simp only[Tryz.ntmps127,List.size_toArray,List.length_cons,List.length_nil,Nat.reduceAdd,Nat.reduceSub,Array.replicate_succ,Array.replicate_zero,List.push_toArray,List.append_toArray,List.nil_append,List.cons_append]
 gi_wp2
 apply zdH
 gi_wp2
 refine wpIn_label ?_
 gi_wp2_with (refine⟨trivial,?_⟩;gi_at_call 159;refine(callsIn_wide.2 (callsIn_wide.1 (zh1 A A' n n' c c' _))).mono ?_;rintro e w' ⟨rfl,rfl⟩)
 have bO:=Boxed.new w 3 (.int .i64 0)
 have b1:=Boxed.new (w.alloc (.cells #[.int .i64 0] 3)) 23 (.slice A n c)
 have b2:=Boxed.new ((w.alloc (.cells #[.int .i64 0] 3)).alloc (.cells #[.slice A n c] 23)) 23 (.slice A' n' c')
 rw[World.size_alloc]at b1
 rw[World.size_alloc,World.size_alloc]at b2
 have hB0:Below w.heap.size w (((w.alloc (.cells #[.int .i64 0] 3)).alloc (.cells #[.slice A n c] 23)).alloc (.cells #[.slice A' n' c'] 23)):=(((Below.refl _ w).alloc ztb _).alloc (by simp) _).alloc (by simp;omega) _
 have hsz:(((w.alloc (.cells #[.int .i64 0] 3)).alloc (.cells #[.slice A n c] 23)).alloc (.cells #[.slice A' n' c'] 23)).heap.size=w.heap.size+3:=by simp
 replace bO:=(bO.alloc (.cells #[.slice A n c] 23)).alloc (.cells #[.slice A' n' c'] 23)
 replace b1:=b1.alloc (.cells #[.slice A' n' c'] 23)
 obtain⟨W0,hW0⟩:∃W0,((w.alloc (.cells #[.int .i64 0] 3)).alloc (.cells #[.slice A n c] 23)).alloc (.cells #[.slice A' n' c'] 23)=W0:=⟨_,rfl⟩
 rw[hW0]at bO b1 b2 hB0 hsz ⊢
 clear hW0
 have hI:∀s W,(zqX w A A' n n' c c' N N' s W)→zqW (w.heap.size+1) A A' n n' c c' N N' W:=fun s W h=>h.1
 refine za3 rfl (by omega) (gf:=180) (lb:= #[.pointer (some ⟨w.heap.size+1,0,none⟩),.pointer (some ⟨w.heap.size+1+1,0,none⟩)]) rfl trivial (enters_of Tryz.func180 (by kernel_rfl) rfl)
  (fun _=>rfl) (zqX w A A' n n' c c' N N') (zr0 w N N') (znw hsz) (znx hsz)
  ⟨⟨⟨b1.cell,b2.cell⟩,(h.below hB0).more (by omega),(h'.below hB0).more (by omega)⟩,bO,(fun j hj=>by rw[zbz h.1 (by omega),zbz h'.1 (by omega)]),hB0⟩
  (zfk (w.heap.size+1) A A' n n' c c' N N' hn hn' _ hI Fence.wide rfl)
  (fun x=> { tmps:= #[.slice A n c,.slice A' n' c',undef,undef,.int .i64 0,.pointer (some ⟨w.heap.size,0,none⟩),.int .u32 (x.1:Nat),.int .u32 (x.2:Nat),.slice A n c,.slice A' n' c',.func (.func 180) #[] #[.pointer (some ⟨w.heap.size+1,0,none⟩),.pointer (some ⟨w.heap.size+1+1,0,none⟩)],.int .u32 (x.1:Nat),.int .u32 (x.2:Nat),undef,undef,undef,undef,undef,undef,undef,undef,undef],defers:=[] }) ?assign ?body ?done ?stop
 case assign=>
  intro l x W K hK
  gi_wp2
  exact hK
 case body=>
  rintro l s x W ⟨hB,bO1,hs1,hBl⟩ ⟨hs,rfl⟩
  obtain⟨j,rfl⟩:∃j,s=j+1:=⟨s - 1,by omega⟩
  have hO:=bO1.cell
  have hf:=bO1.frozen
  have HS:=zs9 hs1
  clear hs1
  simp only[Nat.add_sub_cancel]
  rcases Nat.lt_trichotomy (dig N j) (dig N' j)with hlt|heq|hgt
  ·have HN:=zs9 (zc6 h.1 h'.1 (fun i hi=>HS.out i (by omega)) hlt)
   gi_wp2
   refine⟨(KeepsOthers.setCell _ _ _).from _,rfl,?_,hBl.setCell (p:=⟨w.heap.size,0,none⟩) ztb _⟩
   rw[zeQ HN.out]
   exact bO1.set _
  ·have HE:=zs9 heq
   rw[heq]
   clear heq
   gi_wp2
   exact⟨KeepsFrom.refl _ _,hB,bO1,(fun i hi=>by
    rcases zth j i with h1|h1
    ·exact HS.out i (by omega)
    ·obtain rfl:i=j:=by omega
     exact HE.out),hBl⟩
  ·have HN:=zs9 (zc6 h'.1 h.1 (fun i hi=>(HS.out i (by omega)).symm) hgt)
   gi_wp2
   refine⟨(KeepsOthers.setCell _ _ _).from _,rfl,?_,hBl.setCell (p:=⟨w.heap.size,0,none⟩) ztb _⟩
   rw[zk3 HN.out]
   exact bO1.set _
 case done=>
  rintro D s W hD rfl ⟨hB,bO1,hs1,hBl⟩ hK
  have hO:=bO1.cell
  have HN:=zs9 (zfH h.1 h'.1 (fun j=>hs1 j (Nat.zero_le _)))
  clear hs1
  gi_wp2
  rw[Exit.noGoto_ret]
  refine⟨by simp,.inl ⟨_,_,rfl,run_takeDeferred hK,?_⟩⟩
  exact⟨_,results_tmp rfl _ _ _,by rw[←HN.out,zk4];rfl,hBl.trans (belowK_b (w:=w) ztb W D _ _ (by omega) hK rfl rfl)⟩
 case stop=>
  rintro D c s W hD _ ⟨rfl,bO1,hBl⟩ hK
  have hO:=bO1.cell
  gi_wp2
  rw[Exit.noGoto_ret]
  refine⟨by simp,.inl ⟨_,_,rfl,run_takeDeferred hK,?_⟩⟩
  exact⟨_,results_tmp rfl _ _ _,rfl,hBl.trans (belowK_b (w:=w) ztb W D _ _ (by omega) hK rfl rfl)⟩
theorem zf1 (A A':Option Addr)(n n' c c' N N':Nat)(w:World)(h:Rd w w.heap.size A n N)(h':Rd w w.heap.size A' n' N')(hn:n≤9223372036854775806)(hn':n'≤9223372036854775806):
  Calls Tryz.prog 127 #[.slice A n c,.slice A' n' c'] w fun e w'=>e= .returned (.int .i64 (zbT N N'))∧Below w.heap.size w w':=
 callsIn_wide.1 (zqY A A' n n' c c' N N' w hn hn' h h')
end
end Go.Proofs.YtafokgknenienaaGreatDoor
