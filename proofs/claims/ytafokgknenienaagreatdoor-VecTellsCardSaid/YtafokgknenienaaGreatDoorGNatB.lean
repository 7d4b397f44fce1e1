/- A part. -/
import Derived.Test.YtafokgknenienaaGreatDoorGNatA
set_option maxHeartbeats 2000000
set_option maxRecDepth 100000
namespace Go.Proofs.YtafokgknenienaaGreatDoor
open Go Go.RowKit
section
attribute [local go_sem] Oper.semAt_some
theorem zkb (w:World)(hi:Nat)(A:Option Addr)(n c N:Nat)(h:Rd w hi A n N)(k:Nat):
  Calls Tryz.prog 181 #[.slice A n c,.int .i64 k] w fun e w'=>e= .returned (.int .u32 (dig N k:Nat))∧w=w':=by
 have:=zdx w hi A n c N h k (by omega)
 rwa [Int.toNat_natCast]at this
def zny (f D V O T:Nat):Prop:=(f=170∧O=D∧T=D+V)∨(f=168∧O=D+V∧T=D)
theorem znz {f D V O T:Nat}(hf:zny f D V O T)(w:World)(k:Nat):
  Calls Tryz.prog f #[.int .u64 (dig O k:Nat),.int .u64 (dig V k:Nat),.int .u64 (car D V k:Nat)] w fun e w'=>e= .returned (.tuple #[.int .u32 (dig T k:Nat),.int .u64 (car D V (k+1):Nat)])∧w=w':=by
 have h:=zfZ D V k
 have h1:=zaA D k
 have h2:=zaA V k
 have h3:=zaA (D+V) k
 have h4:=zfi D V k
 rcases hf with⟨rfl,rfl,rfl⟩|⟨rfl,rfl,rfl⟩
 ·exact znu w _ _ _ _ _ (by omega) (by omega) (by omega) (by omega) (by omega)
 ·exact zl1 w _ _ _ _ _ (by omega) (by omega) (by omega) (by omega) (by omega)
theorem zi1 {f D V O T:Nat}(hf:zny f D V O T):∀args w,(callFunc f args).run Tryz.prog w= .ok (.enter f args) w:=by
 rcases hf with⟨rfl,_⟩|⟨rfl,_⟩
 ·exact enters_of Tryz.func170 (by kernel_rfl) rfl
 ·exact enters_of Tryz.func168 (by kernel_rfl) rfl
theorem zgk (A A':Option Addr)(n n' c c' f:Nat)(w:World):
  CallsIn Fence.wide 0 Tryz.prog 167 #[.slice A n c,.slice A' n' c',.func (.func f) #[] #[]] w fun e w'=>
   e= .returned (.func (.func 186) #[] #[.pointer (some ⟨w.heap.size,0,none⟩),.pointer (some ⟨w.heap.size+1,0,none⟩),.pointer (some ⟨w.heap.size+1+1,0,none⟩)])∧
   w'=((w.alloc (.cells #[.slice A n c] 23)).alloc (.cells #[.slice A' n' c'] 23)).alloc (.cells #[.func (.func f) #[] #[]] 160):=by
 refine callsIn_wide.2 ?_
 go_enter Tryz.func167,Tryz.ntmps167
 go_wp2
 go_ret
 exact⟨rfl,rfl⟩
def Mid (W:World)(g:Nat)(A:Option Addr)(n k T O:Nat):Prop:=
 ∀j,j<n→A=some ⟨g,0,none⟩∧W.cell? ⟨g,j,none⟩=some (.int .u32 (if j<k then dig T j else dig O j:Nat))∧W.frozen? ⟨g,j,none⟩=false
def Cols (b g:Nat)(A A':Option Addr)(n n' c c' f V T O:Nat)(k:Nat)(W:World):Prop:=
 (W.cell? ⟨b,0,none⟩=some (.slice A n c)∧W.cell? ⟨b+1,0,none⟩=some (.slice A' n' c')∧W.cell? ⟨b+1+1,0,none⟩=some (.func (.func f) #[] #[]))∧Mid W g A n k T O∧Rd W g A' n' V
theorem zgl (b g:Nat)(A A':Option Addr)(n n' c c' f D V T O:Nat)(hn:n≤9223372036854775806)(hf:zny f D V O T)(I:Nat→World→Prop)(hI:∀s W,I s W→Cols b g A A' n n' c c' f V T O s W)(F:Fence)(hF:F=Fence.wide):
  zeN F 9 Tryz.prog 186 #[.pointer (some ⟨b,0,none⟩),.pointer (some ⟨b+1,0,none⟩),.pointer (some ⟨b+1+1,0,none⟩)] (fun x:Nat×Nat=> #[.int .i64 (x.1:Nat),.int .u32 (x.2:Nat)])
   (fun s x=>s<n∧x=(s,dig T s)) (fun s _=>s+1) 0 (fun s=>∀j,s≤j→j<n→dig O j=dig T j) (fun _=>True) I:=by
 subst hF
 intro l J Jx W hJI hJ hJx hY h0
 obtain⟨⟨hb1,hb2,hb3⟩,_,hr0⟩:=hI _ _ (hJI _ _ h0)
 have hV:=zs9 hr0.1
 clear hr0
 refine callsIn_of_wp Tryz.func186 rfl trivial ?_ rfl
 simp only[Tryz.ntmps186,List.size_toArray,List.length_cons,List.length_nil,Nat.reduceAdd,Nat.reduceSub,Array.replicate_succ,Array.replicate_zero,List.push_toArray,List.append_toArray,List.nil_append,List.cons_append]
 gi_wp2
 gi_loopw [6,10] (fun cy i wr=>∃k:Nat,k≤n∧i= .int .i64 k∧cy= .int .u64 (car D V k:Nat)∧J k wr) (fun _ i _=>n - (intOf i).toNat)
 case atStart=>exact⟨0,Nat.zero_le _,rfl,by rw[zeM];rfl,h0⟩
 case round=>
  obtain⟨k,hk,rfl,rfl,hJs⟩:=hrel
  obtain⟨⟨hc1,hc2,hc3⟩,hM,hR⟩:=hI _ _ (hJI _ _ hJs)
  by_cases hlt:k<n
  ·obtain⟨rfl,hc4,hf4⟩:=hM k hlt
   rw[if_neg (Nat.lt_irrefl k)]at hc4
   have hx:=zaA O k
   have hy:=zaA V k
   have hz:=zaA T k
   have hcar:=zfi D V k
   by_cases hst:n'≤k∧car D V k=0
   ·obtain⟨hs1,hs2⟩:=hst
    have hS:∀j,k≤j→j<n→dig O j=dig T j:=fun j hj _=>by
     have:=znt (D:=D) (V:=V) (zte hV.out (ztg zbS hs1)) hs2 hj
     rcases hf with⟨_,rfl,rfl⟩|⟨_,rfl,rfl⟩
     ·exact this.symm
     ·exact this
    have HS:=zs9 hS
    have HF:=zs9 hf
    clear hS hf hM
    rw[hs2]
    gi_wp2
    refine bodyPost_ret (results_none rfl _ _ _) rfl ?_
    exact⟨⟨_,rfl⟩,.inl ⟨k,HS.out,hJs⟩⟩
   ·have hgo:k<n'∨(n'≤k∧((car D V k:Int)==0)=false):=by
     rcases zth k n' with h1|h1
     ·exact .inl h1
     ·exact .inr ⟨h1,by have:car D V k≠0:=fun h=>hst ⟨h1,h⟩;simpa using this⟩
    have HF:=zs9 hf
    clear hst hM hf
    have hRn:∀q,Rd (wr.drewN q) g A' n' V:=fun _=>hR
    have hw1:IntKind.u64.wrap (dig O k:Nat)=(dig O k:Nat):=by rw[zbD];omega
    have hw2:IntKind.u64.wrap (dig V k:Nat)=(dig V k:Nat):=by rw[zbD];omega
    have hent:=zi1 HF.out
    rcases hgo with h1|⟨h1,h2⟩
    all_goals
     gi_wp2
     refine wpIn_wide.2 ?_
     go_quiet ((first
      |(go_at_call 181;exact zdy (zkb _ g A' n' c' V (hRn _) k))
      |exact zdy (znz HF.out _ k)))
     clear hent hRn hw1 hw2 hc1 hc2 hc3 hc4 hf4 hb1 hb2 hb3 hR
     obtain⟨fn,tmps,assign,body,hy,hRd⟩:=hY k (k,dig T k) (wr.drewN nq) (hJ _ _ _ hJs (zaM _ _ _)) ⟨hlt,rfl⟩
     dsimp only at hy
     gi_wp2
     refine hRd.mono ?_
     rintro e W3 ⟨b,rfl,hb1,hb2⟩
     have g1:=zs9 hb1
     have g2:=zs9 hb2
     clear hb1 hb2
     cases b
     ·gi_wp2
      refine bodyPost_ret (results_none rfl _ _ _) rfl ?_
      exact⟨⟨_,rfl⟩,.inr ⟨k+1,(by first|exact⟨trivial,g2.out (by first|rfl|trivial)⟩|exact g2.out (by first|rfl|trivial))⟩⟩
     ·gi_wp2
      go_roundw
      case rel=>exact⟨k+1,by omega,by go_num,rfl,g1.out (by first|rfl|trivial)⟩
      case measure=>simp[intOf];omega
  ·obtain rfl:k=n:=by omega
   clear hM
   gi_wp2
   go_end0
   exact⟨⟨_,rfl⟩,.inl ⟨k,fun j h1 h2=>by omega,hJs⟩⟩
theorem zdI (W:World)(p:Addr)(v:Value):W.grownBy (W.setCell p v) (some p.block):=
 ⟨rfl,rfl,rfl,(KeepsWalks.setCell W _ v).size,fun k _ hk=>Below.heap_setCell _ _ _ k (fun e=>hk (by rw[e]))⟩
def zr1 (w:World)(q b g:Nat)(A A':Option Addr)(n n' c c' f V T O:Nat)(k:Nat)(W:World):Prop:=
 Cols b g A A' n n' c c' f V T O k W∧Boxed W q 23 (.slice A n c)∧Below g w W
theorem Mid.kept {W W':World}{g n k T O:Nat}{A:Option Addr}{row:Option Nat}(h:Mid W g A n k T O)(hg:W.grownBy W' row)(hrow:∀r,row=some r→∃o:Obj,W.heap[r]?=some o∧o.isCells=false):Mid W' g A n k T O:=
 fun j hj=>⟨(h j hj).1,cell_kept (h j hj).2.1 hg hrow,(frozen_kept (h j hj).2.1 hg hrow).trans (h j hj).2.2⟩
theorem Cols.kept {W W':World}{b g:Nat}{A A':Option Addr}{n n' c c' f V T O k:Nat}{row:Option Nat}(h:Cols b g A A' n n' c c' f V T O k W)(hg:W.grownBy W' row)(hrow:∀r,row=some r→∃o:Obj,W.heap[r]?=some o∧o.isCells=false):Cols b g A A' n n' c c' f V T O k W':=
 ⟨⟨cell_kept h.1.1 hg hrow,cell_kept h.1.2.1 hg hrow,cell_kept h.1.2.2 hg hrow⟩,h.2.1.kept hg hrow,h.2.2.kept hg hrow⟩
theorem Mid.write {W:World}{g n k T O:Nat}{A:Option Addr}(h:Mid W g A n k T O)(hk:k<n):Mid (W.setCell ⟨g,k,none⟩ (.int .u32 (dig T k:Nat))) g A n (k+1) T O:=by
 intro j hj
 obtain⟨h1,h2,h3⟩:=h j hj
 refine⟨h1,?_,by rw[World.frozen?_setCell];exact h3⟩
 by_cases e:j=k
 ·subst e
  rw[if_pos (by omega)]
  exact World.cell?_setCell_same' _ _ _ (by rw[h2];rfl)
 ·rw[World.cell?_setCell_other W ⟨g,k,none⟩ ⟨g,j,none⟩ _ (by first|(simp;done)|(simp;omega)),h2]
  by_cases e':j<k
  ·rw[if_pos e',if_pos (by omega)]
  ·rw[if_neg e',if_neg (by omega)]
theorem Mid.done {W:World}{lo g n k T O:Nat}{A:Option Addr}(h:Mid W g A n k T O)(hS:∀j,k≤j→j<n→dig O j=dig T j)(hT:T<Bw^n)(hlo:lo≤g):Fr W lo (g+1) A n T:=
 ⟨hT,fun hn=>⟨g,(h 0 hn).1,hlo,by omega,fun j hj=>by
  obtain⟨_,h2,h3⟩:=h j hj
  refine⟨?_,h3⟩
  rw[h2]
  by_cases e:j<k
  ·rw[if_pos e]
  ·rw[if_neg e,hS j (by omega) hj]⟩⟩
theorem znA {w:World}{q b g:Nat}{A A':Option Addr}{n n' c c' f V T O B:Nat}(hB:g≤B)(hw:g≤w.heap.size):OwnFrom B (zr1 w q b g A A' n n' c c' f V T O):=by
 rintro s W W' row ⟨⟨⟨h1,h2,h3⟩,h4,h5⟩,h6,h7⟩ hg hr
 have hr':=fun r e=>(hr r e).2
 exact⟨⟨⟨cell_kept h1 hg hr',cell_kept h2 hg hr',cell_kept h3 hg hr'⟩,h4.kept hg hr',h5.kept hg hr'⟩,za4 h6 hg hr',h7.grown hg (ztd hw h7.size) (fun r e=>by have:=(hr r e).1;omega)⟩
theorem zqZ (b g:Nat)(A A':Option Addr)(n n' c c' f D V T O:Nat)(w:World)(hn:n≤9223372036854775806)(hf:zny f D V O T)
  (hgb:0<n→g<b) (hgl:g≤b) (hb:b+2<w.heap.size) (hC:Cols b g A A' n n' c c' f V T O 0 w) (hT:T<Bw^n) (lo:Nat) (hlo:lo≤g):
  CallsIn Fence.wide 10 Tryz.prog 166 #[.slice A n c,.func (.func 186) #[] #[.pointer (some ⟨b,0,none⟩),.pointer (some ⟨b+1,0,none⟩),.pointer (some ⟨b+1+1,0,none⟩)]] w fun e w'=>
   (∃v,e= .returned v)∧Fr w' lo (g+1) A n T∧Below g w w':=by
 refine callsIn_of_wp_marks Tryz.func166 rfl trivial ?_ rfl
 simp only[Tryz.ntmps166,List.size_toArray,List.length_cons,List.length_nil,Nat.reduceAdd,Nat.reduceSub,Array.replicate_succ,Array.replicate_zero,List.push_toArray,List.append_toArray,List.nil_append,List.cons_append]
 gi_wp2
 have bx:=Boxed.new w 23 (.slice A n c)
 have hCw:Cols b g A A' n n' c c' f V T O 0 (w.alloc (.cells #[.slice A n c] 23)):=hC.kept (World.grownBy_alloc w _ none) (fun r e=>by cases e)
 have hB0:Below g w (w.alloc (.cells #[.slice A n c] 23)):=ztc.alloc (by omega) _
 have hsz:(w.alloc (.cells #[.slice A n c] 23)).heap.size=w.heap.size+1:=by simp
 obtain⟨W0,hW0⟩:∃W0,w.alloc (.cells #[.slice A n c] 23)=W0:=⟨_,rfl⟩
 rw[hW0]at bx hCw hB0 hsz ⊢
 clear hW0 hC
 refine za3 rfl (by omega) (gf:=186) (lb:= #[.pointer (some ⟨b,0,none⟩),.pointer (some ⟨b+1,0,none⟩),.pointer (some ⟨b+1+1,0,none⟩)]) rfl trivial (enters_of Tryz.func186 (by kernel_rfl) rfl)
  (fun _=>rfl) (zr1 w w.heap.size b g A A' n n' c c' f V T O) (fun _ _ _=>False) (znA (by omega) (by omega)) (fun _ _ _ _ _ h _ _=>h)
  ⟨hCw,bx,hB0⟩
  (zgl b g A A' n n' c c' f D V T O hn hf _ (fun _ _ h=>h.1) Fence.wide rfl)
  (fun x=> { tmps:= #[.slice A n c,.func (.func 186) #[] #[.pointer (some ⟨b,0,none⟩),.pointer (some ⟨b+1,0,none⟩),.pointer (some ⟨b+1+1,0,none⟩)],.pointer (some ⟨w.heap.size,0,none⟩),undef,.int .i64 (x.1:Nat),.int .u32 (x.2:Nat),.func (.func 186) #[] #[.pointer (some ⟨b,0,none⟩),.pointer (some ⟨b+1,0,none⟩),.pointer (some ⟨b+1+1,0,none⟩)],.int .i64 (x.1:Nat),.int .u32 (x.2:Nat),undef,undef,undef,undef],defers:=[] }) ?assign ?body ?done ?stop
 case assign=>
  intro l x W K hK
  gi_wp2
  exact hK
 case body=>
  rintro l s x W ⟨⟨hcs,hM,hR⟩,hbx,hBl⟩ ⟨hs,rfl⟩
  obtain⟨rfl,hc,hf'⟩:=hM s hs
  have hgb:=hgb (by omega)
  have hcb:=hbx.cell
  have HM:=zs9 hM
  have HC:=zs9 hcs
  clear hM hcs hcb
  have hcb:=hbx.cell
  gi_wp2
  refine⟨(KeepsOthers.setCell _ _ _).from _,⟨⟨?_,?_,?_⟩,HM.out.write hs,hR.keep (fun p hp=>World.cell?_setCell_other _ _ _ _ (fun e=>by subst e;simp at hp))⟩,hbx.kept (zdI W ⟨g,s,none⟩ _) (by simp;omega),hBl.setCell (p:=⟨g,s,none⟩) ztb _⟩
  ·rw[World.cell?_setCell_other W ⟨g,s,none⟩ ⟨b,0,none⟩ _ (by first|(simp;done)|(simp;omega))];exact HC.out.1
  ·rw[World.cell?_setCell_other W ⟨g,s,none⟩ ⟨b+1,0,none⟩ _ (by first|(simp;done)|(simp;omega))];exact HC.out.2.1
  ·rw[World.cell?_setCell_other W ⟨g,s,none⟩ ⟨b+1+1,0,none⟩ _ (by first|(simp;done)|(simp;omega))];exact HC.out.2.2
 case done=>
  rintro D s W hD hS ⟨⟨hcs,hM,hR⟩,hbx,hBl⟩ hK
  have HF:=zs9 (hM.done hS hT hlo)
  clear hS hM hcs
  gi_wp2
  refine⟨by simp,.inl ⟨_,_,rfl,run_takeDeferred hK,?_⟩⟩
  exact⟨_,results_none rfl _ _ _,⟨_,rfl⟩,HF.out.kept (grownBy_putObj' _ D (.deferred none)) (fun r e=>by cases e;exact⟨_,hK,rfl⟩),hBl.trans (belowK_b (w:=w) (by omega) W D _ _ (by omega) hK rfl rfl)⟩
 case stop=>
  rintro D c s W _ _ h _
  exact h.elim
theorem Fr.mid {W:World}{lo hi g n T O:Nat}{A:Option Addr}(h:Fr W lo hi A n O)(hA:0<n→A=some ⟨g,0,none⟩):Mid W g A n 0 T O:=fun j hj=>by
 have e:=hA (by omega)
 obtain⟨g',e',_,_,hc⟩:=h.2 (by omega)
 rw[e]at e'
 cases e'
 exact⟨e,by rw[if_neg (by omega)];exact(hc j hj).1,(hc j hj).2⟩
end
theorem zi2 (w:World)(hi:Nat)(A:Option Addr)(c:Nat)(l:List Num)(h:Rds w hi A l)(hl:l.length≤100000000000000):
  Calls Tryz.prog 169 #[.slice A l.length c] w fun e w'=>e= .returned (.int .i64 (longestN l:Nat))∧w=w':=by
 go_enter Tryz.func169,Tryz.ntmps169
 go_wp2
 go_loop [3,8] (fun m i=>∃k:Nat,k≤l.length∧i= .int .i64 k∧m= .int .i64 (longAt l k:Nat)) (fun _ i=>l.length - (intOf i).toNat)
 case atStart=>exact⟨0,Nat.zero_le _,rfl,rfl⟩
 case round=>
  obtain⟨k,hk,rfl,rfl⟩:=hrel
  by_cases hlt:k<l.length
  ·obtain⟨⟨ad,rfl,_,hc⟩,hr,h1,h2,h3⟩:=h k hlt
   have HT:=zs9 (ziV hlt)
   go_wp2_with (go_at_call 132;refine(zc7 _ _ _ _ _ _ hr h1 (by simpa[maxLen]using h2)).mono ?_;rintro e w' ⟨rfl,rfl⟩)
   all_goals
    go_round
    case rel=>exact⟨k+1,by omega,by go_num,by rw[HT.out];go_num⟩
    case measure=>simp[intOf];omega
  ·obtain rfl:k=l.length:=by omega
   have HT:=zs9 (zj8 l)
   go_wp2
   go_ret
   exact⟨by rw[HT.out];rfl,rfl⟩
theorem zfJ (wr:World)(g lo hi:Nat)(A A':Option Addr)(n n' c c' f D V T O:Nat)(hn:n≤9223372036854775806)(hf:zny f D V O T)(hF:Fr wr lo hi A n O)(hA:0<n→A=some ⟨g,0,none⟩)
  (hR:Rd wr g A' n' V) (hT:T<Bw^n) (hlo:lo≤g) (hg:0<n→g<wr.heap.size) (hg':g≤wr.heap.size):
  Calls Tryz.prog 166 #[.slice A n c,.func (.func 186) #[] #[.pointer (some ⟨wr.heap.size,0,none⟩),.pointer (some ⟨wr.heap.size+1,0,none⟩),.pointer (some ⟨wr.heap.size+1+1,0,none⟩)]]
   (((wr.alloc (.cells #[.slice A n c] 23)).alloc (.cells #[.slice A' n' c'] 23)).alloc (.cells #[.func (.func f) #[] #[]] 160)) fun e w'=>
   (∃v,e= .returned v)∧Fr w' lo (g+1) A n T∧Below g wr w':=by
 have b1:=((Boxed.new wr 23 (.slice A n c)).alloc (.cells #[.slice A' n' c'] 23)).alloc (.cells #[.func (.func f) #[] #[]] 160)
 have b2:=(Boxed.new (wr.alloc (.cells #[.slice A n c] 23)) 23 (.slice A' n' c')).alloc (.cells #[.func (.func f) #[] #[]] 160)
 have b3:=Boxed.new ((wr.alloc (.cells #[.slice A n c] 23)).alloc (.cells #[.slice A' n' c'] 23)) 160 (.func (.func f) #[] #[])
 rw[World.size_alloc]at b2
 rw[World.size_alloc,World.size_alloc]at b3
 have hB:Below g wr (((wr.alloc (.cells #[.slice A n c] 23)).alloc (.cells #[.slice A' n' c'] 23)).alloc (.cells #[.func (.func f) #[] #[]] 160)):=(((Below.refl _ wr).alloc hg' _).alloc (by simp;omega) _).alloc (by simp;omega) _
 have hM:=((hF.mid (T:=T) hA).kept (World.grownBy_alloc wr (.cells #[.slice A n c] 23) none) (fun r e=>by cases e)).kept (World.grownBy_alloc _ (.cells #[.slice A' n' c'] 23) none) (fun r e=>by cases e)
 have hM':=hM.kept (World.grownBy_alloc _ (.cells #[.func (.func f) #[] #[]] 160) none) (fun r e=>by cases e)
 refine(callsIn_wide.1 (zqZ wr.heap.size g A A' n n' c c' f D V T O _ hn hf hg hg' (by simp) ⟨⟨b1.cell,b2.cell,b3.cell⟩,hM',hR.below hB⟩ hT lo hlo)).mono ?_
 rintro e w' ⟨he,h1,h2⟩
 exact⟨he,h1,hB.trans h2⟩
theorem zf2 (w:World)(A:Option Addr)(c:Nat)(l:List Num)(h:Rds w w.heap.size A l)(hl:l.length≤100000000000000):
  Calls Tryz.prog 139 #[.slice A l.length c] w (Gives w (zbA l)):=by
 obtain⟨L,hL⟩:∃L,longestN l=L:=⟨_,rfl⟩
 have hLb:L≤35184372087808:=by
  rw[←hL]
  refine ziU (fun x hx=>?_)
  obtain⟨k,hk,rfl⟩:=List.getElem_of_mem hx
  obtain⟨_,h1,_,_,h2⟩:=h k hk
  exact ztd (zak.2 h1.1) h2
 have hS:=zs9 (show zbA l<Bw^(L+2) by rw[←hL];exact zps hl)
 have hLn:=zi2 w _ A c l h hl
 rw[hL]at hLn
 have HL:=zs9 hLn
 obtain⟨w1,hmk,hF1,hb1,hs1⟩:=zbM w (L+2) (by omega)
 have HF1:=zs9 hF1
 have HS1:=zs9 hs1
 rw[show(((L+2:Nat)):Int)=(L:Int)+2 from by omega]at hmk
 clear hL hLn hF1 hs1
 go_enter Tryz.func139,Tryz.ntmps139
 go_wp2_with (go_at_call 169;refine HL.out.mono ?_;rintro e w' ⟨rfl,rfl⟩)
 clear hmk
 go_loopw [12] (fun i wr=>∃k:Nat,k≤l.length∧i= .int .i64 k∧Fr wr w.heap.size (w.heap.size+1) (some ⟨w.heap.size,0,none⟩) (L+2) (zdo l k)∧Below w.heap.size w wr∧w.heap.size<wr.heap.size) (fun i _=>l.length - (intOf i).toNat)
 case atStart=>exact⟨0,Nat.zero_le _,rfl,HF1.out,hb1,by have:=HS1.out;omega⟩
 case round=>
  obtain⟨k,hk,rfl,hF,hBl,hsz⟩:=hrel
  by_cases hlt:k<l.length
  ·obtain⟨⟨ad,rfl,hadb,hc⟩,hr,h1,h2,h3⟩:=(h.below hBl) k hlt
   have HT:=zs9 (zgg hlt)
   go_wp2_with (go_at_call 167;refine(callsIn_wide.1 (zgk _ _ _ _ _ _ _ _)).mono ?_;rintro e w' ⟨rfl,rfl⟩)
   refine(zfJ wr w.heap.size w.heap.size _ _ _ _ _ _ _ _ (zdo l k) l[k].N (zdo l k+l[k].N) (zdo l k) (by omega) (.inl ⟨rfl,rfl,rfl⟩) hF (fun _=>rfl) hr ?_ ztb (fun _=>hsz) (by omega)).mono ?_
   ·rw[←HT.out]
    exact ztf (ziW l _) hS.out
   rintro e w' ⟨⟨v,rfl⟩,hF',hB'⟩
   have hF2:=zs9 hF'
   clear hF'
   go_wp2
   go_roundw
   case rel=>exact⟨k+1,by omega,by go_num,by rw[HT.out];exact hF2.out,hBl.trans hB',zte hsz hB'.size⟩
   case measure=>simp[intOf];omega
  ·obtain rfl:k=l.length:=by omega
   rw[zhf]at hF
   go_wp2_with (go_at_call 132;refine(zc7 _ _ _ _ _ _ hF.rd ztb (by omega)).mono ?_;rintro e w' ⟨rfl,rfl⟩)
   go_ret
   exact zcv (hF.more (by omega)) (by simp only[maxLen];omega) hBl
theorem zq0 (w:World)(A A':Option Addr)(n n' c c' N M:Nat)(h:Rd w w.heap.size A n N)(h':Rd w w.heap.size A' n' M)(hn:n≤35184372087808)(hn':n'≤35184372087808)(hlt:N<M):
  Calls Tryz.prog 137 #[.slice A n c,.slice A' n' c'] w fun e w'=>e= .returned (.tuple #[.slice none 0 0,.int .i64 10])∧Below w.heap.size w w':=by
 have hC:=zf1 A A' n n' c c' N M w h h' (by omega) (by omega)
 rw[zeQ hlt]at hC
 have HC:=zs9 hC
 clear hC
 go_enter Tryz.func137,Tryz.ntmps137
 go_wp2_with (go_at_call 127;refine HC.out.mono ?_;rintro e w' ⟨rfl,hb⟩)
 go_ret2
 exact⟨rfl,hb⟩
theorem zf3 (w:World)(A A':Option Addr)(n n' c c' N M:Nat)(h:Rd w w.heap.size A n N)(h':Rd w w.heap.size A' n' M)(hn:n≤35184372087808)(hn':n'≤35184372087808)(hc:n≤c)(hcm:c≤maxLen)(hle:M≤N):
  Calls Tryz.prog 137 #[.slice A n c,.slice A' n' c'] w (znC w (N - M)):=by
 have hC:=zf1 A A' n n' c c' N M w h h' (by omega) (by omega)
 have hcn:0≤zbT N M:=by unfold zbT;rw[if_neg (by omega)];split <;> omega
 obtain⟨r,hr⟩:∃r,zbT N M=r:=⟨_,rfl⟩
 rw[hr]at hC hcn
 have HC:=zs9 hC
 have HE:=zs9 (show N=N - M+M by omega)
 have hl:=zak.2 h.1
 clear hC hr
 go_enter Tryz.func137,Tryz.ntmps137
 go_wp2_with (go_at_call 127;refine HC.out.mono ?_;rintro e w1 ⟨rfl,hb1⟩)
 refine(zcE w1 A n c N ((h.below hb1).more hb1.size) hc hcm hn).mono ?_
 rintro e w2 ⟨A2,c2,rfl,hc2,hm2,hF2,hb2⟩
 go_wp2_with (go_at_call 167;refine(callsIn_wide.1 (zgk _ _ _ _ _ _ _ _)).mono ?_;rintro e w' ⟨rfl,rfl⟩)
 obtain⟨g,hg1,hg2,hg3,hg4⟩:∃g,(0<lenL N→A2=some ⟨g,0,none⟩)∧w1.heap.size≤g∧(0<lenL N→g<w2.heap.size)∧g≤w2.heap.size:=by
  rcases zti (lenL N)with h0|h0
  ·exact⟨w2.heap.size,fun h=>by omega,hb2.size,fun h=>by omega,Nat.le_refl _⟩
  ·obtain⟨g,e,h1,h2,_⟩:=hF2.2 h0
   exact⟨g,fun _=>e,h1,fun _=>h2,by omega⟩
 have hb12:Below w.heap.size w w2:=hb1.trans (hb2.mono hb1.size)
 refine(zfJ w2 g w.heap.size w2.heap.size A2 A' (lenL N) n' c2 c' 168 (N - M) M (N - M) N (by omega) (.inr ⟨rfl,HE.out,rfl⟩) (hF2.from hb1.size) hg1 ((h'.below hb12).more (ztd hb1.size hg2)) (ztf (Nat.sub_le _ _) (zaF N)) (ztd hb1.size hg2) hg3 hg4).mono ?_
 rintro e w3 ⟨⟨v,rfl⟩,hF3,hb3⟩
 have hb03:Below w.heap.size w w3:=hb12.trans (hb3.mono (ztd hb1.size hg2))
 have hgs:g≤w3.heap.size:=ztd hg4 hb3.size
 go_wp2_with (go_at_call 132;refine(zc7 _ _ _ _ _ _ hF3.rd hc2 (by simpa[maxLen]using hm2)).mono ?_;rintro e w' ⟨rfl,rfl⟩)
 go_ret2
 have hF4:Fr w3 w.heap.size w3.heap.size A2 (lenL N) (N - M):=by
  rcases zti (lenL N)with h0|h0
  ·exact⟨hF3.1,fun h=>by omega⟩
  ·exact hF3.more (by have:=hg3 h0;have:=hb3.size;omega)
 exact⟨_,_,rfl,Nat.le_refl _,ztd (zaJ (Nat.sub_le N M)) (ztd hc2 hm2),hF4.cut,hb03⟩
end Go.Proofs.YtafokgknenienaaGreatDoor
