/- A part. -/
import Derived.Test.YtipckjmgdghkiaaGreatDoorGSintB
set_option maxHeartbeats 8000000
set_option maxRecDepth 100000
namespace Go.Proofs.YtipckjmgdghkiaaGreatDoor
open Go Go.RowKit
section
attribute [local go_sem] Oper.semAt_some
theorem zrl (A:Option Addr)(n c:Nat)(w:World):
  CallsIn Fence.wide 0 Tryz.prog 158 #[.slice A n c] w fun e w'=>
   e= .returned (.func (.func 199) #[] #[.pointer (some ⟨w.heap.size,0,none⟩)])/\w'=w.alloc (.cells #[.slice A n c] 121):=by
 refine callsIn_wide.2 ?_
 go_enter Tryz.func158,Tryz.ntmps158
 go_wp2
 go_ret
 exact⟨rfl,rfl⟩
def fl (l:List (Bool×Num)):List (Bool×Num):=l.filter fun x=>decide (zP x≠0)
theorem zsJ {l:List (Bool×Num)}{k:Nat}(hk:k<l.length)(h:zP l[k]=0):fl (l.take (k+1))=fl (l.take k):=by
 unfold fl
 rw[List.take_add_one,List.getElem?_eq_getElem hk,List.filter_append]
 simp[h]
theorem zsK {l:List (Bool×Num)}{k:Nat}(hk:k<l.length)(h:zP l[k]≠0):fl (l.take (k+1))=fl (l.take k)++[l[k]]:=by
 unfold fl
 rw[List.take_add_one,List.getElem?_eq_getElem hk,List.filter_append]
 simp[h]
theorem zvw {l:List (Bool×Num)}{k:Nat}(hk:k<l.length)(h:zP l[k]≠0):(fl l)[(fl (l.take k)).length]?=some l[k]:=by
 have e:fl l=fl (l.take k)++fl (l.drop k):=by unfold fl;rw[<-List.filter_append,List.take_append_drop]
 rw[e,List.getElem?_append_right zv0,Nat.sub_self,List.drop_eq_getElem_cons hk]
 unfold fl
 rw[List.filter_cons_of_pos (by simp[h])]
 rfl
theorem zgy {x:Bool×Num}:plZ (zP x)=1↔zP x=0:=by
 unfold plZ
 split
 ·constructor <;> intro <;> omega
 ·split
  ·constructor <;> intro <;> first|assumption|rfl
  ·constructor <;> intro <;> omega
def zvx (b:Nat)(A:Option Addr)(c:Nat)(l:List (Bool×Num))(W:World):Prop:=W.cell? ⟨b,0,none⟩=some (.slice A l.length c)/\ZRds W W.heap.size A l
theorem zjP (b:Nat)(A:Option Addr)(c:Nat)(l:List (Bool×Num))(hl:l.length<=1000000)(I:Nat->World->Prop)(hI:∀s W,I s W->zvx b A c l W)(F:Fence)(hF:F=Fence.wide):
  zfH F 9 Tryz.prog 199 #[.pointer (some ⟨b,0,none⟩)] (fun x:Bool×Num=> #[.agg #[.bool x.1,.slice x.2.A x.2.n x.2.c,.int .i64 (plZ (zP x):Nat)]])
   (fun s x=>(fl l)[s]?=some x) (fun s _=>s+1) 0 (fun s=>s=(fl l).length) (fun _=>True) I:=by
 subst hF
 intro lp J Jx W hJI hJ hJx hY h0
 obtain⟨hb1,_⟩:=hI _ _ (hJI _ _ h0)
 refine callsIn_of_wp Tryz.func199 rfl trivial ?_ rfl
 simp only[Tryz.ntmps199,List.size_toArray,List.length_cons,List.length_nil,Nat.reduceAdd,Nat.reduceSub,Array.replicate_succ,Array.replicate_zero,List.push_toArray,List.append_toArray,List.nil_append,List.cons_append]
 gi_wp2
 gi_loopw [8] (fun i wr=>∃k:Nat,k<=l.length/\i= .int .i64 k/\J (fl (l.take k)).length wr) (fun i _=>l.length - (intOf i).toNat)
 case atStart=>exact⟨0,Nat.zero_le _,rfl,by simpa[fl]using h0⟩
 case round=>
  obtain⟨k,hk,rfl,hJs⟩:=hrel
  obtain⟨hc1,hR⟩:=hI _ _ (hJI _ _ hJs)
  by_cases hlt:k<l.length
  ·obtain⟨⟨ad,rfl,hab,hcb,hcs⟩,hok⟩:=hR k hlt
   rw[zgx]at hcs
   have hbA:Below wr.heap.size wr (wr.alloc (.cells #[.bool l[k].1,.slice l[k].2.A l[k].2.n l[k].2.c] 25)):=(Below.refl _ wr).alloc zv0 _
   have hok2:=hok.later hbA
   have ER:=zvY (zen (b:=l[k].1) (x:=l[k].2) _ hok2.1 hok2.2.1 hok2.2.2.1 hok2.2.2.2)
   rw[show zOf l[k].1 l[k].2.N=zP l[k]from rfl]at ER
   clear hok hok2 hbA
   gi_wp2_with fail
   refine⟨trivial,?_⟩
   refine(callsIn_wide.2 ER.out).mono ?_
   rintro e W2 ⟨rfl,hb2⟩
   have hG:wr.grownBy W2 none:=(World.grownBy_alloc wr (.cells #[.bool l[k].1,.slice l[k].2.A l[k].2.n l[k].2.c] 25) none).trans ⟨hb2.os,hb2.tape,hb2.output,hb2.size,fun k hk _=>hb2.block k hk⟩
   have HJ2:=zvY (fun v=>hJ _ _ _ hJs (hG.trans (World.grownBy_alloc W2 (.cells v 153) none)))
   have HC:=zvY (fun v=>(hI _ _ (hJI _ _ (HJ2.out v))).1)
   clear hb2 hG hcb hcs hc1
   by_cases hz:zP l[k]=0
   ·rw[zgy.2 hz]
    have HF:=zvY (zsJ hlt hz)
    clear hz
    gi_wp2
    refine⟨fun _ h=>(by cases h),?_⟩
    gi_wp2
    go_roundw
    case rel=>exact⟨k+1,by omega,by go_num,by rw[HF.out];exact HJ2.out _⟩
    case measure=>simp[intOf];omega
   ·obtain⟨fn,tmps,assign,body,hy,hRd⟩:=hY (fl (l.take k)).length l[k] _ (HJ2.out #[.bool l[k].1,.slice l[k].2.A l[k].2.n l[k].2.c,.int .i64 (plZ (zP l[k]):Nat)]) (zvw hlt hz)
    have h1: ¬plZ (zP l[k])=1:=fun h=>hz (zgy.1 h)
    have HF:=zvY (show(fl (l.take (k+1))).length=(fl (l.take k)).length+1 by rw[zsK hlt hz];simp)
    clear hz
    gi_wp2
    refine hRd.mono ?_
    rintro e W3 ⟨b,rfl,hb1,hb2⟩
    have g1:=zvY hb1
    have g2:=zvY hb2
    clear hb1 hb2
    cases b
    ·gi_wp2
     refine bodyPost_ret (results_none rfl _ _ _) rfl ?_
     exact⟨⟨_,rfl⟩,.inr ⟨_,trivial,g2.out trivial⟩⟩
    ·gi_wp2
     go_roundw
     case rel=>exact⟨k+1,by omega,by go_num,by rw[HF.out];exact g1.out trivial⟩
     case measure=>simp[intOf];omega
  ·obtain rfl:k=l.length:=by omega
   gi_wp2
   go_end0
   exact⟨⟨_,rfl⟩,.inl ⟨_,by rw[List.take_length],hJs⟩⟩
end
def pts (p:Nat)(l:List (Bool×Num)):List Num:=(l.filter fun x=>plZ (zP x)==p).map (·.2)
theorem zf6 (p:Nat)(l:List (Bool×Num))(x:Bool×Num):pts p (l++[x])=pts p l++(if plZ (zP x)=p then[x.2]else[]):=by
 unfold pts
 rw[List.filter_append,List.map_append]
 by_cases h:plZ (zP x)=p
 ·simp[h]
 ·simp[h]
theorem zsL {p:Nat}{l:List (Bool×Num)}{y:Num}(h:y∈pts p l):∃x∈l,x.2=y:=by
 unfold pts at h
 obtain⟨x,hx,rfl⟩:=List.mem_map.1 h
 exact⟨x,(List.mem_filter.1 hx).1,rfl⟩
theorem zjQ (p:Nat)(l:List (Bool×Num)):(pts p l).length<=l.length:=by
 unfold pts
 rw[List.length_map]
 exact List.length_filter_le _ _
theorem zmu (l:List (Bool×Num)):(fl l).length<=l.length:=List.length_filter_le _ _
theorem zuw {l:List (Bool×Num)}{x:Bool×Num}(h:x∈fl l):x∈l:=(List.mem_filter.1 h).1
theorem zd5 {α:Type}{l:List α}{k:Nat}{x:α}(h:l[k]?=some x):l.take (k+1)=l.take k++[x]:=by
 rw[List.take_add_one,h];rfl
theorem zvy (x:Bool×Num):zP x=(if plZ (zP x)=2 then(x.2.N:Int)else 0) - (if plZ (zP x)=0 then(x.2.N:Int)else 0):=by
 have h:=zbu x.1 x.2.N
 unfold plZ zP at*
 cases hb:x.1
 ·rw[hb,zbQ]at*
  split <;> (try split) <;> simp <;> omega
 ·rw[hb,zce]at*
  split <;> (try split) <;> simp <;> omega
theorem ziV (x:Num)(l:List Num):zbO (x::l)=x.N+zbO l:=by simp[zbO]
theorem zlf (p:Nat)(x:Bool×Num)(l:List (Bool×Num)):pts p (x::l)=(if plZ (zP x)=p then[x.2]else[])++pts p l:=by
 unfold pts
 by_cases h:plZ (zP x)=p
 ·simp[h]
 ·simp[h]
theorem ziW:∀l:List (Bool×Num),zdl l=(zbO (pts 2 (fl l)):Int) - (zbO (pts 0 (fl l)):Int)
 |[]=>by simp[zdl,fl,pts,zbO]
 |x::l=>by
  have ih:=ziW l
  have e:zdl (x::l)=zP x+zdl l:=by simp[zdl]
  rw[e,ih]
  by_cases h:zP x=0
  ·have ef:fl (x::l)=fl l:=by unfold fl;rw[List.filter_cons_of_neg (by simp[h])]
   rw[ef,h,Int.zero_add]
  ·have ef:fl (x::l)=x::fl l:=by unfold fl;rw[List.filter_cons_of_pos (by simp[h])]
   have hz:=zvy x
   rw[ef,zlf,zlf]
   generalize fl l=m at*
   by_cases h2:plZ (zP x)=2
   ·have h0: ¬plZ (zP x)=0:=by omega
    rw[if_pos h2,if_neg h0]at hz
    rw[if_pos h2,if_neg h0,List.singleton_append,ziV,List.nil_append]
    omega
   ·by_cases h0:plZ (zP x)=0
    ·rw[if_neg h2,if_pos h0]at hz
     rw[if_neg h2,if_pos h0,List.singleton_append,ziV,List.nil_append]
     omega
    ·rw[if_neg h2,if_neg h0]at hz
     omega
theorem ZRds.kept {W W':World}{hi:Nat}{A:Option Addr}{l:List (Bool×Num)}{row:Option Nat}(h:ZRds W hi A l)(hg:W.grownBy W' row)(hrow:∀r,row=some r->∃o:Obj,W.heap[r]?=some o/\o.isCells=false):ZRds W' hi A l:=fun k hk=>by
 obtain⟨⟨ad,e,h1,h2,h3⟩,h4⟩:=h k hk
 exact⟨⟨ad,e,h1,cell_kept h2 hg hrow,cell_kept h3 hg hrow⟩,h4.1.kept hg hrow,h4.2⟩
theorem Box3.own {W W':World}{B:Nat}{t:TypeId}{a b c:Value}{row:Option Nat}(h:Box3 W B t a b c)(hg:W.grownBy W' row)(hrow:∀r,row=some r->∃o:Obj,W.heap[r]?=some o/\o.isCells=false):Box3 W' B t a b c:=
 h.kept hg (fun e=>zjX h (hrow B e.symm) rfl)
structure AddI (W1:World) (g bl:Nat) (A:Option Addr) (c:Nat) (l:List (Bool×Num)) (k:Nat) (W:World):Prop where
 src:W.cell? ⟨bl,0,none⟩=some (.slice A l.length c)
 below:Below g W1 W
 size:W1.heap.size<=W.heap.size
 rows:∃v0 v2,Box3 W g 160 v0 (.slice none 0 0) v2/\W.ownsRow W1.heap.size 23 1 v0 (pts 0 ((fl l).take k)).length (zf9 (pts 0 ((fl l).take k)))/\
  W.ownsRow W1.heap.size 23 1 v2 (pts 2 ((fl l).take k)).length (zf9 (pts 2 ((fl l).take k)))/\∀b,v0.ownBlock=some b->v2.ownBlock≠some b
theorem zhT {W1:World}{g bl c B:Nat}{A:Option Addr}{l:List (Bool×Num)}(hB:g<=B)(hg1:g<=W1.heap.size):OwnFrom B (AddI W1 g bl A c l):=by
 rintro s W W' row ⟨h1,h3,h4,v0,v2,h5,h6,h7,h8⟩ hg hr
 have hr':=fun r e=>(hr r e).2
 exact⟨cell_kept h1 hg hr',h3.grown hg (by omega) (fun r e=>by have:=(hr r e).1;omega),zv2 h4 hg.size,v0,v2,h5.own hg hr',zgA h6 hg hr',zgA h7 hg hr',h8⟩
theorem zhU:160≠23:=by decide
theorem zoY {W1 W:World}{g bl c k p:Nat}{A:Option Addr}{l:List (Bool×Num)}{x:Bool×Num}(hI:AddI W1 g bl A c l k W)(hx:(fl l)[k]?=some x)(hp:plZ (zP x)=p)(hp2:p=0\/p=2)(hg:g+2=W1.heap.size)(hbl:bl+1=W1.heap.size)(hl:l.length<=1000000)(q g0:Nat)(hg0:W.heap.size=g0):
  ∃v0 v2 vp v' WC,Box3 W g 160 v0 (.slice none 0 0) v2/\W.cell? ⟨g,p,none⟩=some vp/\(Builtin.append_ #[159,159] 159 #[vp,.slice (some ⟨g0,0,none⟩) 1 1]).run Tryz.prog ((W.drewN q).alloc (.cells #[.slice x.2.A x.2.n x.2.c] 23))= .ok v' WC/\
   (∀(b:Nat) (T:TypeId) (cs:Array Value),T≠23->W.heap[b]?=some (.cells cs T (0,0))->WC.heap[b]?=some (.cells cs T (0,0)))/\AddI W1 g bl A c l (k+1) (WC.setCell ⟨g,p,none⟩ v')/\KeepsFrom W1.heap.size W (WC.setCell ⟨g,p,none⟩ v')/\∃A' n' c',v'= .slice A' n' c':=by
 obtain⟨h1,h3,h4,v0,v2,h5,h6,h7,h8⟩:=hI
 have hlen:∀p,(pts p ((fl l).take k)).length<=1000000:=fun p=>by
  have e1:=zjQ p ((fl l).take k)
  have e2:=zmu l
  rw[List.length_take]at e1
  omega
 obtain⟨c1,c2,c3,-⟩:=h5.cells
 rcases hp2 with rfl|rfl
 ·obtain⟨v',WC,r1,r2,r3,r4⟩:=zha h6 h4 (hlen 0) x.2 hg0 q
  have b5:Box3 WC g 160 v0 (.slice none 0 0) v2:=zd6 h6 r3 h5 zhU
  have h7':=h7.kept r3 (by
   cases e0:v0.ownBlock with
   |none=>cases e2:v2.ownBlock with
    |none=>exact .inl rfl
    |some b=>exact .inr (by simp)
   |some b=>exact .inr (h8 b e0))
  have hs:=r3.size
  refine⟨v0,v2,v0,v',WC,h5,c1,r1,fun b T cs hT hb=>zd6 h6 r3 hb hT,⟨?_,?_,?_,v',v2,?_,?_,?_,?_⟩,?_,zii r2⟩
  ·rw[World.cell?_setCell_other _ _ _ _ (by intro e;injection e with e;omega)]
   rw[World.cell?_of_block (r3.block bl (by omega) (zo6 h6 (by omega)))]
   exact h1
  ·exact((h3.grown r3 (by omega) (fun j hj=>by have:=(h6.lt j hj).1;omega)).setCell (p:=⟨g,0,none⟩) zv0 _)
  ·rw[World.size_setCell];omega
  ·exact Box3.step 0 _ _ b5
  ·rw[zd5 hx,zf6,if_pos hp]
   exact r2.kept (zbA WC g 0 v') (zes r2 (by omega))
  ·rw[zd5 hx,zf6,if_neg (by omega),List.append_nil]
   exact h7'.kept (zbA WC g 0 v') (zes h7' (by omega))
  ·intro b hb
   rcases r4 with r4|⟨j,r4,hj⟩
   ·exact h8 b (by rw[<-r4];exact hb)
   ·rw[r4]at hb
    cases hb
    intro e2
    have:=zo7 h7 _ e2
    omega
  ·exact(zdB r3 (zfe h6)).trans (zdB (zbA WC g 0 v') (fun j hj=>by cases hj;exact⟨_,_,_,b5⟩))
 ·obtain⟨v',WC,r1,r2,r3,r4⟩:=zha h7 h4 (hlen 2) x.2 hg0 q
  have b5:Box3 WC g 160 v0 (.slice none 0 0) v2:=zd6 h7 r3 h5 zhU
  have h6':=h6.kept r3 (by
   cases e0:v0.ownBlock with
   |none=>exact .inl rfl
   |some b=>exact .inr (fun e2=>h8 b e0 e2.symm))
  have hs:=r3.size
  refine⟨v0,v2,v2,v',WC,h5,c3,r1,fun b T cs hT hb=>zd6 h7 r3 hb hT,⟨?_,?_,?_,v0,v',?_,?_,?_,?_⟩,?_,zii r2⟩
  ·rw[World.cell?_setCell_other _ _ _ _ (by intro e;injection e with e;omega)]
   rw[World.cell?_of_block (r3.block bl (by omega) (zo6 h7 (by omega)))]
   exact h1
  ·exact((h3.grown r3 (by omega) (fun j hj=>by have:=(h7.lt j hj).1;omega)).setCell (p:=⟨g,2,none⟩) zv0 _)
  ·rw[World.size_setCell];omega
  ·exact Box3.step 2 _ _ b5
  ·rw[zd5 hx,zf6,if_neg (by omega),List.append_nil]
   exact h6'.kept (zbA WC g 2 v') (zes h6' (by omega))
  ·rw[zd5 hx,zf6,if_pos hp]
   exact r2.kept (zbA WC g 2 v') (zes r2 (by omega))
  ·intro b hb
   rcases r4 with r4|⟨j,r4,hj⟩
   ·rw[r4];exact h8 b hb
   ·rw[r4]
    intro e2
    cases e2
    have:=zo7 h6 _ hb
    omega
  ·exact(zdB r3 (zfe h7)).trans (zdB (zbA WC g 2 v') (fun j hj=>by cases hj;exact⟨_,_,_,b5⟩))
section
variable {w W:World}{e:List Num}{x y:Num}
theorem zhV (h:Env w e W)(hx:x∈e)(hy:y∈e)(hle:y.N<=x.N):
  Calls Tryz.prog 191 #[.slice x.A x.n x.c,.slice y.A y.n y.c] W fun e' W'=>∃r:Num,e'= .returned (.tuple #[.slice r.A r.n r.c,.int .i64 0])/\r.N=x.N - y.N/\r.n=lenL (x.N - y.N)/\Env w (r::e) W':=by
 obtain⟨h1,h2,h3,h4⟩:=h.2 x hx
 refine(zg5 W _ _ _ _ _ _ _ _ h1 (h.2 y hy).1 h4 (h.2 y hy).2.2.2 h2 h3 hle).mono fun e' W' hg=>?_
 obtain⟨A,c,rfl,hc,hm,hF,hb⟩:=hg
 have hl:=zaG (Nat.sub_le x.N y.N)
 have hl2:=zai.2 h1.1
 exact⟨⟨A,lenL (x.N - y.N),c,x.N - y.N⟩,rfl,rfl,rfl,(h.step hb).add (hF.ok hc hm (by omega))⟩
theorem zoZ (h:Env w e W)(hx:x∈e)(hy:y∈e)(hlt:x.N<y.N):
  Calls Tryz.prog 191 #[.slice x.A x.n x.c,.slice y.A y.n y.c] W fun e' W'=>e'= .returned (.tuple #[.slice none 0 0,.int .i64 10])/\Env w e W':=
 (ztI W _ _ _ _ _ _ _ _ (h.2 x hx).1 (h.2 y hy).1 (h.2 x hx).2.2.2 (h.2 y hy).2.2.2 hlt).mono fun _ _ ⟨he,hb⟩=>⟨he,h.step hb⟩
theorem zux (h:Env w e W)(hx:x∈e)(hy:y∈e):
  Calls Tryz.prog 159 #[.slice x.A x.n x.c,.slice y.A y.n y.c] W (Zs w e ((x.N:Int) - (y.N:Int))):=by
 obtain⟨Z,hZ⟩:∃Z,(x.N:Int) - (y.N:Int)=Z:=⟨_,rfl⟩
 rw[hZ]
 have HO:=zvY (h.alloc (.cells #[.bool false,.slice none 0 0] 25)).1
 have HE:=zvY (h.alloc (.cells #[.bool false,.slice none 0 0] 25)).here
 have B:=zvY (Box2.new W 25 (.bool false) (.slice none 0 0))
 have hs:=h.1.size
 have FN:∀(b:Bool) (r:Num) (W2:World),zOf b r.N=Z->r.n=lenL r.N->Env (W.alloc (.cells #[.bool false,.slice none 0 0] 25)) (r::e) W2->Calls Tryz.prog 121 #[.bool b,.slice r.A r.n r.c] W2 fun e' W3=>e'= .returned (.agg #[.bool (decide (Z<0)),.slice r.A r.n r.c])/\Box2 W3 W.heap.size 25 (.bool false) (.slice none 0 0)/\
   Zs w e Z (.returned (.agg #[.bool (decide (Z<0)),.slice r.A r.n r.c])) ((W3.setCell ⟨W.heap.size,0,none⟩ (.bool (decide (Z<0)))).setCell ⟨W.heap.size,1,none⟩ (.slice r.A r.n r.c)):=fun b r W2 hz hrn hE2=>by
  refine(zrj hE2 (x:=r) (b:=b) hrn).mono ?_
  rintro e' W3 ⟨rfl,hE3⟩
  have hB3:=B.out.below hE3.1 (by simp)
  rw[hz]
  have ha:r.N=Z.natAbs:=by rw[<-hz,zbu]
  exact⟨rfl,hB3,r,rfl,ha,by rw[hrn,ha],(hE3.over HO.out).boxed hB3 hs _ _⟩
 replace FN:=zvY FN
 by_cases hle:y.N<=x.N
 ·have ES:=zvY (zhV HE.out hx hy hle)
  have HD:=zvY (show zOf false (x.N - y.N)=Z by rw[zbQ];omega)
  clear h hx hy hZ hle
  go_enter Tryz.func159,Tryz.ntmps159
  go_wp2_with fail
  refine ES.out.mono ?_
  rintro e1 W2 ⟨r,rfl,rN,rn,hE2⟩
  have FC:=zvY (FN.out false r W2 (by rw[rN];exact HD.out) (by rw[rn,rN]) hE2)
  clear rN rn hE2
  go_wp2_with fail
  refine FC.out.mono ?_
  rintro e2 W3 ⟨rfl,hB3,hz⟩
  obtain⟨c1,c2,c3,c4⟩:=hB3.cells
  have HZ:=zvY hz
  have HB3:=zvY hB3
  clear hz hB3
  go_wp2
  exact bodyPost_ret (zbp (HB3.out.set _ _) rfl rfl) rfl HZ.out
 ·have ES:=zvY (zoZ HE.out hx hy (by omega))
  have HD:=zvY (show zOf true (y.N - x.N)=Z by rw[zce];omega)
  have HX:=zvY (And.intro hx hy)
  have HL:=zvY (show x.N<=y.N by omega)
  clear h hx hy hZ hle
  go_enter Tryz.func159,Tryz.ntmps159
  go_wp2_with fail
  refine ES.out.mono ?_
  rintro e1 W2 ⟨rfl,hE2⟩
  have ES2:=zvY (zhV hE2 HX.out.2 HX.out.1 HL.out)
  clear hE2
  go_wp2_with fail
  refine ES2.out.mono ?_
  rintro e1 W3 ⟨r,rfl,rN,rn,hE3⟩
  have FC:=zvY (FN.out true r W3 (by rw[rN];exact HD.out) (by rw[rn,rN]) hE3)
  clear rN rn hE3
  go_wp2_with fail
  refine FC.out.mono ?_
  rintro e2 W4 ⟨rfl,hB3,hz⟩
  obtain⟨c1,c2,c3,c4⟩:=hB3.cells
  have HZ:=zvY hz
  have HB3:=zvY hB3
  clear hz hB3
  go_wp2
  exact bodyPost_ret (zbp (HB3.out.set _ _) rfl rfl) rfl HZ.out
end
section
attribute [local go_sem] Oper.semAt_some
def zvz (W1:World)(g bl r:Nat)(A:Option Addr)(c:Nat)(l:List (Bool×Num))(k:Nat)(x:Bool×Num)(a:Act)(W:World):Prop:=
 ∃gx,a= { tmps:= #[.slice A l.length c,undef,.pointer (some ⟨r,0,none⟩),.pointer (some ⟨g,0,none⟩),.pointer (some ⟨gx,0,none⟩),.slice A l.length c,.func (.func 199) #[] #[.pointer (some ⟨bl,0,none⟩)],.agg #[.bool x.1,.slice x.2.A x.2.n x.2.c,.int .i64 (plZ (zP x):Nat)],
   undef,undef,undef,undef,undef,undef,undef,undef,undef,undef,undef,undef,undef,undef,undef,undef,undef,undef,undef],defers:=[] }/\
  W1.heap.size<=gx/\Box3 W gx 153 (.bool x.1) (.slice x.2.A x.2.n x.2.c) (.int .i64 (plZ (zP x):Nat))/\AddI W1 g bl A c l k W
theorem zrm {W1:World}{g bl r c B k:Nat}{A:Option Addr}{l:List (Bool×Num)}{x:Bool×Num}{a:Act}(hB:g<=B)(hg1:g<=W1.heap.size):OwnFrom (β:=Unit) B (fun _ W=>zvz W1 g bl r A c l k x a W):=by
 rintro _ W W' row ⟨gx,h1,h2,h3,h4⟩ hg hr
 exact⟨gx,h1,h2,h3.own hg (fun r e=>(hr r e).2),zhT hB hg1 k W W' row h4 hg hr⟩
theorem zjR:153≠23:=by decide
theorem zhW {W:World}{base:Nat}{v:Value}{ls:List Num}(h:W.ownsRow base 23 1 v ls.length (zf9 ls)) (hok:∀y∈ls,y.ok W W.heap.size):∃A c,v= .slice A ls.length c/\Rds W W.heap.size A ls:=by
 rcases h.2 with⟨rfl,h0⟩|⟨g,cap,cur,rfl,_,hgg,_⟩
 ·exact⟨none,0,by rw[h0],fun k hk=>by omega⟩
 ·refine⟨some ⟨g,0,none⟩,cap,rfl,fun k hk=>⟨⟨_,rfl,(Array.getElem?_eq_some_iff.1 hgg).1,?_⟩,hok _ (List.getElem_mem hk)⟩⟩
  have:=h.cellAt k (by omega)
  rw[zaW,this]
  simp[zf9,hk]
theorem zrn {ls:List Num}{K:Nat}(h:∀y∈ls,y.N<Bw^y.n/\y.n<=K)(hl:ls.length<=4000000000):lenL (zbO ls)<=K+1:=by
 have h1:zbO ls<=ls.length*Bw^K:=zmI fun y hy=>Nat.le_of_lt (zaz (h y hy).1 (h y hy).2)
 rw[zai]
 refine zv4 h1 ?_
 rw[Nat.pow_succ,Nat.mul_comm]
 exact(Nat.mul_lt_mul_left (zag K)).2 (by rw[za4];omega)
theorem Env.mark {w X:World}{e:List Num}{D:Nat}(h:Env w e X)(hD:X.heap[D]?=some (.deferred (some [])))(hw:w.heap.size<=D):Env w e (X.putObj D (.deferred none)):=
 ⟨h.1.grown (grownBy_putObj' X D (.deferred none)) h.1.size (fun k e=>by cases e;exact hw),fun z hz=>by
  obtain⟨h1,h2⟩:=h.2 z hz
  exact⟨(h1.kept (grownBy_putObj' X D (.deferred none)) (fun r e=>by cases e;exact⟨_,hD,rfl⟩)).more (grownBy_putObj' X D (.deferred none)).size,h2⟩⟩
theorem zuy (A:Option Addr)(c:Nat)(l:List (Bool×Num))(w W0:World)(e:List Num)(he:Env w e W0)(hZ:ZRds W0 W0.heap.size A l)(hl:l.length<=1000000)(hn:∀z∈l,z.2.n<=10000):
  CallsIn Fence.wide 10 Tryz.prog 118 #[.slice A l.length c] W0 (Zs w e (zdl l)):=by
 obtain⟨g,hgd⟩:∃g,W0.heap.size+1=g:=⟨_,rfl⟩
 obtain⟨W1,hW1⟩:∃W1,((W0.alloc (.cells #[.bool false,.slice none 0 0] 25)).alloc (.cells #[.slice none 0 0,.slice none 0 0,.slice none 0 0] 160)).alloc (.cells #[.slice A l.length c] 121)=W1:=⟨_,rfl⟩
 have hE1:=(((he.alloc (.cells #[.bool false,.slice none 0 0] 25)).alloc (.cells #[.slice none 0 0,.slice none 0 0,.slice none 0 0] 160)).alloc (.cells #[.slice A l.length c] 121))
 have hB01:=(((Below.refl W0.heap.size W0).alloc zv0 (.cells #[.bool false,.slice none 0 0] 25)).alloc (by simp) (.cells #[.slice none 0 0,.slice none 0 0,.slice none 0 0] 160)).alloc (by rw[World.size_alloc,World.size_alloc];omega) (.cells #[.slice A l.length c] 121)
 have bR:=((Box2.new W0 25 (.bool false) (.slice none 0 0)).alloc (.cells #[.slice none 0 0,.slice none 0 0,.slice none 0 0] 160)).alloc (.cells #[.slice A l.length c] 121)
 have bG:=(Box3.new (W0.alloc (.cells #[.bool false,.slice none 0 0] 25)) 160 (.slice none 0 0) (.slice none 0 0) (.slice none 0 0)).alloc (.cells #[.slice A l.length c] 121)
 have bL:=Boxed.new ((W0.alloc (.cells #[.bool false,.slice none 0 0] 25)).alloc (.cells #[.slice none 0 0,.slice none 0 0,.slice none 0 0] 160)) 121 (.slice A l.length c)
 have hs1:W1.heap.size=W0.heap.size+3:=by rw[<-hW1];simp
 rw[World.size_alloc]at bG
 rw[World.size_alloc,World.size_alloc]at bL
 rw[hW1]at hE1 hB01 bR bG bL
 rw[hgd]at bG bL
 have hsw:=he.1.size
 refine callsIn_of_wp_marks Tryz.func118 rfl trivial ?_ rfl
 simp only[Tryz.ntmps118,List.size_toArray,List.length_cons,List.length_nil,Nat.reduceAdd,Nat.reduceSub,Array.replicate_succ,Array.replicate_zero,List.push_toArray,List.append_toArray,List.nil_append,List.cons_append]
 gi_wp2_with (refine⟨trivial,?_⟩;gi_at_call 158;refine(callsIn_wide.2 (callsIn_wide.1 (zrl A l.length c _))).mono ?_;rintro e w' ⟨rfl,rfl⟩)
 rename_i K hK
 have HKK:=zvY hK
 clear hK
 have hI0:AddI W1 g (g+1) A c l 0 W1:=⟨bL.cell,Below.refl _ _,Nat.le_refl _,_,_,bG,by simpa[pts,zf9]using World.ownsRow_nil _ _ _ _,by simpa[pts,zf9]using World.ownsRow_nil _ _ _ _,fun b hb=>by cases hb⟩
 have hZI:∀s W,AddI W1 g (g+1) A c l s W->zvx (g+1) A c l W:=fun s W h=>⟨h.src,((hZ.below hB01).below (h.below.mono (by omega))).more (by have:=h.size;omega)⟩
 refine zeu rfl (by omega) (gf:=199) (lb:= #[.pointer (some ⟨g+1,0,none⟩)]) rfl trivial (enters_of Tryz.func199 (by kernel_rfl) rfl)
  (fun _=>rfl) (AddI W1 g (g+1) A c l) (fun _ _ _=>False) (zhT (by omega) (by omega)) (fun _ _ _ _ _ h _ _=>h) hI0
  (zjP (g+1) A c l hl _ hZI Fence.wide rfl) (zvz W1 g (g+1) W0.heap.size A c l) (fun _ _ _=>zrm (by omega) (by omega)) ?assign ?body ?done ?stop
 case assign=>
  intro lp s x W hI hx
  gi_wp2
  exact⟨World.grownBy_alloc W _ none,W.heap.size,rfl,hI.size,Box3.new _ _ _ _ _,zhT (B:=W1.heap.size) (by omega) (by omega) s W _ none hI (World.grownBy_alloc W _ none) (fun r e=>by cases e)⟩
 case body=>
  rintro lp s x a1 W ⟨gx,rfl,hgx,hbx,hI⟩ hok
  obtain⟨p,hp⟩:∃p,plZ (zP x)=p:=⟨_,rfl⟩
  have hxm:=List.mem_of_getElem? hok
  have hp2:p=0\/p=2:=by
   have h1:=zms (zP x)
   have h2: ¬plZ (zP x)=1:=fun h=>by have:=zgy.1 h;unfold fl at hxm;simp[this]at hxm
   omega
  obtain⟨v0,v2,vp,v',WC,b3,hcv,hap,hty,hI',hKp,A',n',c',rfl⟩:=zoY hI hok hp hp2 (by omega) (by omega) hl 1 _ rfl
  rw[hp]at hbx ⊢
  have hgx2:gx≠g:=by omega
  have hbC:Box3 WC gx 153 (.bool x.1) (.slice x.2.A x.2.n x.2.c) (.int .i64 (p:Nat)):=hty gx _ _ zjR hbx
  have hgC:Box3 WC g 160 v0 (.slice none 0 0) v2:=hty g _ _ zhU b3
  have HX:=zvY (fun listed=>zrD (i:=9) (j:=10) (k:=12) (WA:=W.drew) (WB:=(W.drewN 1).alloc (.cells #[.slice x.2.A x.2.n x.2.c] 23)) (WC:=WC) (WD:=WC.setCell ⟨g,p,none⟩ (.slice A' n' c')) (listed:=listed) (p:=fun V=>Box3 V gx 153 (.bool x.1) (.slice x.2.A x.2.n x.2.c) (.int .i64 (p:Nat)))
   hbx (Box3.alloc (W:=W.drewN 1) hbx _) hbC (hbC.kept (zbA WC g p (.slice A' n' c')) (by intro e;injection e with e;exact hgx2 e)))
  have HCV:=zvY hcv
  have HG:=zvY b3.lt
  have HP:=zvY (show(p:Int)<3 by omega)
  have HAP:=zvY hap
  have HST:=zvY (show(∃u,WC.cell? ⟨g,p,none⟩=some u)/\WC.frozen? ⟨g,p,none⟩=false by
   obtain⟨e1,e2,e3,e4,e5,e6⟩:=hgC.cells
   rcases hp2 with rfl|rfl
   ·exact⟨⟨_,e1⟩,e4⟩
   ·exact⟨⟨_,e3⟩,e6⟩)
  have HK:=zvY hKp
  have HI:=zvY hI'
  clear hcv hap hKp hI' hbC hgC hty b3 hbx
  gi_wp2
  refine zgR (vals:=fun i=>[.pointer (some ⟨gx,2,none⟩),.int .i64 (p:Nat),.pointer (some ⟨gx,2,none⟩),.int .i64 (p:Nat),.pointer (some ⟨g,p,none⟩),vp,.pointer (some ⟨gx,0,none⟩),.pointer (some ⟨gx,1,none⟩),.slice x.2.A x.2.n x.2.c,.slice (some ⟨W.heap.size,0,none⟩) 1 1,.slice A' n' c',.pointer (some ⟨g,p,none⟩),undef].getD i undef) (Wd:=Wd3 9 10 12 W.drew ((W.drewN 1).alloc (.cells #[.slice x.2.A x.2.n x.2.c] 23)) WC (WC.setCell ⟨g,p,none⟩ (.slice A' n' c'))) (by kernel_rfl) (by kernel_rfl) (by kernel_rfl) (by kernel_rfl) ?_ (zpa rfl rfl rfl) ?_ ?_
  ·intro i o t ho ht
   match i,ho with
   |0,ho=>cases ho;cases ht;simp
   |1,ho=>cases ho;cases ht;simp
   |2,ho=>cases ho;cases ht;simp
   |3,ho=>cases ho;cases ht;simp
   |4,ho=>cases ho;cases ht;simp
   |5,ho=>cases ho;cases ht;simp
   |6,ho=>cases ho;cases ht;simp
   |7,ho=>cases ho;cases ht;simp
   |8,ho=>cases ho;cases ht;simp
   |9,ho=>cases ho;cases ht;simp
   |10,ho=>cases ho;cases ht;simp
   |11,ho=>cases ho;cases ht;simp
   |12,ho=>cases ho;cases ht
   |k+13,ho=>simp at ho
  ·intro i o ho listed a inv hun hw hF hd
   match i,ho with
   |0,ho=>
    cases ho
    have h4:a.tmps[4]?.getD undef= .pointer (some ⟨gx,0,none⟩):=(zae a 4).symm.trans ((hF.same 4 (zev (by kernel_rfl))).trans rfl)
    rw[zcf (by decide) (by decide) (by decide)]
    exact zbH rfl rfl rfl (by go_simp)
   |1,ho=>
    cases ho
    have h8:a.tmps[8]?.getD undef= .pointer (some ⟨gx,2,none⟩):=(zae a 8).symm.trans (hd 0 _ 8 rfl rfl (by kernel_rfl))
    obtain⟨e1,e2,e3,-⟩:=(HX.out listed).cells
    rw[zcf (by decide) (by decide) (by decide)]
    exact zbH rfl rfl rfl (by go_simp)
   |2,ho=>
    cases ho
    have h4:a.tmps[4]?.getD undef= .pointer (some ⟨gx,0,none⟩):=(zae a 4).symm.trans ((hF.same 4 (zev (by kernel_rfl))).trans rfl)
    rw[zcf (by decide) (by decide) (by decide)]
    exact zbH rfl rfl rfl (by go_simp)
   |3,ho=>
    cases ho
    have h10:a.tmps[10]?.getD undef= .pointer (some ⟨gx,2,none⟩):=(zae a 10).symm.trans (hd 2 _ 10 rfl rfl (by kernel_rfl))
    obtain⟨e1,e2,e3,-⟩:=(HX.out listed).cells
    rw[zcf (by decide) (by decide) (by decide)]
    exact zbH rfl rfl rfl (by go_simp)
   |4,ho=>
    cases ho
    have h3:a.tmps[3]?.getD undef= .pointer (some ⟨g,0,none⟩):=(zae a 3).symm.trans ((hF.same 3 (zev (by kernel_rfl))).trans rfl)
    have h11:a.tmps[11]?.getD undef= .int .i64 (p:Nat):=(zae a 11).symm.trans (hd 3 _ 11 rfl rfl (by kernel_rfl))
    have hp3:=HP.out
    rw[zcf (by decide) (by decide) (by decide)]
    exact zbH rfl rfl rfl (by go_simp)
   |5,ho=>
    cases ho
    have h12:a.tmps[12]?.getD undef= .pointer (some ⟨g,p,none⟩):=(zae a 12).symm.trans (hd 4 _ 12 rfl rfl (by kernel_rfl))
    have n10:=zfC (j:=10) inv hun (by kernel_rfl)
    have n12:=zfC (j:=12) inv hun (by kernel_rfl)
    rw[zcf (by decide) (by decide) (by decide)]
    have hc:(Wd3 9 10 12 W.drew ((W.drewN 1).alloc (.cells #[.slice x.2.A x.2.n x.2.c] 23)) WC (WC.setCell ⟨g,p,none⟩ (.slice A' n' c')) listed).cell? ⟨g,p,none⟩=some vp:=by
     cases n9:listed.getD 9 false
     ·rw[zpa n9 n10 n12];exact HCV.out
     ·rw[zpb n9 n10 n12];exact(World.cell?_of_block (Below.heap_alloc (W.drewN 1) _ g HG.out)).trans HCV.out
    exact zbH rfl rfl rfl (by go_simp)
   |6,ho=>
    cases ho
    have h4:a.tmps[4]?.getD undef= .pointer (some ⟨gx,0,none⟩):=(zae a 4).symm.trans ((hF.same 4 (zev (by kernel_rfl))).trans rfl)
    rw[zcf (by decide) (by decide) (by decide)]
    exact zbH rfl rfl rfl (by go_simp)
   |7,ho=>
    cases ho
    have h14:a.tmps[14]?.getD undef= .pointer (some ⟨gx,0,none⟩):=(zae a 14).symm.trans (hd 6 _ 14 rfl rfl (by kernel_rfl))
    rw[zcf (by decide) (by decide) (by decide)]
    exact zbH rfl rfl rfl (by go_simp)
   |8,ho=>
    cases ho
    have h15:a.tmps[15]?.getD undef= .pointer (some ⟨gx,1,none⟩):=(zae a 15).symm.trans (hd 7 _ 15 rfl rfl (by kernel_rfl))
    obtain⟨e1,e2,e3,-⟩:=(HX.out listed).cells
    rw[zcf (by decide) (by decide) (by decide)]
    exact zbH rfl rfl rfl (by go_simp)
   |9,ho=>
    cases ho
    have h16:a.tmps[16]?.getD undef= .slice x.2.A x.2.n x.2.c:=(zae a 16).symm.trans (hd 8 _ 16 rfl rfl (by kernel_rfl))
    have n10:=zfC (j:=10) inv hun (by kernel_rfl)
    have n12:=zfC (j:=12) inv hun (by kernel_rfl)
    rw[zpa (getD_both hun) n10 n12,zpb (zew hun) (by rw[getD_set_ne false (by decide)];exact n10) (by rw[getD_set_ne false (by decide)];exact n12)]
    exact zbH rfl rfl rfl (by go_simp;rfl)
   |10,ho=>
    cases ho
    have h13:a.tmps[13]?.getD undef=vp:=(zae a 13).symm.trans (hd 5 _ 13 rfl rfl (by kernel_rfl))
    have h17:a.tmps[17]?.getD undef= .slice (some ⟨W.heap.size,0,none⟩) 1 1:=(zae a 17).symm.trans (hd 9 _ 17 rfl rfl (by kernel_rfl))
    have n12:=zfC (j:=12) inv hun (by kernel_rfl)
    have n9:=hw 9 (by kernel_rfl)
    rw[zpb n9 (getD_both hun) n12,zs3 (zew hun) (by rw[getD_set_ne false (by decide)];exact n12)]
    exact zbH rfl rfl rfl (zlq rfl h13 h17 HAP.out)
   |11,ho=>
    cases ho
    have h3:a.tmps[3]?.getD undef= .pointer (some ⟨g,0,none⟩):=(zae a 3).symm.trans ((hF.same 3 (zev (by kernel_rfl))).trans rfl)
    have h9:a.tmps[9]?.getD undef= .int .i64 (p:Nat):=(zae a 9).symm.trans (hd 1 _ 9 rfl rfl (by kernel_rfl))
    have hp3:=HP.out
    rw[zcf (by decide) (by decide) (by decide)]
    exact zbH rfl rfl rfl (by go_simp)
   |12,ho=>
    cases ho
    have h19:a.tmps[19]?.getD undef= .pointer (some ⟨g,p,none⟩):=(zae a 19).symm.trans (hd 11 _ 19 rfl rfl (by kernel_rfl))
    have h18:a.tmps[18]?.getD undef= .slice A' n' c':=(zae a 18).symm.trans (hd 10 _ 18 rfl rfl (by kernel_rfl))
    have n10:=hw 10 (by kernel_rfl)
    rw[zs3 n10 (getD_both hun),zs4 (zew hun)]
    obtain⟨⟨u,hc1⟩,hc2⟩:=HST.out
    exact zo9 rfl rfl rfl rfl (by go_simp)
   |k+13,ho=>simp at ho
  ·intro listed a hall _ _
   rw[zs4 (hall 12 (by decide))]
   exact⟨HK.out,HI.out⟩
 case done=>
  rintro D s W hD rfl ⟨-,hBl,hsz,v0,v2,b3,o0,o2,-⟩ hKD
  rw[List.take_length]at o0 o2
  have hno:∀p,∀y∈pts p (fl l),y.ok W W.heap.size/\y.n<=10000:=fun p y hy=>by
   obtain⟨x,hx,rfl⟩:=zsL hy
   obtain⟨i,hi,rfl⟩:=List.mem_iff_getElem.1 (zuw hx)
   exact⟨(((hZ i hi).2.below hB01).below (hBl.mono (by omega))).more (by omega),hn _ (List.getElem_mem hi)⟩
  obtain⟨A0,c0,rfl,R0⟩:=zhW o0 (fun y hy=>(hno 0 y hy).1)
  obtain⟨A2,c2,rfl,R2⟩:=zhW o2 (fun y hy=>(hno 2 y hy).1)
  have HC:=zvY (fun p=>show(pts p (fl l)).length<=100000000000000 by have e1:=zjQ p (fl l);have e2:=zmu l;omega)
  have HL:=zvY (fun p=>show lenL (zbO (pts p (fl l)))<=35184372087808 by
   have h2:=zrn (ls:=pts p (fl l)) (K:=10000) (fun y hy=>⟨(hno p y hy).1.1.1,(hno p y hy).2⟩) (by have e1:=zjQ p (fl l);have e2:=zmu l;omega)
   omega)
  have HO:=zvY (hE1.1.trans (hBl.mono (by omega)))
  have HE:=zvY (show Env W e W from(Env.step he (hB01.trans (hBl.mono (by omega)))).here)
  have B3:=zvY b3
  have BR:=zvY (bR.below hBl (by omega))
  replace R0:=zvY R0
  replace R2:=zvY R2
  have HD:=zvY hKD
  clear o0 o2 hno b3 hKD bR bG bL hB01 hE1 hI0 hZI hW1 hZ
  refine HKK.out _ _ ?_
  clear HKK
  refine wpIn_wide.2 ?_
  refine wp_seq_k fun K5 h5=>?_
  have H5:=zvY h5
  clear h5
  refine zbn 7 [20,21,22,23,24,25,26] (fun i v V=>match i with
    |0=>v= .pointer (some ⟨g,2,none⟩)
    |1=>v= .slice A2 (pts 2 (fl l)).length c2
    |2=>RepN (zbO (pts 2 (fl l))) v V
    |3=>v= .pointer (some ⟨g,0,none⟩)
    |4=>v= .slice A0 (pts 0 (fl l)).length c0
    |5=>RepN (zbO (pts 0 (fl l))) v V
    |_=>RepT (zdl l) v V) (fun V=>Below W.heap.size W V) (by kernel_rfl) (by kernel_rfl) rfl (by decide) (by first|(simp;done)|(simp;done)) zv1.drew ?_ ?_ ?_
  ·intro i v V V2 hf hb _
   match i,hf with
   |0,hf=>exact hf
   |1,hf=>exact hf
   |2,hf=>exact RepN.keep hf hb
   |3,hf=>exact hf
   |4,hf=>exact hf
   |5,hf=>exact RepN.keep hf hb
   |_+6,hf=>exact RepT.keep hf hb
  ·intro i t ht a V hC hF hd
   match i,ht with
   |0,ht=>
    cases ht
    have h3:a.tmps[3]?.getD undef= .pointer (some ⟨g,0,none⟩):=(hF.at_ 3 (by decide)).trans rfl
    exact zal (v:= .pointer (some ⟨g,2,none⟩)) rfl rfl (zac rfl) (by go_simp) hC rfl
   |1,ht=>
    cases ht
    have h20:a.tmps[20]?.getD undef= .pointer (some ⟨g,2,none⟩):=(zae a 20).symm.trans (hd 0 20 rfl (by kernel_rfl))
    obtain⟨c00,c01,c02,-,-,-⟩:=(B3.out.below hC B3.out.lt).cells
    exact zal (v:= .slice A2 (pts 2 (fl l)).length c2) rfl rfl (zac rfl) (by go_simp) hC rfl
   |2,ht=>
    cases ht
    have h21:a.tmps[21]?.getD undef= .slice A2 (pts 2 (fl l)).length c2:=(zae a 21).symm.trans (hd 1 21 rfl (by kernel_rfl))
    refine za8 rfl rfl (zac rfl) (zbq ⟨_,rfl⟩ h21 (enters_of Tryz.func160 (by kernel_rfl) rfl)) ((zg4 V A2 c2 _ ((R2.out.below hC).more hC.size) (HC.out 2)).mono ?_)
    intro e2 V2 hg
    obtain⟨r,rfl,n1,n2,hE2⟩:=zbB (w:=V) (e:=[]) (Env.start (by simp)) hg (HL.out 2)
    exact⟨_,rfl,⟨r,rfl,n1,n2,hE2.2 r (by simp)⟩,hE2.1,hC.trans (hE2.1.mono hC.size)⟩
   |3,ht=>
    cases ht
    have h3:a.tmps[3]?.getD undef= .pointer (some ⟨g,0,none⟩):=(hF.at_ 3 (by decide)).trans rfl
    exact zal (v:= .pointer (some ⟨g,0,none⟩)) rfl rfl (zac rfl) (by go_simp) hC rfl
   |4,ht=>
    cases ht
    have h23:a.tmps[23]?.getD undef= .pointer (some ⟨g,0,none⟩):=(zae a 23).symm.trans (hd 3 23 rfl (by kernel_rfl))
    obtain⟨c00,c01,c02,-,-,-⟩:=(B3.out.below hC B3.out.lt).cells
    exact zal (v:= .slice A0 (pts 0 (fl l)).length c0) rfl rfl (zac rfl) (by go_simp) hC rfl
   |5,ht=>
    cases ht
    have h24:a.tmps[24]?.getD undef= .slice A0 (pts 0 (fl l)).length c0:=(zae a 24).symm.trans (hd 4 24 rfl (by kernel_rfl))
    refine za8 rfl rfl (zac rfl) (zbq ⟨_,rfl⟩ h24 (enters_of Tryz.func160 (by kernel_rfl) rfl)) ((zg4 V A0 c0 _ ((R0.out.below hC).more hC.size) (HC.out 0)).mono ?_)
    intro e2 V2 hg
    obtain⟨r,rfl,n1,n2,hE2⟩:=zbB (w:=V) (e:=[]) (Env.start (by simp)) hg (HL.out 0)
    exact⟨_,rfl,⟨r,rfl,n1,n2,hE2.2 r (by simp)⟩,hE2.1,hC.trans (hE2.1.mono hC.size)⟩
   |6,ht=>
    cases ht
    have r22:RepN (zbO (pts 2 (fl l))) (a.tmps.getD 22 undef) V:=hd 2 22 rfl (by kernel_rfl)
    have h22:a.tmps[22]?.getD undef=a.tmps.getD 22 undef:=(zae a 22).symm
    have r25:RepN (zbO (pts 0 (fl l))) (a.tmps.getD 25 undef) V:=hd 5 25 rfl (by kernel_rfl)
    have h25:a.tmps[25]?.getD undef=a.tmps.getD 25 undef:=(zae a 25).symm
    obtain⟨r,hr,n1,n2,hk⟩:=r22
    obtain⟨u,hu,m1,m2,hm⟩:=r25
    rw[hr]at h22
    rw[hu]at h25
    have hz:(r.N:Int) - (u.N:Int)=zdl l:=by rw[n1,m1,ziW]
    have EL:=zux (w:=V) (W:=V) (e:=[r,u]) (x:=r) (y:=u) (Env.start (by simp[hk,hm])) (by simp) (by simp)
    rw[hz]at EL
    refine za8 rfl rfl (zac rfl) (zdR ⟨_,rfl⟩ h22 h25 (enters_of Tryz.func159 (by kernel_rfl) rfl)) (EL.mono ?_)
    rintro e2 V2 ⟨q,rfl,q1,q2,hE2⟩
    exact⟨_,rfl,⟨q,rfl,q1,q2,hE2.2 q (by simp)⟩,hE2.1,hC.trans (hE2.1.mono hC.size)⟩
   |k+7,ht=>simp at ht
  ·intro a2 V2 hC hF hf
   have p2:a2.tmps[2]?.getD undef= .pointer (some ⟨W0.heap.size,0,none⟩):=(hF.at_ 2 (by decide)).trans rfl
   obtain⟨r,p26,n1,n2,hk⟩:=(hf 6 26 rfl:RepT (zdl l) (a2.tmps.getD 26 undef) V2)
   rw[zae]at p26
   have hdf:a2.defers=_:=hF.defers
   have hBR:=BR.out.below hC BR.out.lt
   obtain⟨c1,c2,c3,c4⟩:=hBR.cells
   replace n1:=zvY n1
   replace n2:=zvY n2
   clear hf hF
   show wpList _ _ _ [_] a2 V2
   go_wp2
   refine H5.out _ _ ?_
   go_wp2
   have hDlt:D<W.heap.size:=(Array.getElem?_eq_some_iff.1 HD.out).1
   have hX:((V2.setCell ⟨W0.heap.size,0,none⟩ (.bool (decide (zdl l<0)))).setCell ⟨W0.heap.size,1,none⟩ (.slice r.A r.n r.c)).heap[D]?=some (.deferred (some [])):=by
    rw[Below.heap_setCell _ _ _ D (by show D≠W0.heap.size;omega),Below.heap_setCell _ _ _ D (by show D≠W0.heap.size;omega)]
    exact(hC.block D hDlt).trans HD.out
   show LeavesInM _ _ _ _ _ _ a2.defers _ _
   rw[hdf]
   refine⟨by simp,.inl ⟨_,_,rfl,run_takeDeferred hX,?_⟩⟩
   have hzs:=zfA HO.out HE.out hC hk hBR hsw n1.out n2.out
   have hb2:Box2 _ W0.heap.size 25 _ _:=(World.putObj_heap_other (o:= .deferred none) (by omega:W0.heap.size≠D)).trans (hBR.set (.bool (decide (zdl l<0))) (.slice r.A r.n r.c))
   refine⟨_,zbp hb2 rfl (by simpa using p2),?_⟩
   obtain⟨q,q1,q2,q3,q4⟩:=hzs
   exact⟨q,q1,q2,q3,q4.mark hX (by omega)⟩
 case stop=>
  rintro D c s W _ _ h _
  exact h.elim
theorem zsM {w0:World}:zld w0 118 zdl:=fun w W e A c l _ h hZ _ _ hl hn=>
 callsIn_wide.1 (zuy A c l w W e h hZ (by omega) hn)
end
end Go.Proofs.YtipckjmgdghkiaaGreatDoor
