/- A part. -/
import Derived.Test.YtafokgknenienaaGreatDoorGNum
namespace Go.Proofs.YtafokgknenienaaGreatDoor
open Go Go.RowKit
def zfy (l:List Num):List Value:=l.map fun x=> .slice x.A x.n x.c
theorem zjH {W:World}{r b:Nat}{cs:Array Value}{T:TypeId}{fr:Nat×Nat}(hb:W.heap[b]?=some (.cells cs T fr))(hr:∃o:Obj,W.heap[r]?=some o∧o.isCells=false):b≠r:=by
 rintro rfl
 obtain⟨o,ho,hc⟩:=hr
 rw[hb]at ho
 cases ho
 cases hc
theorem zfR {W W':World}{base:Nat}{e:TypeId}{size k:Nat}{v:Value}{xs:List Value}{row:Option Nat}(h:W.ownsRow base e size v k xs)(hg:W.grownBy W' row)(hrow:∀r,row=some r→∃o:Obj,W.heap[r]?=some o∧o.isCells=false):W'.ownsRow base e size v k xs:=by
 refine h.kept hg ?_
 rcases h.2 with⟨rfl,_⟩|⟨g,cap,cur,rfl,_,hgg,_⟩
 ·exact .inl rfl
 ·exact .inr fun e=>zjH hgg (hrow g e.symm) rfl
theorem zdb {B:Nat}{W W':World}{row:Option Nat}(hg:W.grownBy W' row)(hrow:∀j,row=some j→∃cs T fr,W.heap[j]?=some (.cells cs T fr)):KeepsFrom B W W':=
 ⟨hg.size,fun k o _ hk ho=>(hg.block k (Array.getElem?_eq_some_iff.1 hk).1 (fun e=>by
  obtain⟨cs,T,fr,h⟩:=hrow k e.symm
  rw[h]at hk
  cases hk
  cases ho)).trans hk⟩
theorem zeu {W:World}{base:Nat}{e:TypeId}{size k:Nat}{v:Value}{xs:List Value}(h:W.ownsRow base e size v k xs):∀j,v.ownBlock=some j→∃cs T fr,W.heap[j]?=some (.cells cs T fr):=by
 intro j hj
 rcases h.2 with⟨rfl,_⟩|⟨g,cap,cur,rfl,_,hgg,_⟩
 ·cases hj
 ·simp only[Value.ownBlock,Option.some.injEq]at hj
  subst hj
  exact⟨_,_,_,hgg⟩
theorem zmW:(Tryz.prog.info? 23).map (fun i=>(i.zero,i.size,i.bytes))=some (some (.slice none 0 0),1,24):=by kernel_rfl
theorem zgE {W:World}{base g:Nat}{v:Value}{ls:List Num}(h:W.ownsRow base 23 1 v ls.length (zfy ls)) (hb:base≤W.heap.size) (hl:ls.length≤1000000) (x:Num) (hg:W.heap.size=g) (k:Nat):
  ∃v' WC,(Builtin.append_ #[127,127] 127 #[v,.slice (some ⟨g,0,none⟩) 1 1]).run Tryz.prog ((W.drewN k).alloc (.cells #[.slice x.A x.n x.c] 23))= .ok v' WC∧WC.ownsRow base 23 1 v' (ls++[x]).length (zfy (ls++[x]))∧
   W.grownBy WC v.ownBlock∧(v'.ownBlock=v.ownBlock∨ ∃j,v'.ownBlock=some j∧W.heap.size≤j):=by
 subst hg
 obtain⟨i0,hi,hz0,hz1,hz2⟩:=info_parts zmW
 have h':((W.drewN k).alloc (.cells #[.slice x.A x.n x.c] 23)).ownsRow base 23 1 v ls.length (zfy ls):=World.ownsRow.alloc (w:=W.drewN k) h _
 obtain⟨v',WC,h1,h2,h3,-,h4⟩:=run_append_own_at (P:=Tryz.prog) (w:=(W.drewN k).alloc (.cells #[.slice x.A x.n x.c] 23)) base 127 127 23 i0 (.slice none 0 0) 1 24 Tryz.underlying127 hi hz0 hz1 hz2 rfl (by decide) v ls.length (zfy ls) h'
  ⟨W.heap.size,0,none⟩ 1 1 [.slice x.A x.n x.c] rfl (by
   intro j u hj
   have hc:=World.alloc_heap_new' (W.drewN k) (.cells #[.slice x.A x.n x.c] 23)
   match j,hj with
   |0,hj=>rw[zaV];simp only[World.cell?];rw[show(W.drewN k).heap.size=W.heap.size from rfl]at hc;rw[hc];exact hj) (by simp[Value.oneCell']) (by simp only[maxLen];omega) (by omega) (by rw[World.size_alloc];exact ztd hb (Nat.le_succ _))
 refine⟨v',WC,h1,?_,((zaM W k v.ownBlock).trans (World.grownBy_alloc _ _ _)).trans h3,?_⟩
 ·rw[List.length_append,show zfy (ls++[x])=zfy ls++[.slice x.A x.n x.c] by simp[zfy]]
  exact h2
 ·rcases h4 with h4|h4
  ·exact .inl h4
  ·exact .inr ⟨_,h4,by rw[World.size_alloc];exact Nat.le_succ _⟩
theorem zd3 {v:Value}{W:World}{base:Nat}{e:TypeId}{k:Nat}{xs:List Value}(h:W.ownsRow base e 1 v k xs){b:Nat}(hb:b<base):v.ownBlock=none∨v.ownBlock≠some b:=by
 rcases h.2 with⟨rfl,_⟩|⟨g,cap,cur,rfl,hg,_⟩
 ·exact .inl rfl
 ·exact .inr (by simp only[Value.ownBlock];intro e;injection e;omega)
theorem zoV {v:Value}{W:World}{base:Nat}{e:TypeId}{k:Nat}{xs:List Value}(h:W.ownsRow base e 1 v k xs){b:Nat}(hb:b<base):some b≠v.ownBlock:=fun e2=>by
 rcases zd3 h hb with e|e
 ·rw[←e2]at e;cases e
 ·exact e e2.symm
theorem zhE {v:Value}{W:World}{base:Nat}{e:TypeId}{k:Nat}{xs:List Value}(h:W.ownsRow base e 1 v k xs):∃A' n' c',v= .slice A' n' c':=by
 rcases h.2 with⟨rfl,_⟩|⟨g,cap,cur,rfl,_⟩
 ·exact⟨_,_,_,rfl⟩
 ·exact⟨_,_,_,rfl⟩
theorem zoW {v:Value}{W:World}{base:Nat}{e:TypeId}{k:Nat}{xs:List Value}(h:W.ownsRow base e 1 v k xs):∀b,v.ownBlock=some b→b<W.heap.size:=fun b hb=>(h.lt b hb).2
theorem zdF {W WC:World}{base b:Nat}{e T:TypeId}{k:Nat}{v:Value}{xs:List Value}{cs:Array Value}(h:W.ownsRow base e 1 v k xs)(hG:W.grownBy WC v.ownBlock)(hb:W.heap[b]?=some (.cells cs T (0,0)))(hT:T≠e):WC.heap[b]?=some (.cells cs T (0,0)):=by
 refine(hG.block b (Array.getElem?_eq_some_iff.1 hb).1 (fun he=>?_)).trans hb
 rcases h.2 with⟨rfl,_⟩|⟨g,cap,cur,rfl,hg,hgg,_⟩
 ·cases he
 ·simp only[Value.ownBlock,Option.some.injEq]at he
  subst he
  rw[hb]at hgg
  cases hgg
  exact hT rfl
end Go.Proofs.YtafokgknenienaaGreatDoor
