/- Boxes of three cells. No function of the program. -/
import Derived.Test.YtafokgknenienaaGreatDoorGSintA
namespace Go.Proofs.YtafokgknenienaaGreatDoor
open Go Go.RowKit
def Box3 (W:World)(B:Nat)(t:TypeId)(a b c:Value):Prop:=W.heap[B]?=some (.cells #[a,b,c] t (0,0))
theorem Box3.new (W:World)(t:TypeId)(a b c:Value):Box3 (W.alloc (.cells #[a,b,c] t)) W.heap.size t a b c:=World.alloc_heap_new' W _
theorem Box3.lt {W:World}{B:Nat}{t:TypeId}{a b c:Value}(h:Box3 W B t a b c):B<W.heap.size:=(Array.getElem?_eq_some_iff.1 h).1
theorem Box3.cells {W:World}{B:Nat}{t:TypeId}{a b c:Value}(h:Box3 W B t a b c):W.cell? ⟨B,0,none⟩=some a∧W.cell? ⟨B,1,none⟩=some b∧W.cell? ⟨B,2,none⟩=some c∧W.frozen? ⟨B,0,none⟩=false∧W.frozen? ⟨B,1,none⟩=false∧W.frozen? ⟨B,2,none⟩=false:=by
 have h':W.heap[B]?=_:=h
 refine⟨?_,?_,?_,?_,?_,?_⟩ <;> simp[World.cell?,World.frozen?,h']
theorem Box3.below {W W':World}{B K:Nat}{t:TypeId}{a b c:Value}(h:Box3 W B t a b c)(hb:Below K W W')(hB:B<K):Box3 W' B t a b c:=(hb.block B hB).trans h
theorem Box3.kept {W W':World}{row:Option Nat}{B:Nat}{t:TypeId}{a b c:Value}(h:Box3 W B t a b c)(hg:W.grownBy W' row)(hne:some B≠row):Box3 W' B t a b c:=(hg.block B h.lt hne).trans h
theorem Box3.alloc {W:World}{B:Nat}{t:TypeId}{a b c:Value}(h:Box3 W B t a b c)(o:Obj):Box3 (W.alloc o) B t a b c:=(Below.heap_alloc W o B h.lt).trans h
theorem Box3.put {W:World}{B:Nat}{t:TypeId}{cs:Array Value}(h:W.heap[B]?=some (.cells cs t (0,0)))(i:Nat)(u:Value):(W.setCell ⟨B,i,none⟩ u).heap[B]?=some (.cells (cs.setIfInBounds i u) t (0,0)):=by
 obtain⟨hlt,hk⟩:=Array.getElem?_eq_some_iff.1 h
 show(W.heap.modify B _)[B]?=_
 rw[Array.getElem?_eq_getElem (by rw[Array.size_modify];exact hlt),Array.getElem_modify_self,hk]
 rfl
theorem Box3.set0 {W:World}{B:Nat}{t:TypeId}{a b c:Value}(u:Value)(h:Box3 W B t a b c):Box3 (W.setCell ⟨B,0,none⟩ u) B t u b c:=Box3.put h 0 u
theorem Box3.set1 {W:World}{B:Nat}{t:TypeId}{a b c:Value}(u:Value)(h:Box3 W B t a b c):Box3 (W.setCell ⟨B,1,none⟩ u) B t a u c:=Box3.put h 1 u
theorem Box3.set2 {W:World}{B:Nat}{t:TypeId}{a b c:Value}(u:Value)(h:Box3 W B t a b c):Box3 (W.setCell ⟨B,2,none⟩ u) B t a b u:=Box3.put h 2 u
theorem Box3.set {W:World}{B:Nat}{t:TypeId}{a b c:Value}(a' b' c':Value)(h:Box3 W B t a b c):Box3 (((W.setCell ⟨B,0,none⟩ a').setCell ⟨B,1,none⟩ b').setCell ⟨B,2,none⟩ c') B t a' b' c':=((h.set0 a').set1 b').set2 c'
theorem Env.setc {w W:World}{e:List Num}{g k:Nat}{a:Value}(h:Env w e W)(hg:w.heap.size≤g)(hc:W.cell? ⟨g,k,none⟩=some a)(ha:∀z:Int,a≠ .int .u32 z)(u:Value):Env w e (W.setCell ⟨g,k,none⟩ u):=
 ⟨h.1.setCell (p:=⟨g,k,none⟩) hg _,fun z hz=>⟨by
  rw[World.size_setCell]
  refine⟨(h.2 z hz).1.1,fun hn=>?_⟩
  obtain⟨ad,e1,hb,hcs⟩:=(h.2 z hz).1.2 hn
  refine⟨ad,e1,hb,fun j hj=>?_⟩
  rw[World.cell?_setCell_other _ _ _ _ (fun e2=>?_)]
  ·exact hcs j hj
  ·have h1:=hcs j hj
   rw[←e2,hc]at h1
   injection h1 with h1
   exact ha _ h1,(h.2 z hz).2⟩⟩
theorem Env.box3 {w W:World}{e:List Num}{T:TypeId}{g n c n' c':Nat}{b:Bool}{A A':Option Addr}(h:Env w e W)(B:Box3 W g T (.bool b) (.slice A n c) (.slice A' n' c'))(hg:w.heap.size≤g)(u v z:Value):
  Env w e (((W.setCell ⟨g,0,none⟩ u).setCell ⟨g,1,none⟩ v).setCell ⟨g,2,none⟩ z):=
 ((h.setc hg B.cells.1 (by intro z e;cases e) u).setc hg (B.set0 u).cells.2.1 (by intro z e;cases e) v).setc hg ((B.set0 u).set1 v).cells.2.2.1 (by intro z e;cases e) z
end Go.Proofs.YtafokgknenienaaGreatDoor
