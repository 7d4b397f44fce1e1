/- A part. -/
import Derived.Laws.MakeOwn
import Derived.Test.YtipckjmgdghkiaaGreatDoorGSidA
namespace Go.Proofs.YtipckjmgdghkiaaGreatDoor
open Go Go.RowKit
section
variable {P:Program}{ops:Array Oper}{Q:Exit -> Act -> World -> Prop}{kk n:Nat}{ls ls':List (Tmp × Value)}{D:List Deferred}{a:Act}{V V':World}{o:Oper}{rest:List Oper}{t t1 t2:Tmp}{v v1:Value}
theorem Jf.frm {e:List Num}(S:Jf n ls [] a)(he:∀z∈e,z.ok V V.heap.size):Frm n ls [] V e a V:=⟨S.size,S.defers,S.slots,⟨fun _ h=>(by cases h),List.Pairwise.nil⟩,Env.start he⟩
end
section
variable {a:Act}{V:World}{o:Oper}{X Y:Operand}{k m:Nat}
end
def IRow (L:List Int)(v:Value)(V:World):Prop:=∃(A:Option Addr) (c:Nat),v= .slice A L.length c/\L.length<=1000/\∀k (h:k<L.length),∃ad:Addr,A=some ad/\ad.block<V.heap.size/\V.cell? (ad.add k)=some (.int .i64 L[k])
section
variable {L:List Int}{v:Value}{V V' W:World}{base g:Nat}{z:Int}
theorem IRow.keep (h:IRow L v V)(hb:Below V.heap.size V V'):IRow L v V':=by
 obtain⟨A,c,h1,h2,h3⟩:=h
 refine⟨A,c,h1,h2,fun k hk=>?_⟩
 obtain⟨ad,e,h4,h5⟩:=h3 k hk
 exact⟨ad,e,zv3 h4 hb.size,(hb.cell (by rw[zaM];exact h4)).trans h5⟩
instance:Keeps (IRow L):=⟨fun h hb=>IRow.keep h hb⟩
def IL1 (z:Int)(v:Value)(V:World):Prop:=∃g,v= .slice (some ⟨g,0,none⟩) 1 1/\V.heap[g]?=some (.cells #[.int .i64 z] 3 (0,0))
theorem IL1.keep (h:IL1 z v V)(hb:Below V.heap.size V V'):IL1 z v V':=by
 obtain⟨g,h1,h2⟩:=h
 exact⟨g,h1,(hb.block g (Array.getElem?_eq_some_iff.1 h2).1).trans h2⟩
instance:Keeps (IL1 z):=⟨fun h hb=>IL1.keep h hb⟩
end
def el (l:List PEl)(i:Nat):PEl:=l.getD i z6
def okP (V:World)(p:PEl):Prop:=(p.2.1.ok V V.heap.size/\p.2.2.1.ok V V.heap.size)/\p.2.2.2.2.1.ok V V.heap.size/\p.2.2.2.2.2.ok V V.heap.size
theorem PRds.mem {V:World}{A:Option Addr}{l:List PEl}(h:PRds V V.heap.size A l){p:PEl}(hp:p∈l):okP V p:=by
 obtain⟨k,hk,rfl⟩:=List.mem_iff_getElem.1 hp
 exact(h k hk).2
structure TurI (V0:World) (g bl:Nat) (A:Option Addr) (c:Nat) (l:List PEl) (s:Nat) (W:World):Prop where
 src:W.heap[bl]?=some (.cells #[.slice A l.length c] 30 (0,0))
 below:Below V0.heap.size V0 W
section
variable {V0:World}{g bl c:Nat}{A:Option Addr}{l:List PEl}
end
section
variable {n:Nat}{ls:List (Tmp × Value)}{lb:List Bx}{w V V0:World}{e:List Num}{a:Act}
theorem Frm.get (S:Frm n ls lb w e a V){t:Tmp}{v:Value}(h:ls.find? (fun p=>p.1==t)=some (t,v)):a.tmps.getD t undef=v:=S.slots _ (List.mem_of_find?_eq_some h)
end
section
variable {V:World}{a:Act}{o:Oper}{t1 t2:Tmp}{g n c k off:Nat}
end
structure Cps (ps ps':List PEl):Prop where
 mem:∀x,x∈ps.map pv↔x∈ps'.map pv
 ne:∀i (h:i+1<ps'.length),pv ps'[i]≠pv ps'[i+1]
 sub:ps'.Sublist ps
structure Cpi (ps rs:List PEl) (K j:Nat):Prop where
 le:K<=j
 jl:j<ps.length
 lo:1<=K
 len:rs.length=ps.length
 rest:∀i (h:i<ps.length) (h':i<rs.length),K<=i->rs[i]=ps[i]
 cps:Cps (ps.take (j+1)) (rs.take K)
 last:∀(h:K - 1<rs.length),pv rs[K - 1]=pv ps[j]
section
variable {ps rs:List PEl}{K j:Nat}
theorem zem {α:Type}{l:List α}{k:Nat}(h:k<l.length):l.take (k+1)=l.take k++[l[k]]:=List.take_succ_eq_append_getElem h
theorem ziS {α:Type}{l:List α}{i j:Nat}(h:i<=j):(l.take i).Sublist (l.take j):=by
 rw[<-Nat.min_eq_left h,<-List.take_take]
 exact List.take_sublist _ _
theorem Cpi.start (hK:1<=K)(hl:K<ps.length)(hne:∀i (h:i+1<ps.length),i+1<K->pv ps[i]≠pv ps[i+1])(he:pv ps[K]=pv (ps[K - 1]'(by omega))):Cpi ps ps K K:=by
 refine⟨Nat.le_refl _,hl,hK,rfl,fun _ _ _ _=>rfl,⟨fun x=>?_,fun i h=>?_,ziS (by omega)⟩,fun _=>he.symm⟩
 ·rw[zem hl,List.map_append,List.mem_append]
  constructor
  ·rintro(h|h)
   ·exact h
   ·rw[List.map_singleton,List.mem_singleton]at h
    rw[h,he]
    refine List.mem_map.2 ⟨_,List.mem_iff_getElem.2 ⟨K - 1,by rw[List.length_take];omega,List.getElem_take⟩,rfl⟩
  ·exact .inl
 ·rw[List.length_take]at h
  rw[List.getElem_take,List.getElem_take]
  exact hne i (by omega) (by omega)
theorem Cpi.skip (h:Cpi ps rs K j)(hj:j+1<ps.length)(he:pv ps[j+1]=pv (ps[j]'(by omega))):Cpi ps rs K (j+1):=by
 refine⟨Nat.le_succ_of_le h.le,hj,h.lo,h.len,h.rest,⟨fun x=>?_,h.cps.ne,h.cps.sub.trans (ziS (by omega))⟩,fun h'=>(h.last h').trans he.symm⟩
 rw[zem hj,List.map_append,List.mem_append,<-h.cps.mem x]
 refine⟨fun h'=>?_,.inl⟩
 rcases h' with h'|h'
 ·exact h'
 ·rw[List.map_singleton,List.mem_singleton]at h'
  rw[h',he]
  exact List.mem_map.2 ⟨_,List.mem_iff_getElem.2 ⟨j,by rw[List.length_take];omega,List.getElem_take⟩,rfl⟩
theorem Cpi.put (h:Cpi ps rs K j)(hj:j+1<ps.length)(he:pv ps[j+1]≠pv (ps[j]'(by omega))):Cpi ps (rs.set K ps[j+1]) (K+1) (j+1):=by
 have hle:=h.le
 have hlo:=h.lo
 have hlen:=h.len
 have hK:K<rs.length:=by omega
 have e1:(rs.set K ps[j+1]).take (K+1)=rs.take K++[ps[j+1]]:=by
  rw[List.take_succ_eq_append_getElem (by rw[List.length_set];exact hK),List.take_set_of_le zv0,List.getElem_set_self]
 refine⟨by omega,hj,by omega,by rw[List.length_set];exact h.len,fun i h1 h2 h3=>?_,⟨fun x=>?_,fun i hi=>?_,?_⟩,fun h'=>?_⟩
 ·rw[List.getElem_set_ne (by omega)]
  exact h.rest i h1 (by rw[List.length_set]at h2;exact h2) (by omega)
 ·rw[e1,zem hj,List.map_append,List.map_append,List.mem_append,List.mem_append,h.cps.mem x]
 ·have hi':i<K:=by rw[e1,List.length_append,List.length_take,List.length_singleton]at hi;omega
  simp only[e1]
  rcases zv6 (i+1) K with h4|h4
  ·have l1:i<(rs.take K).length:=by rw[List.length_take];omega
   have l2:i+1<(rs.take K).length:=by rw[List.length_take];omega
   rw[List.getElem_append_left l1,List.getElem_append_left l2]
   exact h.cps.ne i l2
  ·obtain rfl:i=K - 1:=by omega
   have l1:K - 1<(rs.take K).length:=by rw[List.length_take];omega
   have l2:(rs.take K).length<=K - 1+1:=by rw[List.length_take];omega
   rw[List.getElem_append_left l1,List.getElem_append_right l2]
   have e2:K - 1+1 - (rs.take K).length=0:=by rw[List.length_take];omega
   simp only[e2,List.getElem_singleton,List.getElem_take]
   rw[h.last (by omega)]
   exact Ne.symm he
 ·rw[e1,zem hj]
  exact List.Sublist.append h.cps.sub (List.Sublist.refl _)
 ·simp only[Nat.add_sub_cancel,List.getElem_set_self]
theorem Cpi.done (h:Cpi ps rs K j)(hj:j+1=ps.length):Cps ps (rs.take K):=by
 have:=h.cps
 rwa [hj,List.take_length]at this
end
instance {l:List QQ}:Decidable (zre l):=by unfold zre;infer_instance
section
variable {P:Program}{ops:Array Oper}{Q:Exit -> Act -> World -> Prop}{kk n:Nat}{F:Fence}{ls ls':List (Tmp × Value)}{D:List Deferred}{a:Act}{V V':World}{o:Oper}{rest:List Oper}{t t1:Tmp}
end
section
variable {a:Act}{V:World}{o:Oper}{t1 t2:Tmp}{g p:Nat}
end
def iv (z:Int):Value:= .int .i64 z
structure AlI (V0:World) (gt bl:Nat) (A:Option Addr) (c:Nat) (r:List PEl) (s:Nat) (b0 b1 b2:Int) (W:World):Prop where
 src:W.heap[bl]?=some (.cells #[.slice A r.length c] 30 (0,0))
 below:Below V0.heap.size V0 W
end Go.Proofs.YtipckjmgdghkiaaGreatDoor
