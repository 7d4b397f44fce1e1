/- Contracts of package rat's Add, Mul. -/
import Derived.Test.YtdeelcoipmdoiaaGreatDoorGPJs
import Derived.Test.YtdeelcoipmdoiaaGreatDoorGRatL
set_option maxHeartbeats 1000000
namespace Go.Proofs.YtdeelcoipmdoiaaGreatDoor
open Go Go.RowKit
theorem zpw {a:Act}{V:World}{o:Oper}{t1:Tmp}{v1:Value}{f h:FuncId}{z:Int}(hop:∃ts,o.op= .call { callee:= .value (.func f),args:= #[.tmp t1,.const (.int .i64 z),.func h],argTypes:=ts })(h1:a.tmps.getD t1 undef=v1)(en:∀args w,(callFunc f args).run Tryz.prog w= .ok (.enter f args) w):
  (execOp a.eval o).run Tryz.prog V= .ok (.enter f #[v1,.int .i64 z,.func (.func h) #[] #[]]) V:=by
 rw[zaf]at h1
 obtain⟨dst,op,ty,pos,after,guard⟩:=o
 obtain⟨ts,hop⟩:=hop
 simp only at hop
 subst hop
 have:=en #[v1,.int .i64 z,.func (.func h) #[] #[]] V
 go_simp
theorem zly:Joins zbb (· * ·):=⟨fun q=>by simp[zbb,Rat.one_mul],fun l q q' r=>by simp[zbb,List.foldl_append,Rat.mul_assoc]⟩
theorem zt0:FJ 87 (· * ·) 0:=by
 intro V K K' q1 q2 v1 v2 _ h1 h2 hK hK'
 exact zuM (K:=K) (K':=K') h1 h2 (by omega) (by omega)
section
variable {V:World}{K:Nat}{l:List Rat}{v:Value}
theorem zt1 (T:TT V)(h:QRow K l v V)(hne:l≠[])(hK:K≤1000)(hB:l.length*(max K 1+0)≤4000):Calls Tryz.prog 65 #[v] V (zaj V (QT (l.length*(max K 1+0) - 0) (zbb l))):=by
 refine(callsIn_wide (n:=0)).1 (callsIn_of_wp Tryz.func65 rfl trivial ?_ rfl)
 have S:=zdm (n:=6) #[v] (zu0 rfl)
 refine wpIn_seq (wpIn_region_lit ?_)
 refine zal (fun _=>trivial) S (V':=V.alloc (.cells zc.toArray 27)) (zay rfl (Tryz.zeroValue27 _) rfl) rfl rfl rfl (by decide) rfl (fun a S=>?_)
 have hb0:=(Below.refl V.heap.size V).alloc zu1 (.cells zc.toArray 27)
 have hbx:(V.alloc (.cells zc.toArray 27)).heap[V.heap.size]?=some (.cells zc.toArray 27 (0,0)):=World.alloc_heap_new _ _
 generalize V.alloc (.cells zc.toArray 27)=V1 at hb0 hbx ⊢
 refine wpIn_seq (wpIn_region_lit ?_)
 refine zal (fun _=>trivial) S (zab rfl (S.get rfl)) rfl rfl rfl (by decide) rfl (fun a S=>?_)
 refine zd1 S (zpw ⟨_,rfl⟩ (S.get rfl) (enters_of Tryz.func86 (by kernel_rfl) rfl)) (callsIn_wide.1 (znB (T.keep hb0) (h.keep hb0) hne hK zt0 (enters_of Tryz.func87 (by kernel_rfl) rfl) zly hB)) rfl rfl rfl (by decide) rfl (fun u a V2 hu hb2 S=>?_)
 refine zd1 S (zc3 ⟨_,rfl⟩ (S.get rfl) (enters_of Tryz.func85 (by kernel_rfl) rfl)) (zpH ((T.keep hb0).keep hb2) hu (by omega)) rfl rfl rfl (by decide) rfl (fun u a V3 hu hb3 S=>?_)
 have hbx3:=(hb3.block _ (by have:=hb2.size;have:=(Array.getElem?_eq_some_iff.1 hbx).1;omega)).trans ((hb2.block _ (Array.getElem?_eq_some_iff.1 hbx).1).trans hbx)
 obtain⟨b,x,y,rfl,hq,hx,hy,ox,oy⟩:=hu
 have hS:=zbW (o:=0) (vs:=(aL b x y)) hbx3 rfl rfl
 refine zco (fun _=>trivial) S (V':=V3.setCells V.heap.size 0 (aL b x y)) (zaw (m:=3) rfl (S.get rfl) (S.get rfl) zas rfl zu1 (fun j hj=>?_)) rfl rfl rfl (fun a S=>?_)
 ·constructor
  ·rw[cell_of_row V3 V.heap.size j _ _ (0,0) hbx3]
   rcases(by omega:j=0∨j=1∨j=2)with rfl|rfl|rfl <;> rfl
  ·exact zgJ hbx3
 have hr2:a.tmps.getD 2 undef= .pointer (some ⟨V.heap.size,0,none⟩):=S.get rfl
 have hb03:Below V.heap.size V V3:=(hb0.trans (hb2.mono hb0.size)).trans (hb3.mono (by have:=hb0.size;have:=hb2.size;omega))
 refine wpIn_ret ?_
 exact bodyPost_ret (results_cell_row rfl a.tmps _ V.heap.size _ _ (0,0) _ hr2 (hS.cells hbx3) Tryz.underlying27 rfl zas) S.defers ⟨_,rfl,⟨b,x,y,rfl,hq,hx,hy,hS.num ox,hS.num oy⟩,hb03.trans (hS.below zu1)⟩
end
end Go.Proofs.YtdeelcoipmdoiaaGreatDoor
