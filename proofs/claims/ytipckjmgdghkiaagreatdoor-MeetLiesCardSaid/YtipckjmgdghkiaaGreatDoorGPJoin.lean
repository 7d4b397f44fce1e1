/- Contracts of package rat's Add, Mul. -/
import Derived.Test.YtipckjmgdghkiaaGreatDoorGPJs
import Derived.Test.YtipckjmgdghkiaaGreatDoorGRatL
set_option maxHeartbeats 1000000
namespace Go.Proofs.YtipckjmgdghkiaaGreatDoor
open Go Go.RowKit
theorem zkC {a:Act}{V:World}{o:Oper}{t1:Tmp}{v1:Value}{f h:FuncId}{z:Int}(hop:∃ts,o.op= .call { callee:= .value (.func f),args:= #[.tmp t1,.const (.int .i64 z),.func h],argTypes:=ts })(h1:a.tmps.getD t1 undef=v1)(en:∀args w,(callFunc f args).run Tryz.prog w= .ok (.enter f args) w):
  (execOp a.eval o).run Tryz.prog V= .ok (.enter f #[v1,.int .i64 z,.func (.func h) #[] #[]]) V:=by
 rw[zae]at h1
 obtain⟨dst,op,ty,pos,after,guard⟩:=o
 obtain⟨ts,hop⟩:=hop
 simp only at hop
 subst hop
 have:=en #[v1,.int .i64 z,.func (.func h) #[] #[]] V
 go_simp
theorem zn6:Joins zdw (· + ·):=⟨fun q=>by simp[zdw,Rat.zero_add],fun l q q' r=>by simp[zdw,List.foldl_append,Rat.add_assoc]⟩
theorem zlU:Joins zbb (· * ·):=⟨fun q=>by simp[zbb,Rat.one_mul],fun l q q' r=>by simp[zbb,List.foldl_append,Rat.mul_assoc]⟩
theorem zr2:FJ 82 (· + ·) 1:=fun T h1 h2 hK hK'=>zqd T h1 h2 hK hK'
theorem zuN:FJ 79 (· * ·) 0:=by
 intro V K K' q1 q2 v1 v2 _ h1 h2 hK hK'
 exact zuW (K:=K) (K':=K') h1 h2 (by omega) (by omega)
section
variable {V:World}{K:Nat}{l:List Rat}{v:Value}
theorem zuO (T:TT V)(h:QRow K l v V)(hne:l≠[])(hK:K<=1000)(hB:l.length*(max K 1+1)<=4000):Calls Tryz.prog 39 #[v] V (zaf V (QT (l.length*(max K 1+1) - 1) (zdw l))):=by
 refine(callsIn_wide (n:=0)).1 (callsIn_of_wp Tryz.func39 rfl trivial ?_ rfl)
 have S:=zfW (n:=6) #[v] (zvZ rfl)
 refine wpIn_seq (wpIn_region_lit ?_)
 refine zaE (fun _=>trivial) S (V':=V.alloc (.cells zc.toArray 27)) (zam rfl (Tryz.zeroValue27 _) rfl) rfl rfl rfl (by decide) rfl (fun a S=>?_)
 have hb0:=(Below.refl V.heap.size V).alloc zv0 (.cells zc.toArray 27)
 have hbx:(V.alloc (.cells zc.toArray 27)).heap[V.heap.size]?=some (.cells zc.toArray 27 (0,0)):=World.alloc_heap_new _ _
 generalize V.alloc (.cells zc.toArray 27)=V1 at hb0 hbx ⊢
 refine wpIn_seq (wpIn_region_lit ?_)
 refine zaE (fun _=>trivial) S (zao rfl (S.get rfl)) rfl rfl rfl (by decide) rfl (fun a S=>?_)
 refine zeX S (zkC ⟨_,rfl⟩ (S.get rfl) (enters_of Tryz.func86 (by kernel_rfl) rfl)) (callsIn_wide.1 (ziB (T.keep hb0) (h.keep hb0) hne hK zr2 (enters_of Tryz.func82 (by kernel_rfl) rfl) zn6 hB)) rfl rfl rfl (by decide) rfl (fun u a V2 hu hb2 S=>?_)
 refine zeX S (zf3 ⟨_,rfl⟩ (S.get rfl) (enters_of Tryz.func81 (by kernel_rfl) rfl)) (zhE ((T.keep hb0).keep hb2) hu) rfl rfl rfl (by decide) rfl (fun u a V3 hu hb3 S=>?_)
 have hbx3:=(hb3.block _ (by have:=hb2.size;have:=(Array.getElem?_eq_some_iff.1 hbx).1;omega)).trans ((hb2.block _ (Array.getElem?_eq_some_iff.1 hbx).1).trans hbx)
 obtain⟨b,x,y,rfl,hq,hx,hy,ox,oy⟩:=hu
 have hS:=zcM (o:=0) (vs:=(aL b x y)) hbx3 rfl rfl
 refine zdh (fun _=>trivial) S (V':=V3.setCells V.heap.size 0 (aL b x y)) (zaj (m:=3) rfl (S.get rfl) (S.get rfl) zah rfl zv0 (fun j hj=>?_)) rfl rfl rfl (fun a S=>?_)
 ·constructor
  ·rw[cell_of_row V3 V.heap.size j _ _ (0,0) hbx3]
   rcases(by omega:j=0\/j=1\/j=2)with rfl|rfl|rfl <;> rfl
  ·exact zjs hbx3
 have hr2:a.tmps.getD 2 undef= .pointer (some ⟨V.heap.size,0,none⟩):=S.get rfl
 have hb03:Below V.heap.size V V3:=(hb0.trans (hb2.mono hb0.size)).trans (hb3.mono (by have:=hb0.size;have:=hb2.size;omega))
 refine wpIn_ret ?_
 exact bodyPost_ret (results_cell_row rfl a.tmps _ V.heap.size _ _ (0,0) _ hr2 (hS.cells hbx3) Tryz.underlying27 rfl zah) S.defers ⟨_,rfl,⟨b,x,y,rfl,hq,hx,hy,hS.num ox,hS.num oy⟩,hb03.trans (hS.below zv0)⟩
theorem zuP (T:TT V)(h:QRow K l v V)(hne:l≠[])(hK:K<=1000)(hB:l.length*(max K 1+0)<=4000):Calls Tryz.prog 40 #[v] V (zaf V (QT (l.length*(max K 1+0) - 0) (zbb l))):=by
 refine(callsIn_wide (n:=0)).1 (callsIn_of_wp Tryz.func40 rfl trivial ?_ rfl)
 have S:=zfW (n:=6) #[v] (zvZ rfl)
 refine wpIn_seq (wpIn_region_lit ?_)
 refine zaE (fun _=>trivial) S (V':=V.alloc (.cells zc.toArray 27)) (zam rfl (Tryz.zeroValue27 _) rfl) rfl rfl rfl (by decide) rfl (fun a S=>?_)
 have hb0:=(Below.refl V.heap.size V).alloc zv0 (.cells zc.toArray 27)
 have hbx:(V.alloc (.cells zc.toArray 27)).heap[V.heap.size]?=some (.cells zc.toArray 27 (0,0)):=World.alloc_heap_new _ _
 generalize V.alloc (.cells zc.toArray 27)=V1 at hb0 hbx ⊢
 refine wpIn_seq (wpIn_region_lit ?_)
 refine zaE (fun _=>trivial) S (zao rfl (S.get rfl)) rfl rfl rfl (by decide) rfl (fun a S=>?_)
 refine zeX S (zkC ⟨_,rfl⟩ (S.get rfl) (enters_of Tryz.func86 (by kernel_rfl) rfl)) (callsIn_wide.1 (ziB (T.keep hb0) (h.keep hb0) hne hK zuN (enters_of Tryz.func79 (by kernel_rfl) rfl) zlU hB)) rfl rfl rfl (by decide) rfl (fun u a V2 hu hb2 S=>?_)
 refine zeX S (zf3 ⟨_,rfl⟩ (S.get rfl) (enters_of Tryz.func81 (by kernel_rfl) rfl)) (zhE ((T.keep hb0).keep hb2) hu) rfl rfl rfl (by decide) rfl (fun u a V3 hu hb3 S=>?_)
 have hbx3:=(hb3.block _ (by have:=hb2.size;have:=(Array.getElem?_eq_some_iff.1 hbx).1;omega)).trans ((hb2.block _ (Array.getElem?_eq_some_iff.1 hbx).1).trans hbx)
 obtain⟨b,x,y,rfl,hq,hx,hy,ox,oy⟩:=hu
 have hS:=zcM (o:=0) (vs:=(aL b x y)) hbx3 rfl rfl
 refine zdh (fun _=>trivial) S (V':=V3.setCells V.heap.size 0 (aL b x y)) (zaj (m:=3) rfl (S.get rfl) (S.get rfl) zah rfl zv0 (fun j hj=>?_)) rfl rfl rfl (fun a S=>?_)
 ·constructor
  ·rw[cell_of_row V3 V.heap.size j _ _ (0,0) hbx3]
   rcases(by omega:j=0\/j=1\/j=2)with rfl|rfl|rfl <;> rfl
  ·exact zjs hbx3
 have hr2:a.tmps.getD 2 undef= .pointer (some ⟨V.heap.size,0,none⟩):=S.get rfl
 have hb03:Below V.heap.size V V3:=(hb0.trans (hb2.mono hb0.size)).trans (hb3.mono (by have:=hb0.size;have:=hb2.size;omega))
 refine wpIn_ret ?_
 exact bodyPost_ret (results_cell_row rfl a.tmps _ V.heap.size _ _ (0,0) _ hr2 (hS.cells hbx3) Tryz.underlying27 rfl zah) S.defers ⟨_,rfl,⟨b,x,y,rfl,hq,hx,hy,hS.num ox,hS.num oy⟩,hb03.trans (hS.below zv0)⟩
end
end Go.Proofs.YtipckjmgdghkiaaGreatDoor
