/- Contracts of package rat's Add, Mul. -/
import Derived.Test.YtafokgknenienaaGreatDoorGPJs
import Derived.Test.YtafokgknenienaaGreatDoorGRatL
set_option maxHeartbeats 1000000
namespace Go.Proofs.YtafokgknenienaaGreatDoor
open Go Go.RowKit
theorem zja {a:Act}{V:World}{o:Oper}{t1:Tmp}{v1:Value}{f h:FuncId}{z:Int}(hop:∃ts,o.op= .call { callee:= .value (.func f),args:= #[.tmp t1,.const (.int .i64 z),.func h],argTypes:=ts })(h1:a.tmps.getD t1 undef=v1)(en:∀args w,(callFunc f args).run Tryz.prog w= .ok (.enter f args) w):
  (execOp a.eval o).run Tryz.prog V= .ok (.enter f #[v1,.int .i64 z,.func (.func h) #[] #[]]) V:=by
 rw[zah]at h1
 obtain⟨dst,op,ty,pos,after,guard⟩:=o
 obtain⟨ts,hop⟩:=hop
 simp only at hop
 subst hop
 have:=en #[v1,.int .i64 z,.func (.func h) #[] #[]] V
 go_simp
theorem zma:Joins zc0 (· + ·):=⟨fun q=>by simp[zc0,Rat.zero_add],fun l q q' r=>by simp[zc0,List.foldl_append,Rat.add_assoc]⟩
theorem zkg:Joins zbb (· * ·):=⟨fun q=>by simp[zbb,Rat.one_mul],fun l q q' r=>by simp[zbb,List.foldl_append,Rat.mul_assoc]⟩
theorem zpE:FJ 101 (· + ·) 1:=fun T h1 h2 hK hK'=>znX T h1 h2 hK hK'
theorem zr3:FJ 88 (· * ·) 0:=by
 intro V K K' q1 q2 v1 v2 _ h1 h2 hK hK'
 exact zsV (K:=K) (K':=K') h1 h2 (by omega) (by omega)
section
variable {V:World}{K:Nat}{l:List Rat}{v:Value}
theorem zr4 (T:TT V)(h:QRow K l v V)(hne:l≠[])(hK:K≤1000)(hB:l.length*(max K 1+1)≤4000):Calls Tryz.prog 28 #[v] V (zai V (QT (l.length*(max K 1+1) - 1) (zc0 l))):=by
 refine(callsIn_wide (n:=0)).1 (callsIn_of_wp Tryz.func28 rfl trivial ?_ rfl)
 have S:=zeY (n:=6) #[v] (zta rfl)
 refine wpIn_seq (wpIn_region_lit ?_)
 refine zaE (fun _=>trivial) S (V':=V.alloc (.cells zc.toArray 27)) (zas rfl (Tryz.zeroValue27 _) rfl) rfl rfl rfl (by decide) rfl (fun a S=>?_)
 have hb0:=(Below.refl V.heap.size V).alloc ztb (.cells zc.toArray 27)
 have hbx:(V.alloc (.cells zc.toArray 27)).heap[V.heap.size]?=some (.cells zc.toArray 27 (0,0)):=World.alloc_heap_new _ _
 generalize V.alloc (.cells zc.toArray 27)=V1 at hb0 hbx ⊢
 refine wpIn_seq (wpIn_region_lit ?_)
 refine zaE (fun _=>trivial) S (zad rfl (S.get rfl)) rfl rfl rfl (by decide) rfl (fun a S=>?_)
 refine zec S (zja ⟨_,rfl⟩ (S.get rfl) (enters_of Tryz.func100 (by kernel_rfl) rfl)) (callsIn_wide.1 (zhm (T.keep hb0) (h.keep hb0) hne hK zpE (enters_of Tryz.func101 (by kernel_rfl) rfl) zma hB)) rfl rfl rfl (by decide) rfl (fun u a V2 hu hb2 S=>?_)
 refine zec S (ze6 ⟨_,rfl⟩ (S.get rfl) (enters_of Tryz.func78 (by kernel_rfl) rfl)) (zgs ((T.keep hb0).keep hb2) hu (by omega)) rfl rfl rfl (by decide) rfl (fun u a V3 hu hb3 S=>?_)
 have hbx3:=(hb3.block _ (by have:=hb2.size;have:=(Array.getElem?_eq_some_iff.1 hbx).1;omega)).trans ((hb2.block _ (Array.getElem?_eq_some_iff.1 hbx).1).trans hbx)
 obtain⟨b,x,y,rfl,hq,hx,hy,ox,oy⟩:=hu
 have hS:=zcs (o:=0) (vs:=(aL b x y)) hbx3 rfl rfl
 refine zcN (fun _=>trivial) S (V':=V3.setCells V.heap.size 0 (aL b x y)) (zal (m:=3) rfl (S.get rfl) (S.get rfl) zag rfl ztb (fun j hj=>?_)) rfl rfl rfl (fun a S=>?_)
 ·constructor
  ·rw[cell_of_row V3 V.heap.size j _ _ (0,0) hbx3]
   rcases(by omega:j=0∨j=1∨j=2)with rfl|rfl|rfl <;> rfl
  ·exact zf5 hbx3
 have hr2:a.tmps.getD 2 undef= .pointer (some ⟨V.heap.size,0,none⟩):=S.get rfl
 have hb03:Below V.heap.size V V3:=(hb0.trans (hb2.mono hb0.size)).trans (hb3.mono (by have:=hb0.size;have:=hb2.size;omega))
 refine wpIn_ret ?_
 exact bodyPost_ret (results_cell_row rfl a.tmps _ V.heap.size _ _ (0,0) _ hr2 (hS.cells hbx3) Tryz.underlying27 rfl zag) S.defers ⟨_,rfl,⟨b,x,y,rfl,hq,hx,hy,hS.num ox,hS.num oy⟩,hb03.trans (hS.below ztb)⟩
theorem zr5 (T:TT V)(h:QRow K l v V)(hne:l≠[])(hK:K≤1000)(hB:l.length*(max K 1+0)≤4000):Calls Tryz.prog 30 #[v] V (zai V (QT (l.length*(max K 1+0) - 0) (zbb l))):=by
 refine(callsIn_wide (n:=0)).1 (callsIn_of_wp Tryz.func30 rfl trivial ?_ rfl)
 have S:=zeY (n:=6) #[v] (zta rfl)
 refine wpIn_seq (wpIn_region_lit ?_)
 refine zaE (fun _=>trivial) S (V':=V.alloc (.cells zc.toArray 27)) (zas rfl (Tryz.zeroValue27 _) rfl) rfl rfl rfl (by decide) rfl (fun a S=>?_)
 have hb0:=(Below.refl V.heap.size V).alloc ztb (.cells zc.toArray 27)
 have hbx:(V.alloc (.cells zc.toArray 27)).heap[V.heap.size]?=some (.cells zc.toArray 27 (0,0)):=World.alloc_heap_new _ _
 generalize V.alloc (.cells zc.toArray 27)=V1 at hb0 hbx ⊢
 refine wpIn_seq (wpIn_region_lit ?_)
 refine zaE (fun _=>trivial) S (zad rfl (S.get rfl)) rfl rfl rfl (by decide) rfl (fun a S=>?_)
 refine zec S (zja ⟨_,rfl⟩ (S.get rfl) (enters_of Tryz.func100 (by kernel_rfl) rfl)) (callsIn_wide.1 (zhm (T.keep hb0) (h.keep hb0) hne hK zr3 (enters_of Tryz.func88 (by kernel_rfl) rfl) zkg hB)) rfl rfl rfl (by decide) rfl (fun u a V2 hu hb2 S=>?_)
 refine zec S (ze6 ⟨_,rfl⟩ (S.get rfl) (enters_of Tryz.func78 (by kernel_rfl) rfl)) (zgs ((T.keep hb0).keep hb2) hu (by omega)) rfl rfl rfl (by decide) rfl (fun u a V3 hu hb3 S=>?_)
 have hbx3:=(hb3.block _ (by have:=hb2.size;have:=(Array.getElem?_eq_some_iff.1 hbx).1;omega)).trans ((hb2.block _ (Array.getElem?_eq_some_iff.1 hbx).1).trans hbx)
 obtain⟨b,x,y,rfl,hq,hx,hy,ox,oy⟩:=hu
 have hS:=zcs (o:=0) (vs:=(aL b x y)) hbx3 rfl rfl
 refine zcN (fun _=>trivial) S (V':=V3.setCells V.heap.size 0 (aL b x y)) (zal (m:=3) rfl (S.get rfl) (S.get rfl) zag rfl ztb (fun j hj=>?_)) rfl rfl rfl (fun a S=>?_)
 ·constructor
  ·rw[cell_of_row V3 V.heap.size j _ _ (0,0) hbx3]
   rcases(by omega:j=0∨j=1∨j=2)with rfl|rfl|rfl <;> rfl
  ·exact zf5 hbx3
 have hr2:a.tmps.getD 2 undef= .pointer (some ⟨V.heap.size,0,none⟩):=S.get rfl
 have hb03:Below V.heap.size V V3:=(hb0.trans (hb2.mono hb0.size)).trans (hb3.mono (by have:=hb0.size;have:=hb2.size;omega))
 refine wpIn_ret ?_
 exact bodyPost_ret (results_cell_row rfl a.tmps _ V.heap.size _ _ (0,0) _ hr2 (hS.cells hbx3) Tryz.underlying27 rfl zag) S.defers ⟨_,rfl,⟨b,x,y,rfl,hq,hx,hy,hS.num ox,hS.num oy⟩,hb03.trans (hS.below ztb)⟩
end
theorem znM (w:World):AddMul w:=
 ⟨fun T _ h hK=>zbN (zr4 T h (by simp) hK (by simp only[List.length_cons,List.length_nil];omega)) (fun _ _ h=>h.to (by simp[zc0,Rat.zero_add]) (by simp only[List.length_cons,List.length_nil];omega)),
  fun T _ h hK=>zbN (zr5 T h (by simp) hK (by simp only[List.length_cons,List.length_nil];omega)) (fun _ _ h=>h.to (by simp[zbb,Rat.one_mul]) (by simp only[List.length_cons,List.length_nil];omega))⟩
end Go.Proofs.YtafokgknenienaaGreatDoor
