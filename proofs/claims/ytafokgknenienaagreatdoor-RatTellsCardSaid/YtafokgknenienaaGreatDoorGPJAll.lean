/- A part. -/
import Derived.Test.YtafokgknenienaaGreatDoorGPJoin
set_option maxHeartbeats 1000000
set_option maxRecDepth 100000
namespace Go.Proofs.YtafokgknenienaaGreatDoor
open Go Go.RowKit
theorem zg2 {A:Option Addr}{cc:Nat}{f:FuncId}{z0:Int}{q:Rat}{V:World}(hOf:∀W,Calls Tryz.prog 22 #[.int .i64 z0] W (zao W (QT 1 q))):
  CallsIn Fence.wide 0 Tryz.prog 100 #[.slice A 0 cc,.int .i64 z0,.func (.func f) #[] #[]] V (zao V (QM 1 q)):=by
 refine callsIn_of_wp Tryz.func100 rfl trivial ?_ rfl
 have S:=zcY (n:=51) #[.slice A 0 cc,.int .i64 z0,.func (.func f) #[] #[]] (zuz rfl)
 refine wpIn_seq (wpIn_region_lit ?_)
 refine zaA (fun _=>trivial) S (V':=V.alloc (.cells zc.toArray 75)) (zap rfl (Tryz.zeroValue75 _) rfl) rfl rfl rfl (by decide) rfl (fun a S=>?_)
 have hb0:=(Below.refl V.heap.size V).alloc zuA (.cells zc.toArray 75)
 have hbx:(V.alloc (.cells zc.toArray 75)).heap[V.heap.size]?=some (.cells zc.toArray 75 (0,0)):=World.alloc_heap_new _ _
 generalize V.alloc (.cells zc.toArray 75)=V1 at hb0 hbx ⊢
 refine wpIn_seq (wpIn_seq (wpIn_region_lit ?_))
 refine zaA (fun _=>trivial) S (zad rfl (S.at 1 rfl)) rfl rfl rfl (by decide) rfl (fun a S=>?_)
 refine zaA (fun _=>trivial) S (zcP (.inr (.inl rfl)) rfl (S.at 0 rfl)) rfl rfl rfl (by decide) rfl (fun a S=>?_)
 refine zaA (fun _=>trivial) S (zct _ (.inl rfl) rfl (S.at 0 rfl) rfl) rfl rfl rfl (by decide) rfl (fun a S=>?_)
 refine wpIn_cond (t:=decide (((0:Nat):Int)=0)) (S.at 0 rfl) ?_
 rw[if_pos (by decide)]
 refine wpIn_seq (wpIn_region_lit ?_)
 refine zaA (fun _=>trivial) S (zad rfl (S.get rfl)) rfl rfl rfl (by decide) rfl (fun a S=>?_)
 refine zcg S (zcZ ⟨_,rfl⟩ (S.get rfl) (enters_of Tryz.func22 (by kernel_rfl) rfl)) (hOf _) rfl rfl rfl (by decide) rfl (fun u a V2 hu hb2 S=>?_)
 refine zcg S (zcZ ⟨_,rfl⟩ (S.get rfl) (enters_of Tryz.func86 (by kernel_rfl) rfl)) (zbA hu.any (by omega)) rfl rfl rfl (by decide) rfl (fun u a V3 hu hb3 S=>?_)
 have hbx3:=(hb3.block _ (by have:=hb2.size;have:=(Array.getElem?_eq_some_iff.1 hbx).1;omega)).trans ((hb2.block _ (Array.getElem?_eq_some_iff.1 hbx).1).trans hbx)
 obtain⟨p,rfl,p0,pq,pK,po⟩:=zo3 hu
 have hS:=zb7 (o:=0) (vs:=zaP p) hbx3 rfl rfl
 refine zco (fun _=>trivial) S (V':=V3.setCells V.heap.size 0 (zaP p)) (zah (m:=3) rfl (S.get rfl) (S.get rfl) zaF rfl zuA (fun j hj=>?_)) rfl rfl rfl (fun a S=>?_)
 ·constructor
  ·rw[cell_of_row V3 V.heap.size j _ _ (0,0) hbx3]
   rcases(by omega:j=0∨j=1∨j=2)with rfl|rfl|rfl <;> rfl
  ·exact zex hbx3
 have hr6:a.tmps.getD 6 undef= .pointer (some ⟨V.heap.size,0,none⟩):=S.get rfl
 have hb03:Below V.heap.size V V3:=(hb0.trans (hb2.mono hb0.size)).trans (hb3.mono (by have:=hb0.size;have:=hb2.size;omega))
 refine wpIn_ret ?_
 exact bodyPost_ret (results_cell_row rfl a.tmps _ V.heap.size _ _ (0,0) _ hr6 (hS.cells hbx3) Tryz.underlying75 rfl zaF) S.defers
  ⟨_,rfl,⟨p.1,p.2.1,p.2.2,rfl,⟨p0,pq⟩,by omega,by omega,hS.num po.1,hS.num po.2⟩,hb03.trans (hS.below zuA)⟩
section
variable {V:World}{K:Nat}{l:List Rat}{v:Value}
theorem zsS {B:Nat}{q:Rat}(T:TT V)(hB:B≤10000)(hj:∀W,Below V.heap.size V W→Calls Tryz.prog 100 #[v,.int .i64 0,.func (.func 101) #[] #[]] W (zao W (QM B q))):Calls Tryz.prog 28 #[v] V (zao V (QT B q)):=by
 refine(callsIn_wide (n:=0)).1 (callsIn_of_wp Tryz.func28 rfl trivial ?_ rfl)
 have S:=zcY (n:=6) #[v] (zuz rfl)
 refine wpIn_seq (wpIn_region_lit ?_)
 refine zaA (fun _=>trivial) S (V':=V.alloc (.cells zc.toArray 27)) (zap rfl (Tryz.zeroValue27 _) rfl) rfl rfl rfl (by decide) rfl (fun a S=>?_)
 have hb0:=(Below.refl V.heap.size V).alloc zuA (.cells zc.toArray 27)
 have hbx:(V.alloc (.cells zc.toArray 27)).heap[V.heap.size]?=some (.cells zc.toArray 27 (0,0)):=World.alloc_heap_new _ _
 generalize V.alloc (.cells zc.toArray 27)=V1 at hb0 hbx ⊢
 refine wpIn_seq (wpIn_region_lit ?_)
 refine zaA (fun _=>trivial) S (zad rfl (S.get rfl)) rfl rfl rfl (by decide) rfl (fun a S=>?_)
 refine zcg S (zfr ⟨_,rfl⟩ (S.get rfl) (enters_of Tryz.func100 (by kernel_rfl) rfl)) (hj _ hb0) rfl rfl rfl (by decide) rfl (fun u a V2 hu hb2 S=>?_)
 refine zcg S (zcZ ⟨_,rfl⟩ (S.get rfl) (enters_of Tryz.func78 (by kernel_rfl) rfl)) (zdw ((T.keep hb0).keep hb2) hu (by omega)) rfl rfl rfl (by decide) rfl (fun u a V3 hu hb3 S=>?_)
 have hbx3:=(hb3.block _ (by have:=hb2.size;have:=(Array.getElem?_eq_some_iff.1 hbx).1;omega)).trans ((hb2.block _ (Array.getElem?_eq_some_iff.1 hbx).1).trans hbx)
 obtain⟨b,x,y,rfl,hq,hx,hy,ox,oy⟩:=hu
 have hS:=zb7 (o:=0) (vs:=[.bool b,.slice x.A x.n x.c,.slice y.A y.n y.c]) hbx3 rfl rfl
 refine zco (fun _=>trivial) S (V':=V3.setCells V.heap.size 0 [.bool b,.slice x.A x.n x.c,.slice y.A y.n y.c]) (zah (m:=3) rfl (S.get rfl) (S.get rfl) zae rfl zuA (fun j hj=>?_)) rfl rfl rfl (fun a S=>?_)
 ·constructor
  ·rw[cell_of_row V3 V.heap.size j _ _ (0,0) hbx3]
   rcases(by omega:j=0∨j=1∨j=2)with rfl|rfl|rfl <;> rfl
  ·exact zex hbx3
 have hr2:a.tmps.getD 2 undef= .pointer (some ⟨V.heap.size,0,none⟩):=S.get rfl
 have hb03:Below V.heap.size V V3:=(hb0.trans (hb2.mono hb0.size)).trans (hb3.mono (by have:=hb0.size;have:=hb2.size;omega))
 refine wpIn_ret ?_
 exact bodyPost_ret (results_cell_row rfl a.tmps _ V.heap.size _ _ (0,0) _ hr2 (hS.cells hbx3) Tryz.underlying27 rfl zae) S.defers ⟨_,rfl,⟨b,x,y,rfl,hq,hx,hy,hS.num ox,hS.num oy⟩,hb03.trans (hS.below zuA)⟩
theorem zsT {B:Nat}{q:Rat}(T:TT V)(hB:B≤10000)(hj:∀W,Below V.heap.size V W→Calls Tryz.prog 100 #[v,.int .i64 1,.func (.func 88) #[] #[]] W (zao W (QM B q))):Calls Tryz.prog 30 #[v] V (zao V (QT B q)):=by
 refine(callsIn_wide (n:=0)).1 (callsIn_of_wp Tryz.func30 rfl trivial ?_ rfl)
 have S:=zcY (n:=6) #[v] (zuz rfl)
 refine wpIn_seq (wpIn_region_lit ?_)
 refine zaA (fun _=>trivial) S (V':=V.alloc (.cells zc.toArray 27)) (zap rfl (Tryz.zeroValue27 _) rfl) rfl rfl rfl (by decide) rfl (fun a S=>?_)
 have hb0:=(Below.refl V.heap.size V).alloc zuA (.cells zc.toArray 27)
 have hbx:(V.alloc (.cells zc.toArray 27)).heap[V.heap.size]?=some (.cells zc.toArray 27 (0,0)):=World.alloc_heap_new _ _
 generalize V.alloc (.cells zc.toArray 27)=V1 at hb0 hbx ⊢
 refine wpIn_seq (wpIn_region_lit ?_)
 refine zaA (fun _=>trivial) S (zad rfl (S.get rfl)) rfl rfl rfl (by decide) rfl (fun a S=>?_)
 refine zcg S (zfr ⟨_,rfl⟩ (S.get rfl) (enters_of Tryz.func100 (by kernel_rfl) rfl)) (hj _ hb0) rfl rfl rfl (by decide) rfl (fun u a V2 hu hb2 S=>?_)
 refine zcg S (zcZ ⟨_,rfl⟩ (S.get rfl) (enters_of Tryz.func78 (by kernel_rfl) rfl)) (zdw ((T.keep hb0).keep hb2) hu (by omega)) rfl rfl rfl (by decide) rfl (fun u a V3 hu hb3 S=>?_)
 have hbx3:=(hb3.block _ (by have:=hb2.size;have:=(Array.getElem?_eq_some_iff.1 hbx).1;omega)).trans ((hb2.block _ (Array.getElem?_eq_some_iff.1 hbx).1).trans hbx)
 obtain⟨b,x,y,rfl,hq,hx,hy,ox,oy⟩:=hu
 have hS:=zb7 (o:=0) (vs:=[.bool b,.slice x.A x.n x.c,.slice y.A y.n y.c]) hbx3 rfl rfl
 refine zco (fun _=>trivial) S (V':=V3.setCells V.heap.size 0 [.bool b,.slice x.A x.n x.c,.slice y.A y.n y.c]) (zah (m:=3) rfl (S.get rfl) (S.get rfl) zae rfl zuA (fun j hj=>?_)) rfl rfl rfl (fun a S=>?_)
 ·constructor
  ·rw[cell_of_row V3 V.heap.size j _ _ (0,0) hbx3]
   rcases(by omega:j=0∨j=1∨j=2)with rfl|rfl|rfl <;> rfl
  ·exact zex hbx3
 have hr2:a.tmps.getD 2 undef= .pointer (some ⟨V.heap.size,0,none⟩):=S.get rfl
 have hb03:Below V.heap.size V V3:=(hb0.trans (hb2.mono hb0.size)).trans (hb3.mono (by have:=hb0.size;have:=hb2.size;omega))
 refine wpIn_ret ?_
 exact bodyPost_ret (results_cell_row rfl a.tmps _ V.heap.size _ _ (0,0) _ hr2 (hS.cells hbx3) Tryz.underlying27 rfl zae) S.defers ⟨_,rfl,⟨b,x,y,rfl,hq,hx,hy,hS.num ox,hS.num oy⟩,hb03.trans (hS.below zuA)⟩
theorem zoY (T:TT V)(h:QRow K l v V)(hK:K≤1000)(hB:l.length*(max K 1+1)≤4000):Calls Tryz.prog 28 #[v] V (zao V (QT (max 1 (l.length*(max K 1+1))) (zcG l))):=by
 by_cases hne:l=[]
 ·subst hne
  obtain⟨A,cc,pa,rfl,hR,hpa,-⟩:=h
  obtain rfl:pa=[]:=List.map_eq_nil_iff.1 hpa
  exact zbn (zsS (V:=V) (v:= .slice A 0 cc) T (B:=1) (by omega) (fun W _=>callsIn_wide.1 (zg2 fun W=>zj5))) (fun _ _ h=>h.to rfl (by omega))
 ·exact zbn (ztK T h hne hK hB) (fun _ _ h=>h.to rfl (by omega))
theorem zoZ (T:TT V)(h:QRow K l v V)(hK:K≤1000)(hB:l.length*(max K 1+0)≤4000):Calls Tryz.prog 30 #[v] V (zao V (QT (max 1 (l.length*(max K 1+0))) (zbd l))):=by
 by_cases hne:l=[]
 ·subst hne
  obtain⟨A,cc,pa,rfl,hR,hpa,-⟩:=h
  obtain rfl:pa=[]:=List.map_eq_nil_iff.1 hpa
  exact zbn (zsT (V:=V) (v:= .slice A 0 cc) T (B:=1) (by omega) (fun W _=>callsIn_wide.1 (zg2 fun W=>ztT))) (fun _ _ h=>h.to rfl (by omega))
 ·exact zbn (ztL T h hne hK hB) (fun _ _ h=>h.to rfl (by omega))
end
end Go.Proofs.YtafokgknenienaaGreatDoor
