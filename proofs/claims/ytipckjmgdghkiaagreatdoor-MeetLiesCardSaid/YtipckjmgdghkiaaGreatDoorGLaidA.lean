/- A part. -/
import Derived.OpenShut
import Derived.ChangeSame
import Derived.ChangeSlices
import Derived.JoinedOf
import Derived.JoinedAt
import Derived.RowKit
import Derived.RowKit2
import Derived.RowKit3
import Derived.ReadAgain
import Derived.WideKeyArgs
import Derived.SizedLaws
import Derived.Deep.Matrix
import Derived.Deep.OwnRows
import Derived.Deep.SlicePairs
import Derived.Test.YtipckjmgdghkiaaGreatDoorGRPro
set_option maxRecDepth 100000
namespace Go.Proofs.YtipckjmgdghkiaaGreatDoor
section
open Go Go.ChangeShapes Go.WideShapes Go.ChangeAt Go.RowKit Go.Deep
theorem own:ownKnob Tryz.prog.godebug=none:=by kernel_rfl
theorem zrK:laidOutB Tryz.prog=true:=by kernel_rfl
theorem znI:Tryz.prog.cellsOf 92=1:=by kernel_rfl
theorem znJ:Tryz.prog.bytesOf 92=4:=by kernel_rfl
theorem zpr:reachBytes=140737488351232:=rfl
section
variable {H:Type}{enc:TypeId × Value -> H}
theorem zhk {w w':World}{B:Nat}(h:Below B w w'):w.Since B w':=⟨h.os,h.tape,h.output,h.size,h.block⟩
theorem zfg {W W':World}(hs:W.Since W.heap.size W'):∀(ts:List TypeId) (vs:List Value) (ds:List (DataW H)) (ps:List MemPlace),
  (∀t∈ts,Tryz.prog.readableRec t=true/\t<Tryz.prog.types.size)->(∀x∈ps,x.block<W.heap.size)->
  DataW.TrodAll enc Tryz.prog W 0 (fun _=>true) true ts vs ds ps->DataW.TrodAll enc Tryz.prog W' 0 (fun b=>decide (b<W.heap.size)) true ts vs ds ps
 |[],vs,ds,ps,_,_,h=>by
  obtain⟨rfl,rfl,rfl⟩:=trodAll_nil h
  exact trodAll_mk0
 |t::ts,vs,ds,ps,ht,hp,h=>by
  obtain⟨v,vs',d,ds',p,q,rfl,rfl,rfl,h1,h2⟩:=trodAll_cons h
  obtain⟨r1,r2⟩:=ht t (by simp)
  refine trodAll_cons_mk (WideElems.Trod_stays zrK r1 r2 h1 (fun x hx=>hs.sameAt (hp x (by simp[hx]))) (fun x hx=>by simpa using hp x (by simp[hx]))) ?_
  exact zfg hs ts vs' ds' q (fun t' ht'=>ht t' (by simp[ht'])) (fun x hx=>hp x (by simp[hx])) h2
instance:Inhabited Num:=⟨⟨none,0,0,0⟩⟩
theorem zps {W W':World}{f:Func}{s:ChangeSpec}{args:Array Value}{ds gs:List (DataW H)}{before:List MemPlace}
  (hW:DataW.Whole enc Tryz.prog f.params.toList s.vars false W args.toList ds gs before) (hs:Below W.heap.size W W')
  (hv:s.vars=[]) (hfn:s.fn H (ds++gs)= { results:=[.lit (.bool true)],args:=ds }) (hr:f.resultTypes= #[4])
  (ht:∀t∈f.params.toList,Tryz.prog.readableRec t=true/\t<Tryz.prog.types.size):
  s.post enc Tryz.prog f false true false false W args (.bool true) W':=by
 have hlt:∀x∈before,x.block<W.heap.size:=fun x hx=>hW.lt x hx
 have hsince:=zhk hs
 have hW':=hW
 obtain⟨p,q,hA,hV,rfl,_,_⟩:=hW
 rw[hv]at hV
 obtain⟨rfl,rfl⟩:=trodVars_none hV
 refine⟨ds,[],p++[],[],p,[],hW',?_,?_,?_,hsince.frame _,fun h=>by cases h⟩
 ·rw[hfn,hr]
  exact trodAll_mk1 (shut_bool Tryz.underlying4 _)
 ·rw[hfn]
  exact zfg hsince _ _ _ _ ht (fun x hx=>hlt x (by simp[hx])) hA
 ·rw[hv,hfn]
  exact rfl
theorem ztv {z:Int}(h:(Lit.int .u32 z).wf=true):0<=z/\z<4294967296:=by
 have:0<=z/\z<=4294967295:=by simpa[Lit.wf,IntKind.min,IntKind.max,IntKind.signed,IntKind.bits]using h
 omega
theorem zki {W:World}{a:Addr}{n:Nat}(Z:Nat->Int)(hc:∀i,i<n->W.cell? (a.add i)=some (.int .u32 (Z i)))(hz:∀i,i<n->0<=Z i/\Z i<4294967296):
  ∃N,Rd W W.heap.size (some a) n N:=by
 obtain⟨N,hN,hd⟩:=zfF n (fun i=>(Z i).toNat) (fun j hj=>by have:=hz j hj;rw[za4];omega)
 refine⟨N,hN,fun hn=>⟨a,rfl,?_,fun j hj=>?_⟩⟩
 ·have:=World.block_lt_of_cell? _ _ (hc 0 hn)
  rwa [zaM]at this
 ·rw[hc j hj,<-hd j hj]
  have:=hz j hj
  congr 2
  omega
end
end
section
open Go Go.ChangeShapes Go.WideShapes Go.ChangeAt Go.RowKit Go.Deep
variable {H:Type}{enc:TypeId × Value -> H}
theorem zfh {W:World}{fuel:Nat}{v:Value}{y:DataW H×List MemPlace}(hf:DataW.trod enc Tryz.prog W 0 (fun _=>true) true fuel 23 [v]=some y)
  (hreach:∀elems spare,y.1= .slice elems spare->(elems.length+spare.length)*Tryz.prog.bytesOf 92<=reachBytes):
  ∃x:Num,v= .slice x.A x.n x.c/\x.ok W W.heap.size:=by
 rcases open_ints Tryz.underlying23 Tryz.underlying92 znI hf with⟨hcs,_⟩|⟨a,len,cap,zs,hcs,_,hl,hm,hz,hx,hcell,hw⟩
 ·simp at hcs
  subst hcs
  exact⟨⟨none,0,0,0⟩,rfl,Rd.none_,Nat.le_refl _,by simp[maxLen],by simp⟩
 ·simp at hcs
  subst hcs
  simp only[if_true]at hz
  have hr:=hreach _ _ (by rw[hx])
  rw[znJ,zpr]at hr
  simp only[lits,List.length_map,List.length_take,List.length_drop,hz]at hr
  obtain⟨N,hN⟩:=zki (W:=W) (a:=a) (n:=len) (fun i=>zs.getD i 0) (fun i hi=>hcell i (by omega)) (fun i hi=>ztv (hw _ (by
   rw[List.getD_eq_getElem?_getD,List.getElem?_eq_getElem (by omega:i<zs.length)]
   exact List.getElem_mem _)))
  have hlim:len<=35184372087808:=by omega
  exact⟨⟨some a,len,cap,N⟩,rfl,hN,hl,hm,hlim⟩
theorem znK:Tryz.prog.cellsOf 27=3:=by kernel_rfl
theorem zds {W:World}{fuel:Nat}{c0 c1 c2:Value}{y:DataW H×List MemPlace}(hf:DataW.trod enc Tryz.prog W 0 (fun _=>true) true fuel 27 [c0,c1,c2]=some y)
  (hreach:∀d0 e1 s1 e2 s2 d1 d2,y.1= .agg [.agg [d0,d1],d2]->(d1= .slice e1 s1->(e1.length+s1.length)*Tryz.prog.bytesOf 92<=reachBytes)/\(d2= .slice e2 s2->(e2.length+s2.length)*Tryz.prog.bytesOf 92<=reachBytes)):
  ∃(b:Bool) (x z:Num),c0= .bool b/\c1= .slice x.A x.n x.c/\c2= .slice z.A z.n z.c/\x.ok W W.heap.size/\z.ok W W.heap.size:=by
 obtain⟨y0,y1,n,hx,_,h0,h1⟩:=trod_struct2 Tryz.underlying27 hf
 have h0':DataW.trod enc Tryz.prog W 0 (fun _=>true) true n 25 [c0,c1]=some y0:=h0
 have h1':DataW.trod enc Tryz.prog W 0 (fun _=>true) true n 23 [c2]=some y1:=h1
 obtain⟨z0,z1,m,hz,_,g0,g1⟩:=trod_struct2 Tryz.underlying25 h0'
 have g0':DataW.trod enc Tryz.prog W 0 (fun _=>true) true m 4 [c0]=some z0:=g0
 have g1':DataW.trod enc Tryz.prog W 0 (fun _=>true) true m 23 [c1]=some z1:=g1
 have e1:y.1= .agg [.agg [z0.1,z1.1],y1.1]:=by rw[hx,hz]
 obtain⟨b,hb,_⟩:=DataW.trod_bool Tryz.underlying4 g0'
 obtain⟨x,rfl,hk⟩:=zfh g1' (fun elems spare he=>(hreach z0.1 elems spare [] [] z1.1 y1.1 e1).1 he)
 obtain⟨z,rfl,hk2⟩:=zfh h1' (fun elems spare he=>(hreach z0.1 [] [] elems spare z1.1 y1.1 e1).2 he)
 simp only[List.cons.injEq,and_true]at hb
 exact⟨b,x,z,hb,rfl,rfl,hk,hk2⟩
theorem znL {W:World}{v:Value}{d:DataW H}{ps:List MemPlace}(hval:Value.okWide Tryz.prog W .any 0 27 v) (h:DataW.Trod enc Tryz.prog W 0 (fun _=>true) true 27 v d ps)
  (hreach:∀d0 e1 s1 e2 s2 d1 d2,d= .agg [.agg [d0,d1],d2]->(d1= .slice e1 s1->(e1.length+s1.length)*Tryz.prog.bytesOf 92<=reachBytes)/\(d2= .slice e2 s2->(e2.length+s2.length)*Tryz.prog.bytesOf 92<=reachBytes)):
  ∃(b:Bool) (x z:Num),v= .agg #[.bool b,.slice x.A x.n x.c,.slice z.A z.n z.c]/\x.ok W W.heap.size/\z.ok W W.heap.size:=by
 obtain⟨cs,rfl,hs⟩:=okWide_struct Tryz.underlying27 hval
 rw[znK]at hs
 obtain⟨c0,c1,c2,rfl⟩:∃c0 c1 c2,cs= #[c0,c1,c2]:=by
  obtain⟨l⟩:=cs
  match l,hs with
  |[c0,c1,c2],_=>exact⟨c0,c1,c2,rfl⟩
 obtain⟨fuel,hf⟩:=h
 obtain⟨b,x,z,rfl,rfl,rfl,hk,hk2⟩:=zds hf (fun d0 e1 s1 e2 s2 d1 d2 he=>hreach d0 e1 s1 e2 s2 d1 d2 he)
 exact⟨b,x,z,rfl,hk,hk2⟩
theorem znM {ts:List TypeId}{ds:List (DataW H)}(h:(DataW.weightsEach Tryz.prog ts ds).all (· <=reachBytes)=true){j:Nat}{d0 d1 d2:DataW H}{e1 s1 e2 s2:List (DataW H)}
  (ht:ts[j]?=some 27) (hd:ds[j]?=some (.agg [.agg [d0,d1],d2])):(d1= .slice e1 s1->(e1.length+s1.length)*Tryz.prog.bytesOf 92<=reachBytes)/\(d2= .slice e2 s2->(e2.length+s2.length)*Tryz.prog.bytesOf 92<=reachBytes):=by
 have hr:=Tryz.underlying27
 have hu:=Tryz.underlying25
 have hn:=Tryz.underlying23
 constructor
 ·rintro rfl
  refine of_decide_eq_true (List.all_eq_true.1 h _ (DataW.weights_mem_each ht hd _ ?_))
  simp[DataW.weights,DataW.weightsEach,hr,hu,hn]
 ·rintro rfl
  refine of_decide_eq_true (List.all_eq_true.1 h _ (DataW.weights_mem_each ht hd _ ?_))
  simp[DataW.weights,DataW.weightsEach,hr,hn]
end
section
open Go Go.RowKit
theorem zlC:(Rows.laid_strait_sint_signs:DataW Unit)=Lib.tabData .i64 [-1,0,1]:=by rfl
def zkj : List (String × DataW Unit) := [("math/bits.deBruijn32tab", Rows.laid_math_bits_deBruijn32tab), ("math/bits.deBruijn64tab", Rows.laid_math_bits_deBruijn64tab), ("strait/sint.signs", Rows.laid_strait_sint_signs)]
theorem zlD {W:World}(h:laidMetH Tryz.prog zkj W):TT W:=by
 rw[MakeChecks.laidMetH_plain _ _ _ (by kernel_rfl)]at h
 obtain⟨ps,⟨g0,t0,cs0,f0,p0,q0,hg0,ht0,hv0,hd0,⟨g1,t1,cs1,f1,p1,q1,hg1,ht1,hv1,hd1,⟨g2,t2,cs2,f2,p2,q2,hg2,ht2,hv2,hd2,e2,e2'⟩,e1⟩,e0⟩,z1,z2⟩:=h
 have k0 : Tryz.prog.globalNamed "math/bits.deBruijn32tab" = some 2 := by kernel_rfl
 have k1 : Tryz.prog.globalNamed "math/bits.deBruijn64tab" = some 1 := by kernel_rfl
 have k2 : Tryz.prog.globalNamed "strait/sint.signs" = some 0 := by kernel_rfl
 obtain rfl:=Option.some.inj (k0.symm.trans hg0)
 obtain rfl:=Option.some.inj (k1.symm.trans hg1)
 obtain rfl:=Option.some.inj (k2.symm.trans hg2)
 obtain rfl:=Option.some.inj ((show(Tryz.prog.globals[2]?).map (·.type)=some 227 by kernel_rfl).symm.trans ht0)
 obtain rfl:=Option.some.inj ((show(Tryz.prog.globals[1]?).map (·.type)=some 218 by kernel_rfl).symm.trans ht1)
 obtain rfl:=Option.some.inj ((show(Tryz.prog.globals[0]?).map (·.type)=some 185 by kernel_rfl).symm.trans ht2)
 rw[zly]at hd0
 rw[zlz]at hd1
 rw[zlC]at hd2
 have h0 : Lib.TabIs Tryz.prog W "math/bits.deBruijn32tab" .u8 (Lib.deBruijn32tab.map fun z : Nat => (z : Int)) := by
  unfold Lib.TabIs
  rw[hv0,<-Lib.cells_of_tab Tryz.underlying227 Tryz.underlying5 (by kernel_rfl) (by kernel_rfl) hd0]
 have h1 : Lib.TabIs Tryz.prog W "math/bits.deBruijn64tab" .u8 (Lib.deBruijn64tab.map fun z : Nat => (z : Int)) := by
  unfold Lib.TabIs
  rw[hv1,<-Lib.cells_of_tab Tryz.underlying218 Tryz.underlying5 (by kernel_rfl) (by kernel_rfl) hd1]
 have h2 : Lib.TabIs Tryz.prog W "strait/sint.signs" .i64 [-1, 0, 1] := by
  unfold Lib.TabIs
  rw[hv2,<-Lib.cells_of_tab Tryz.underlying185 Tryz.underlying3 (by kernel_rfl) (by kernel_rfl) hd2]
 refine⟨⟨fun j hj=>?_,fun j hj=>?_⟩,fun j hj=>?_⟩
 ·rw[<-zio];exact h1.cell k1 j (by rw[List.length_map];exact hj)
 ·rw[<-zio];exact h0.cell k0 j (by rw[List.length_map];exact hj)
 ·have:=h2.cell k2 j hj
  match j,hj with
  |0,_=>exact this
  |1,_=>exact this
  |2,_=>exact this
end
end Go.Proofs.YtipckjmgdghkiaaGreatDoor
