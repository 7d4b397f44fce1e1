/- A part. -/
import Derived.Deep.Slices
import Derived.Test.YtipckjmgdghkiaaGreatDoorGLaidA
import Derived.Test.YtipckjmgdghkiaaGreatDoorGVPt
set_option maxRecDepth 100000
namespace Go.Proofs.YtipckjmgdghkiaaGreatDoor
open Go Go.ChangeShapes Go.WideShapes Go.ChangeAt Go.RowKit Go.Deep
variable {H:Type}{enc:TypeId × Value -> H}
def zmy (d:DataW H):Prop:=∀d0 e1 s1 e2 s2 d1 d2,d= .agg [.agg [d0,d1],d2]->(d1= .slice e1 s1->(e1.length+s1.length)*Tryz.prog.bytesOf 92<=reachBytes)/\(d2= .slice e2 s2->(e2.length+s2.length)*Tryz.prog.bytesOf 92<=reachBytes)
theorem zrp:Tryz.prog.cellsOf 29=6:=by kernel_rfl
theorem zig {W:World}{fuel:Nat}{c0 c1 c2 c3 c4 c5:Value}{y:DataW H×List MemPlace}(hf:DataW.trod enc Tryz.prog W 0 (fun _=>true) true fuel 29 [c0,c1,c2,c3,c4,c5]=some y)
  (hreach:∀d0 d1,y.1= .agg [d0,d1]->zmy d0/\zmy d1):
  ∃(b:Bool) (x y:Num) (b':Bool) (x' y':Num),c0= .bool b/\c1= .slice x.A x.n x.c/\c2= .slice y.A y.n y.c/\c3= .bool b'/\c4= .slice x'.A x'.n x'.c/\c5= .slice y'.A y'.n y'.c/\(x.ok W W.heap.size/\y.ok W W.heap.size)/\x'.ok W W.heap.size/\y'.ok W W.heap.size:=by
 obtain⟨y0,y1,n,hx,_,h0,h1⟩:=trod_struct2 Tryz.underlying29 hf
 have h0':DataW.trod enc Tryz.prog W 0 (fun _=>true) true n 27 [c0,c1,c2]=some y0:=h0
 have h1':DataW.trod enc Tryz.prog W 0 (fun _=>true) true n 27 [c3,c4,c5]=some y1:=h1
 obtain⟨r0,r1⟩:=hreach y0.1 y1.1 (by rw[hx])
 obtain⟨b,x,z,e0,e1,e2,k1,k2⟩:=zds h0' r0
 obtain⟨b',x',z',e3,e4,e5,k3,k4⟩:=zds h1' r1
 exact⟨b,x,z,b',x',z',e0,e1,e2,e3,e4,e5,⟨k1,k2⟩,k3,k4⟩
theorem zhX {W:World}{v:Value}{d:DataW H}{ps:List MemPlace}(hval:Value.okWide Tryz.prog W .any 0 29 v) (h:DataW.Trod enc Tryz.prog W 0 (fun _=>true) true 29 v d ps) (hreach:∀d0 d1,d= .agg [d0,d1]->zmy d0/\zmy d1):
  ∃(b:Bool) (x y:Num) (b':Bool) (x' y':Num),v= .agg #[.bool b,.slice x.A x.n x.c,.slice y.A y.n y.c,.bool b',.slice x'.A x'.n x'.c,.slice y'.A y'.n y'.c]/\(x.ok W W.heap.size/\y.ok W W.heap.size)/\x'.ok W W.heap.size/\y'.ok W W.heap.size:=by
 obtain⟨cs,rfl,hs⟩:=okWide_struct Tryz.underlying29 hval
 rw[zrp]at hs
 obtain⟨c0,c1,c2,c3,c4,c5,rfl⟩:∃c0 c1 c2 c3 c4 c5,cs= #[c0,c1,c2,c3,c4,c5]:=by
  obtain⟨l⟩:=cs
  match l,hs with
  |[c0,c1,c2,c3,c4,c5],_=>exact⟨c0,c1,c2,c3,c4,c5,rfl⟩
 obtain⟨fuel,hf⟩:=h
 obtain⟨b,x,z,b',x',z',rfl,rfl,rfl,rfl,rfl,rfl,hk⟩:=zig hf hreach
 exact⟨b,x,z,b',x',z',rfl,hk⟩
theorem znm {ws:List Nat}{d:DataW H}(h:∀w∈DataW.weights Tryz.prog 27 d,w∈ws) (hall:ws.all (· <=reachBytes)=true):zmy d:=by
 have hr:=Tryz.underlying27
 have hu:=Tryz.underlying25
 have hn:=Tryz.underlying23
 rintro d0 e1 s1 e2 s2 d1 d2 rfl
 constructor
 ·rintro rfl
  refine of_decide_eq_true (List.all_eq_true.1 hall _ (h _ ?_))
  simp[DataW.weights,DataW.weightsEach,hr,hu,hn]
 ·rintro rfl
  refine of_decide_eq_true (List.all_eq_true.1 hall _ (h _ ?_))
  simp[DataW.weights,DataW.weightsEach,hr,hn]
theorem zhY {ts:List TypeId}{ds:List (DataW H)}(h:(DataW.weightsEach Tryz.prog ts ds).all (· <=reachBytes)=true){j:Nat}{d0 d1:DataW H}(ht:ts[j]?=some 29) (hd:ds[j]?=some (.agg [d0,d1])):zmy d0/\zmy d1:=by
 have hp:=Tryz.underlying29
 constructor
 ·refine znm (fun w hw=>DataW.weights_mem_each ht hd _ ?_) h
  simp only[DataW.weights,hp]
  simp[DataW.weightsEach,hw]
 ·refine znm (fun w hw=>DataW.weights_mem_each ht hd _ ?_) h
  simp only[DataW.weights,hp]
  simp[DataW.weightsEach,hw]
end Go.Proofs.YtipckjmgdghkiaaGreatDoor
