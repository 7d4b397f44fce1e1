/- A part. -/
import Derived.Deep.Slices
import Derived.Test.YtdeelcoipmdoiaaGreatDoorGLaidA
import Derived.Test.YtdeelcoipmdoiaaGreatDoorGVPt
set_option maxRecDepth 100000
namespace Go.Proofs.YtdeelcoipmdoiaaGreatDoor
open Go Go.ChangeShapes Go.WideShapes Go.ChangeAt Go.RowKit Go.Deep
variable {H:Type}{enc:TypeId × Value → H}
def zhL (d:DataW H):Prop:=∀d0 e1 s1 e2 s2 d1 d2,d= .agg [.agg [d0,d1],d2]→(d1= .slice e1 s1→(e1.length+s1.length)*Tryz.prog.bytesOf 77≤reachBytes)∧(d2= .slice e2 s2→(e2.length+s2.length)*Tryz.prog.bytesOf 77≤reachBytes)
theorem zk5:Tryz.prog.cellsOf 29=6:=by kernel_rfl
theorem zq3:Tryz.prog.bytesOf 29=112:=by kernel_rfl
theorem ze7 {W:World}{fuel:Nat}{c0 c1 c2 c3 c4 c5:Value}{y:DataW H×List MemPlace}(hf:DataW.trod enc Tryz.prog W 0 (fun _=>true) true fuel 29 [c0,c1,c2,c3,c4,c5]=some y)
  (hreach:∀d0 d1,y.1= .agg [d0,d1]→zhL d0∧zhL d1):
  ∃(b:Bool) (x y:Num) (b':Bool) (x' y':Num),c0= .bool b∧c1= .slice x.A x.n x.c∧c2= .slice y.A y.n y.c∧c3= .bool b'∧c4= .slice x'.A x'.n x'.c∧c5= .slice y'.A y'.n y'.c∧(x.ok W W.heap.size∧y.ok W W.heap.size)∧x'.ok W W.heap.size∧y'.ok W W.heap.size:=by
 obtain⟨y0,y1,n,hx,_,h0,h1⟩:=trod_struct2 Tryz.underlying29 hf
 have h0':DataW.trod enc Tryz.prog W 0 (fun _=>true) true n 27 [c0,c1,c2]=some y0:=h0
 have h1':DataW.trod enc Tryz.prog W 0 (fun _=>true) true n 27 [c3,c4,c5]=some y1:=h1
 obtain⟨r0,r1⟩:=hreach y0.1 y1.1 (by rw[hx])
 obtain⟨b,x,z,e0,e1,e2,k1,k2⟩:=zdk h0' r0
 obtain⟨b',x',z',e3,e4,e5,k3,k4⟩:=zdk h1' r1
 exact⟨b,x,z,b',x',z',e0,e1,e2,e3,e4,e5,⟨k1,k2⟩,k3,k4⟩
theorem zhM {W:World}{v:Value}{d:DataW H}{ps:List MemPlace}(hval:Value.okWide Tryz.prog W .any 0 29 v) (h:DataW.Trod enc Tryz.prog W 0 (fun _=>true) true 29 v d ps) (hreach:∀d0 d1,d= .agg [d0,d1]→zhL d0∧zhL d1):
  ∃(b:Bool) (x y:Num) (b':Bool) (x' y':Num),v= .agg #[.bool b,.slice x.A x.n x.c,.slice y.A y.n y.c,.bool b',.slice x'.A x'.n x'.c,.slice y'.A y'.n y'.c]∧(x.ok W W.heap.size∧y.ok W W.heap.size)∧x'.ok W W.heap.size∧y'.ok W W.heap.size:=by
 obtain⟨cs,rfl,hs⟩:=okWide_struct Tryz.underlying29 hval
 rw[zk5]at hs
 obtain⟨c0,c1,c2,c3,c4,c5,rfl⟩:∃c0 c1 c2 c3 c4 c5,cs= #[c0,c1,c2,c3,c4,c5]:=by
  obtain⟨l⟩:=cs
  match l,hs with
  |[c0,c1,c2,c3,c4,c5],_=>exact⟨c0,c1,c2,c3,c4,c5,rfl⟩
 obtain⟨fuel,hf⟩:=h
 obtain⟨b,x,z,b',x',z',rfl,rfl,rfl,rfl,rfl,rfl,hk⟩:=ze7 hf hreach
 exact⟨b,x,z,b',x',z',rfl,hk⟩
theorem zgV {ws:List Nat}{d:DataW H}(h:∀w∈DataW.weights Tryz.prog 27 d,w∈ws) (hall:ws.all (· ≤reachBytes)=true):zhL d:=by
 have hr:=Tryz.underlying27
 have hu:=Tryz.underlying25
 have hn:=Tryz.underlying23
 rintro d0 e1 s1 e2 s2 d1 d2 rfl
 constructor
 ·rintro rfl
  refine of_decide_eq_true (List.all_eq_true.1 hall _ (h _ ?_))
  simp[DataW.weights,DataW.weightsEach,hr,hu,hn]
 ·rintro rfl
  refine of_decide_eq_true (List.all_eq_true.1 hall _ (h _ ?_))
  simp[DataW.weights,DataW.weightsEach,hr,hn]
theorem zhN {ts:List TypeId}{ds:List (DataW H)}(h:(DataW.weightsEach Tryz.prog ts ds).all (· ≤reachBytes)=true){j:Nat}{d0 d1:DataW H}(ht:ts[j]?=some 29) (hd:ds[j]?=some (.agg [d0,d1])):zhL d0∧zhL d1:=by
 have hp:=Tryz.underlying29
 constructor
 ·refine zgV (fun w hw=>DataW.weights_mem_each ht hd _ ?_) h
  simp only[DataW.weights,hp]
  simp[DataW.weightsEach,hw]
 ·refine zgV (fun w hw=>DataW.weights_mem_each ht hd _ ?_) h
  simp only[DataW.weights,hp]
  simp[DataW.weightsEach,hw]
theorem zoM {ts:List TypeId}{ds:List (DataW H)}(h:(DataW.weightsEach Tryz.prog ts ds).all (· ≤reachBytes)=true){j:Nat}{elems spare:List (DataW H)}{d0 d1:DataW H}(ht:ts[j]?=some 30) (hd:ds[j]?=some (.slice elems spare)) (hx:DataW.agg [d0,d1]∈elems):zhL d0∧zhL d1:=by
 have hu:=Tryz.underlying30
 have hp:=Tryz.underlying29
 have key:∀w∈DataW.weights Tryz.prog 29 (.agg [d0,d1]),w∈DataW.weightsEach Tryz.prog ts ds:=fun w hw=>by
  refine DataW.weights_mem_each ht hd _ ?_
  simp only[DataW.weights,hu,List.mem_cons,List.mem_append]
  exact Or.inr (Or.inl (zep hx _ hw))
 constructor
 ·refine zgV (fun w hw=>key w ?_) h
  simp only[DataW.weights,hp]
  simp[DataW.weightsEach,hw]
 ·refine zgV (fun w hw=>key w ?_) h
  simp only[DataW.weights,hp]
  simp[DataW.weightsEach,hw]
theorem zoN {W:World}{v:Value}{d:DataW H}{ps:List MemPlace}(hval:Value.okWide Tryz.prog W .any 0 30 v) (h:DataW.Trod enc Tryz.prog W 0 (fun _=>true) true 30 v d ps)
  (hreach:∀elems spare,d= .slice elems spare→(elems.length+spare.length)*Tryz.prog.bytesOf 29≤reachBytes∧∀d0 d1,DataW.agg [d0,d1]∈elems→zhL d0∧zhL d1):
  ∃(A:Option Addr) (c:Nat) (l:List PEl),v= .slice A l.length c∧PRds W W.heap.size A l∧l.length≤100000000000000∧l.length≤c∧c≤maxLen:=by
 obtain⟨A,n,c,rfl⟩:=okWide_slice Tryz.underlying30 hval
 obtain⟨fuel,hf⟩:=h
 rcases open_slice Tryz.underlying30 hf with⟨hcs,_⟩|⟨a,len,cap,m,nf,D,Pl,hcs,_,hl,hm,hmm,hx,hrows⟩
 ·simp[Value.cells]at hcs
  obtain⟨rfl,rfl,rfl⟩:=hcs
  exact⟨none,0,[],rfl,fun k hk=>by simp at hk,by simp,by simp,by simp[maxLen]⟩
 ·simp[Value.cells]at hcs
  obtain⟨rfl,rfl,rfl⟩:=hcs
  simp only[if_true]at hmm
  simp only[Prod.mk.injEq]at hx
  obtain⟨hr1,hr2⟩:=hreach _ _ hx.1
  rw[zq3,zj6]at hr1
  simp only[List.length_map,List.length_range]at hr1
  have each:∀r,r<n→∃z:PEl,(W.cell? (a.add (r*6))=some (.bool z.1)∧W.cell? (a.add (r*6+1))=some (.slice z.2.1.A z.2.1.n z.2.1.c)∧W.cell? (a.add (r*6+2))=some (.slice z.2.2.1.A z.2.2.1.n z.2.2.1.c)∧W.cell? (a.add (r*6+3))=some (.bool z.2.2.2.1)∧W.cell? (a.add (r*6+4))=some (.slice z.2.2.2.2.1.A z.2.2.2.2.1.n z.2.2.2.2.1.c)∧W.cell? (a.add (r*6+5))=some (.slice z.2.2.2.2.2.A z.2.2.2.2.2.n z.2.2.2.2.2.c))∧
    (z.2.1.ok W W.heap.size∧z.2.2.1.ok W W.heap.size)∧z.2.2.2.2.1.ok W W.heap.size∧z.2.2.2.2.2.ok W W.heap.size:=by
   intro r hr
   obtain⟨cs',h1,h2⟩:=hrows r (by omega)
   rw[zk5]at h1
   obtain⟨_,hlen,hcell⟩:=World.cells?_some h1
   match cs',hlen with
   |[c0,c1,c2,c3,c4,c5],_=>
    have e0:=hcell 0 (by omega)
    have e1:=hcell 1 (by omega)
    have e2:=hcell 2 (by omega)
    have e3:=hcell 3 (by omega)
    have e4:=hcell 4 (by omega)
    have e5:=hcell 5 (by omega)
    rw[add_add]at e0 e1 e2 e3 e4 e5
    obtain⟨b,x,z,b',x',z',rfl,rfl,rfl,rfl,rfl,rfl,hk⟩:=ze7 h2 (fun d0 d1 he=>hr2 d0 d1 (by
     rw[List.mem_map]
     exact⟨r,by simpa using hr,he⟩))
    exact⟨(b,x,z,b',x',z'),⟨by simpa using e0,by simpa using e1,by simpa using e2,by simpa using e3,by simpa using e4,by simpa using e5⟩,hk⟩
  obtain⟨f,hf⟩:=choose_lt each
  refine⟨some a,c,(List.range n).map f,by simp,fun k hk=>?_,by simp;omega,by simpa using hl,hm⟩
  have hk':k<n:=by simpa using hk
  have e:((List.range n).map f)[k]=f k:=by simp
  rw[e]
  refine⟨⟨a,rfl,?_,(hf k hk').1⟩,(hf k hk').2⟩
  have:=World.block_lt_of_cell? _ _ (hf k hk').1.1
  rwa [zaG]at this
end Go.Proofs.YtdeelcoipmdoiaaGreatDoor
