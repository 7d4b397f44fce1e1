/- An argument that is a row of rationals, opened. -/
import Derived.Deep.Slices
import Derived.Test.YtdeelcoipmdoiaaGreatDoorGLaidA
set_option maxRecDepth 100000
namespace Go.Proofs.YtdeelcoipmdoiaaGreatDoor
open Go Go.ChangeShapes Go.WideShapes Go.ChangeAt Go.RowKit Go.Deep
variable {H:Type}{enc:TypeId × Value → H}
theorem zmH:Tryz.prog.bytesOf 27=56:=by kernel_rfl
theorem zkE {ts:List TypeId}{ds:List (DataW H)}(h:(DataW.weightsEach Tryz.prog ts ds).all (· ≤reachBytes)=true){j:Nat}{elems spare:List (DataW H)}{d0 d1 d2:DataW H}{e1 s1 e2 s2:List (DataW H)}
  (ht:ts[j]?=some 52) (hd:ds[j]?=some (.slice elems spare)) (hx:DataW.agg [.agg [d0,d1],d2]∈elems):(d1= .slice e1 s1→(e1.length+s1.length)*Tryz.prog.bytesOf 77≤reachBytes)∧(d2= .slice e2 s2→(e2.length+s2.length)*Tryz.prog.bytesOf 77≤reachBytes):=by
 have hu:=Tryz.underlying52
 have hr:=Tryz.underlying27
 have hi:=Tryz.underlying25
 have hn:=Tryz.underlying23
 constructor
 ·rintro rfl
  refine of_decide_eq_true (List.all_eq_true.1 h _ (DataW.weights_mem_each ht hd _ ?_))
  simp only[DataW.weights,hu,List.mem_cons,List.mem_append]
  exact Or.inr (Or.inl (zc7 hx _ (by simp[DataW.weights,DataW.weightsEach,hr,hi,hn])))
 ·rintro rfl
  refine of_decide_eq_true (List.all_eq_true.1 h _ (DataW.weights_mem_each ht hd _ ?_))
  simp only[DataW.weights,hu,List.mem_cons,List.mem_append]
  exact Or.inr (Or.inl (zc7 hx _ (by simp[DataW.weights,DataW.weightsEach,hr,hn])))
theorem zkF {W:World}{v:Value}{d:DataW H}{ps:List MemPlace}(hval:Value.okWide Tryz.prog W .any 0 52 v) (h:DataW.Trod enc Tryz.prog W 0 (fun _=>true) true 52 v d ps)
  (hreach:∀elems spare,d= .slice elems spare→(elems.length+spare.length)*Tryz.prog.bytesOf 27≤reachBytes∧∀d0 e1 s1 e2 s2 d1 d2,DataW.agg [.agg [d0,d1],d2]∈elems→(d1= .slice e1 s1→(e1.length+s1.length)*Tryz.prog.bytesOf 77≤reachBytes)∧(d2= .slice e2 s2→(e2.length+s2.length)*Tryz.prog.bytesOf 77≤reachBytes)):
  ∃(A:Option Addr) (c:Nat) (l:List (Bool×Num×Num)),v= .slice A l.length c∧QRds W W.heap.size A l∧l.length≤100000000000000∧l.length≤c∧c≤maxLen:=by
 obtain⟨A,n,c,rfl⟩:=okWide_slice Tryz.underlying52 hval
 obtain⟨fuel,hf⟩:=h
 rcases open_slice Tryz.underlying52 hf with⟨hcs,_⟩|⟨a,len,cap,m,nf,D,Pl,hcs,_,hl,hm,hmm,hx,hrows⟩
 ·simp[Value.cells]at hcs
  obtain⟨rfl,rfl,rfl⟩:=hcs
  exact⟨none,0,[],rfl,fun k hk=>by simp at hk,by simp,by simp,by simp[maxLen]⟩
 ·simp[Value.cells]at hcs
  obtain⟨rfl,rfl,rfl⟩:=hcs
  simp only[if_true]at hmm
  simp only[Prod.mk.injEq]at hx
  obtain⟨hr1,hr2⟩:=hreach _ _ hx.1
  rw[zmH,zjl]at hr1
  simp only[List.length_map,List.length_range]at hr1
  have each:∀r,r<n→∃z:Bool×Num×Num,W.cell? (a.add (r*3))=some (.bool z.1)∧W.cell? (a.add (r*3+1))=some (.slice z.2.1.A z.2.1.n z.2.1.c)∧W.cell? (a.add (r*3+2))=some (.slice z.2.2.A z.2.2.n z.2.2.c)∧z.2.1.ok W W.heap.size∧z.2.2.ok W W.heap.size:=by
   intro r hr
   obtain⟨cs',h1,h2⟩:=hrows r (by omega)
   rw[zmx]at h1
   obtain⟨_,hlen,hcell⟩:=World.cells?_some h1
   match cs',hlen with
   |[c0,c1,c2],_=>
    have e0:=hcell 0 (by omega)
    have e1:=hcell 1 (by omega)
    have e2:=hcell 2 (by omega)
    rw[add_add]at e0 e1 e2
    obtain⟨b,x,z,rfl,rfl,rfl,hk,hk2⟩:=zc8 h2 (fun d0 e1 s1 e2 s2 d1 d2 he=>hr2 d0 e1 s1 e2 s2 d1 d2 (by
     rw[List.mem_map]
     exact⟨r,by simpa using hr,he⟩))
    exact⟨(b,x,z),by simpa using e0,by simpa using e1,by simpa using e2,hk,hk2⟩
  obtain⟨f,hf⟩:=choose_lt each
  refine⟨some a,c,(List.range n).map f,by simp,fun k hk=>?_,by simp;omega,by simpa using hl,hm⟩
  have hk':k<n:=by simpa using hk
  have e:((List.range n).map f)[k]=f k:=by simp
  rw[e]
  refine⟨⟨a,rfl,?_,(hf k hk').1,(hf k hk').2.1,(hf k hk').2.2.1⟩,(hf k hk').2.2.2⟩
  have:=World.block_lt_of_cell? _ _ (hf k hk').1
  rwa [zaK]at this
end Go.Proofs.YtdeelcoipmdoiaaGreatDoor
