/- SideTells answers true for every three points, every row of points and every three rationals: sides, turns, what is on a segment, within it, straight on, along a line, between are as the document has them. -/
import Derived.SevenTiedAt
import Derived.Test.YtdeelcoipmdoiaaGreatDoorGSLTells
import Derived.Test.YtdeelcoipmdoiaaGreatDoorGVOpPt
import Derived.Test.YtdeelcoipmdoiaaGreatDoorTie
import Derived.Test.YtdeelcoipmdoiaaGreatDoorCards
set_option maxRecDepth 100000
namespace Go.Proofs.YtdeelcoipmdoiaaGreatDoor
open Go Go.ChangeShapes Go.WideShapes Go.ChangeAt Go.RowKit Go.Deep
theorem zjL {V:World}{f:FuncId}{args:Array Value}(h:Calls Tryz.prog f args V (zaj V fun v _=>v= .bool true)):Calls Tryz.prog f args V fun e w'=>e= .returned (.bool true)∧Below V.heap.size V w':=h.mono (by
 rintro en V' ⟨v,rfl,rfl,hb⟩
 exact⟨rfl,hb⟩)
theorem zlb (w:World)(b0:Bool)(x0 y0:Num)(d0:Bool)(z0 w0:Num)(b1:Bool)(x1 y1:Num)(d1:Bool)(z1 w1:Num)(b2:Bool)(x2 y2:Num)(d2:Bool)(z2 w2:Num)(A:Option Addr)(c:Nat)(l:List PEl)(b3:Bool)(x3 y3:Num)(b4:Bool)(x4 y4:Num)(b5:Bool)(x5 y5:Num)(hx0:x0.ok w w.heap.size)(hy0:y0.ok w w.heap.size)(hz0:z0.ok w w.heap.size)(hw0:w0.ok w w.heap.size)(hx1:x1.ok w w.heap.size)(hy1:y1.ok w w.heap.size)(hz1:z1.ok w w.heap.size)(hw1:w1.ok w w.heap.size)(hx2:x2.ok w w.heap.size)(hy2:y2.ok w w.heap.size)(hz2:z2.ok w w.heap.size)(hw2:w2.ok w w.heap.size)(hR:PRds w w.heap.size A l)(hll:l.length≤100000000000000)(hlc:l.length≤c)(hcm:c≤maxLen)(hx3:x3.ok w w.heap.size)(hy3:y3.ok w w.heap.size)(hx4:x4.ok w w.heap.size)(hy4:y4.ok w w.heap.size)(hx5:x5.ok w w.heap.size)(hy5:y5.ok w w.heap.size)(hT:TT w):
  Calls Tryz.prog 3 #[.agg #[.bool b0,.slice x0.A x0.n x0.c,.slice y0.A y0.n y0.c,.bool d0,.slice z0.A z0.n z0.c,.slice w0.A w0.n w0.c],.agg #[.bool b1,.slice x1.A x1.n x1.c,.slice y1.A y1.n y1.c,.bool d1,.slice z1.A z1.n z1.c,.slice w1.A w1.n w1.c],.agg #[.bool b2,.slice x2.A x2.n x2.c,.slice y2.A y2.n y2.c,.bool d2,.slice z2.A z2.n z2.c,.slice w2.A w2.n w2.c],.slice A l.length c,.agg #[.bool b3,.slice x3.A x3.n x3.c,.slice y3.A y3.n y3.c],.agg #[.bool b4,.slice x4.A x4.n x4.c,.slice y4.A y4.n y4.c],.agg #[.bool b5,.slice x5.A x5.n x5.c,.slice y5.A y5.n y5.c]] w fun e w'=>e= .returned (.bool true)∧Below w.heap.size w w':=by
 refine zjL ?_
 cases hG:zby [(b0,x0,y0,d0,z0,w0),(b1,x1,y1,d1,z1,w1),(b2,x2,y2,d2,z2,w2)]with
 |true=>exact zkN b0 x0 y0 d0 z0 w0 b1 x1 y1 d1 z1 w1 b2 x2 y2 d2 z2 w2 A c l b3 x3 y3 b4 x4 y4 b5 x5 y5 hT hx0 hy0 hz0 hw0 hx1 hy1 hz1 hw1 hx2 hy2 hz2 hw2 hx3 hy3 hx4 hy4 hx5 hy5 hR hll hlc hcm hG
 |false=>
  cases hG9:zby l with
  |true=>exact zkO b0 x0 y0 d0 z0 w0 b1 x1 y1 d1 z1 w1 b2 x2 y2 d2 z2 w2 A c l b3 x3 y3 b4 x4 y4 b5 x5 y5 hT hx0 hy0 hz0 hw0 hx1 hy1 hz1 hw1 hx2 hy2 hz2 hw2 hx3 hy3 hx4 hy4 hx5 hy5 hR hll hlc hcm hG hG9
  |false=>
   cases hG7:zc7 [(b3,x3,y3),(b4,x4,y4),(b5,x5,y5)]with
   |true=>exact zkP b0 x0 y0 d0 z0 w0 b1 x1 y1 d1 z1 w1 b2 x2 y2 d2 z2 w2 A c l b3 x3 y3 b4 x4 y4 b5 x5 y5 hT hx0 hy0 hz0 hw0 hx1 hy1 hz1 hw1 hx2 hy2 hz2 hw2 hx3 hy3 hx4 hy4 hx5 hy5 hR hll hlc hcm hG hG7 hG9
   |false=>exact zol b0 x0 y0 d0 z0 w0 b1 x1 y1 d1 z1 w1 b2 x2 y2 d2 z2 w2 A c l b3 x3 y3 b4 x4 y4 b5 x5 y5 hT hx0 hy0 hz0 hw0 hx1 hy1 hz1 hw1 hx2 hy2 hz2 hw2 hx3 hy3 hx4 hy4 hx5 hy5 hR hll hlc hcm hG hG7 hG9
theorem stellsx_lifted (os:Os)(started:os.Started)(H:Type)(enc:TypeId×Value→H):
  ReturnsInHanded {} Tryz.checked os 3 .any (fun w args=>(Rows.sideTellsSpec.pre enc Tryz.prog Tryz.f3 [] false w args∧laidMetH Tryz.prog zj8 w)∧sizedMet enc Tryz.prog Tryz.f3 (OpenSpec.ofChange Rows.sideTellsSpec) false w args)
   (Rows.sideTellsSpec.post enc Tryz.prog Tryz.f3 false true false false):=by
 refine returnsInHanded_of_change_and (C:=Tryz.checked) (X:=fun w _=>laidMetH Tryz.prog zj8 w) (fun _ _ _ hh h=>h.of_heap hh) own started (by kernel_rfl) Tryz.func3
  (ChangeSpec.witness_shaped (enc:=enc) (C:=Tryz.checked) (os:=os) (X:=fun w _=>laidMetH Tryz.prog zj8 w) false (World.laidAll Tryz.prog os zj8) #[.agg #[.bool false,.slice none 0 0,.slice none 0 0,.bool false,.slice none 0 0,.slice none 0 0],.agg #[.bool false,.slice none 0 0,.slice none 0 0,.bool false,.slice none 0 0,.slice none 0 0],.agg #[.bool false,.slice none 0 0,.slice none 0 0,.bool false,.slice none 0 0,.slice none 0 0],.slice none 0 0,.agg #[.bool false,.slice none 0 0,.slice none 0 0],.agg #[.bool false,.slice none 0 0,.slice none 0 0],.agg #[.bool false,.slice none 0 0,.slice none 0 0]] 8 (World.laidAll_os _ _ _)
   (World.shaped_of_ZipB (by kernel_rfl) (by kernel_rfl)) (by kernel_rfl) (by kernel_rfl) (by kernel_rfl)
   (by rw[MakeChecks.laidMetH_plain _ _ _ (by kernel_rfl)];exact laidMet_laidAll _ (by kernel_rfl) (by kernel_rfl))) ?_
 intro W base args ds gs before hval0 hW _ hsz0 hL _
 have hsz:(DataW.weightsEach Tryz.prog (Tryz.f3.params.toList++Rows.sideTellsSpec.plain.varTypes Tryz.prog) (ds++gs)).all (· ≤reachBytes)=true:=hsz0
 have hval:∀(j:Nat) t v,Tryz.f3.params[j]?=some t→args[j]?=some v→Value.okWide Tryz.prog W .any base t v:=hval0
 have hW':=hW
 obtain⟨p,q,hA0,hV,rfl,_,_⟩:=hW
 have hA:DataW.TrodAll enc Tryz.prog W 0 (fun _=>true) true Tryz.f3.params.toList args.toList ds p:=hA0
 rw[Tryz.params3]at hA hval hsz
 obtain⟨v0,vs0,d0,ds0,p0,q0,hargs,rfl,rfl,h0,r0⟩:=trodAll_cons hA
 obtain⟨v1,vs1,d1,ds1,p1,q1,rfl,rfl,rfl,h1,r1⟩:=trodAll_cons r0
 obtain⟨v2,vs2,d2,ds2,p2,q2,rfl,rfl,rfl,h2,r2⟩:=trodAll_cons r1
 obtain⟨v3,vs3,d3,ds3,p3,q3,rfl,rfl,rfl,h3,r3⟩:=trodAll_cons r2
 obtain⟨v4,vs4,d4,ds4,p4,q4,rfl,rfl,rfl,h4,r4⟩:=trodAll_cons r3
 obtain⟨v5,vs5,d5,ds5,p5,q5,rfl,rfl,rfl,h5,r5⟩:=trodAll_cons r4
 obtain⟨v6,vs6,d6,ds6,p6,q6,rfl,rfl,rfl,h6,r6⟩:=trodAll_cons r5
 obtain⟨rfl,rfl,rfl⟩:=trodAll_nil r6
 obtain rfl:args= #[v0,v1,v2,v3,v4,v5,v6]:=by cases args;simp_all
 obtain⟨rfl,rfl⟩:=trodVars_none hV
 obtain⟨b0,x0,y0,d0_,z0,w0,rfl,⟨hx0,hy0⟩,hz0,hw0⟩:=zhM (hval 0 29 v0 rfl rfl) h0 (fun e s he=>zhN hsz (j:=0) rfl (by rw[he];rfl))
 obtain⟨b1,x1,y1,d1_,z1,w1,rfl,⟨hx1,hy1⟩,hz1,hw1⟩:=zhM (hval 1 29 v1 rfl rfl) h1 (fun e s he=>zhN hsz (j:=1) rfl (by rw[he];rfl))
 obtain⟨b2,x2,y2,d2_,z2,w2,rfl,⟨hx2,hy2⟩,hz2,hw2⟩:=zhM (hval 2 29 v2 rfl rfl) h2 (fun e s he=>zhN hsz (j:=2) rfl (by rw[he];rfl))
 obtain⟨A3,c3,l3,rfl,hR3,hl3,hc3,hm3⟩:=zoN (hval 3 30 v3 rfl rfl) h3 (fun e s he=>⟨sized_slice hsz (j:=3) (t:=30) rfl (by rw[he];rfl) Tryz.underlying30,fun d0 d1 hm=>zoM hsz (j:=3) rfl (by rw[he];rfl) hm⟩)
 obtain⟨b4,x4,y4,rfl,hx4,hy4⟩:=zfR (hval 4 27 v4 rfl rfl) h4 (fun d0 e1 s1 e2 s2 d1 d2 he=>zfS hsz (j:=4) rfl (by rw[he];rfl))
 obtain⟨b5,x5,y5,rfl,hx5,hy5⟩:=zfR (hval 5 27 v5 rfl rfl) h5 (fun d0 e1 s1 e2 s2 d1 d2 he=>zfS hsz (j:=5) rfl (by rw[he];rfl))
 obtain⟨b6,x6,y6,rfl,hx6,hy6⟩:=zfR (hval 6 27 v6 rfl rfl) h6 (fun d0 e1 s1 e2 s2 d1 d2 he=>zfS hsz (j:=6) rfl (by rw[he];rfl))
 refine(zlb W b0 x0 y0 d0_ z0 w0 b1 x1 y1 d1_ z1 w1 b2 x2 y2 d2_ z2 w2 A3 c3 l3 b4 x4 y4 b5 x5 y5 b6 x6 y6 hx0 hy0 hz0 hw0 hx1 hy1 hz1 hw1 hx2 hy2 hz2 hw2 hR3 hl3 hc3 hm3 hx4 hy4 hx5 hy5 hx6 hy6 (zlr hL)).mono fun e W' ⟨he,hb⟩=>?_
 subst he
 exact⟨_,rfl,zpe hW' hb rfl rfl rfl (by
  rw[Tryz.params3]
  intro t ht
  simp at ht
  rcases ht with rfl|rfl|rfl <;> exact⟨by kernel_rfl,of_decide_eq_true (by kernel_rfl)⟩)⟩
theorem stellsx_holds:Rows.SideTellsSaid:=
 OpenClaim.holds_of_wide 3 Tryz.f3 rfl rfl rfl rfl rfl rfl rfl ⟨rfl,rfl,rfl,rfl,rfl⟩ rfl rfl rfl rfl rfl (by kernel_rfl) Tryz.func3 (by kernel_rfl)
  (of_decide_eq_true (by kernel_rfl)) (by unfold Func.isWrapper;first|(rw[if_pos (by decide+kernel)];kernel_rfl)|(rw[if_neg (by decide+kernel)];exact⟨rfl,rfl⟩))
  (fun os started H enc _=>stellsx_lifted os started H enc)
theorem stellsx_card:Rows.SideTellsCardSaid:=
 Claim7.holds_tied_plain_at .later [] [.data,.data,.data] true Rows.sideTellsCard.stood.harness false stellsx_holds (fun _ h=>by cases h) (by kernel_rfl) (fun _ h=>by cases h) sideTells_row_tie rfl ⟨rfl,rfl⟩ (by kernel_rfl) rfl
  (fun f fn hf hfn=>by
   obtain rfl : f = 3 := Option.some.inj ((show Tryz.prog.funcNamed "strait/straitlaw09.SideTells" = some 3 by kernel_rfl).symm.trans hf) |>.symm
   obtain rfl:fn=Tryz.f3:=(Option.some.inj (Tryz.func3.symm.trans hfn)).symm
   exact⟨by kernel_rfl,fun j t ht=>by
    rw[Tryz.params3]at ht
    have hm:t∈[29,29,29,30,27,27,27]:=by simpa using Array.mem_of_getElem? ht
    have hall:([29,29,29,30,27,27,27].all fun u=> !Tryz.prog.wantsStandIn u)=true:=by kernel_rfl
    exact(show Tryz.prog.wantsStandIn t=false by simpa using List.all_eq_true.1 hall t hm)⟩)
  (by kernel_rfl)
end Go.Proofs.YtdeelcoipmdoiaaGreatDoor
