/- MeetLies answers true for every three points and every rational: what is told of two segments lies on both; a point in common that is put there by hand is found, and lies in what is told. -/
import Derived.SevenTiedAt
import Derived.Test.YtipckjmgdghkiaaGreatDoorGMLLies
import Derived.Test.YtipckjmgdghkiaaGreatDoorGVOpPt
import Derived.Test.YtipckjmgdghkiaaGreatDoorTie
import Derived.Test.YtipckjmgdghkiaaGreatDoorCards
set_option maxRecDepth 100000
namespace Go.Proofs.YtipckjmgdghkiaaGreatDoor
open Go Go.ChangeShapes Go.WideShapes Go.ChangeAt Go.RowKit Go.Deep
theorem zln {V:World}{f:FuncId}{args:Array Value}(h:Calls Tryz.prog f args V (zaf V fun v _=>v= .bool true)):Calls Tryz.prog f args V fun e w'=>e= .returned (.bool true)/\Below V.heap.size V w':=h.mono (by
 rintro en V' ⟨v,rfl,rfl,hb⟩
 exact⟨rfl,hb⟩)
theorem zmA (w:World)(b0:Bool)(x0 y0:Num)(d0:Bool)(z0 w0:Num)(b1:Bool)(x1 y1:Num)(d1:Bool)(z1 w1:Num)(b2:Bool)(x2 y2:Num)(d2:Bool)(z2 w2:Num)(b3:Bool)(x3 y3:Num)(hx0:x0.ok w w.heap.size)(hy0:y0.ok w w.heap.size)(hz0:z0.ok w w.heap.size)(hw0:w0.ok w w.heap.size)(hx1:x1.ok w w.heap.size)(hy1:y1.ok w w.heap.size)(hz1:z1.ok w w.heap.size)(hw1:w1.ok w w.heap.size)(hx2:x2.ok w w.heap.size)(hy2:y2.ok w w.heap.size)(hz2:z2.ok w w.heap.size)(hw2:w2.ok w w.heap.size)(hx3:x3.ok w w.heap.size)(hy3:y3.ok w w.heap.size)(hT:TT w):
  Calls Tryz.prog 5 #[.agg #[.bool b0,.slice x0.A x0.n x0.c,.slice y0.A y0.n y0.c,.bool d0,.slice z0.A z0.n z0.c,.slice w0.A w0.n w0.c],.agg #[.bool b1,.slice x1.A x1.n x1.c,.slice y1.A y1.n y1.c,.bool d1,.slice z1.A z1.n z1.c,.slice w1.A w1.n w1.c],.agg #[.bool b2,.slice x2.A x2.n x2.c,.slice y2.A y2.n y2.c,.bool d2,.slice z2.A z2.n z2.c,.slice w2.A w2.n w2.c],.agg #[.bool b3,.slice x3.A x3.n x3.c,.slice y3.A y3.n y3.c]] w fun e w'=>e= .returned (.bool true)/\Below w.heap.size w w':=by
 refine zln ?_
 cases hL:zdK [(b0,x0,y0,d0,z0,w0),(b1,x1,y1,d1,z1,w1),(b2,x2,y2,d2,z2,w2)]with
 |true=>exact zlE b0 x0 y0 d0 z0 w0 b1 x1 y1 d1 z1 w1 b2 x2 y2 d2 z2 w2 b3 x3 y3 hT hx0 hy0 hz0 hw0 hx1 hy1 hz1 hw1 hx2 hy2 hz2 hw2 hx3 hy3 hL
 |false=>
  cases hT3:decide ((2:Int)<((max x3.n y3.n:Nat):Int))with
  |true=>exact znN b0 x0 y0 d0 z0 w0 b1 x1 y1 d1 z1 w1 b2 x2 y2 d2 z2 w2 b3 x3 y3 hT hx0 hy0 hz0 hw0 hx1 hy1 hz1 hw1 hx2 hy2 hz2 hw2 hx3 hy3 hL hT3
  |false=>exact zpt b0 x0 y0 d0 z0 w0 b1 x1 y1 d1 z1 w1 b2 x2 y2 d2 z2 w2 b3 x3 y3 hT hx0 hy0 hz0 hw0 hx1 hy1 hz1 hw1 hx2 hy2 hz2 hw2 hx3 hy3 hL hT3
theorem mliesx_lifted (os:Os)(started:os.Started)(H:Type)(enc:TypeId×Value->H):
  ReturnsInHanded {} Tryz.checked os 5 .any (fun w args=>(Rows.meetLiesSpec.pre enc Tryz.prog Tryz.f5 [] false w args/\laidMetH Tryz.prog zkj w)/\sizedMet enc Tryz.prog Tryz.f5 (OpenSpec.ofChange Rows.meetLiesSpec) false w args)
   (Rows.meetLiesSpec.post enc Tryz.prog Tryz.f5 false true false false):=by
 refine returnsInHanded_of_change_and (C:=Tryz.checked) (X:=fun w _=>laidMetH Tryz.prog zkj w) (fun _ _ _ hh h=>h.of_heap hh) own started (by kernel_rfl) Tryz.func5
  (ChangeSpec.witness_shaped (enc:=enc) (C:=Tryz.checked) (os:=os) (X:=fun w _=>laidMetH Tryz.prog zkj w) false (World.laidAll Tryz.prog os zkj) #[.agg #[.bool false,.slice none 0 0,.slice none 0 0,.bool false,.slice none 0 0,.slice none 0 0],.agg #[.bool false,.slice none 0 0,.slice none 0 0,.bool false,.slice none 0 0,.slice none 0 0],.agg #[.bool false,.slice none 0 0,.slice none 0 0,.bool false,.slice none 0 0,.slice none 0 0],.agg #[.bool false,.slice none 0 0,.slice none 0 0]] 8 (World.laidAll_os _ _ _)
   (World.shaped_of_ZipB (by kernel_rfl) (by kernel_rfl)) (by kernel_rfl) (by kernel_rfl) (by kernel_rfl)
   (by rw[MakeChecks.laidMetH_plain _ _ _ (by kernel_rfl)];exact laidMet_laidAll _ (by kernel_rfl) (by kernel_rfl))) ?_
 intro W base args ds gs before hval0 hW _ hsz0 hL _
 have hsz:(DataW.weightsEach Tryz.prog (Tryz.f5.params.toList++Rows.meetLiesSpec.plain.varTypes Tryz.prog) (ds++gs)).all (· <=reachBytes)=true:=hsz0
 have hval:∀(j:Nat) t v,Tryz.f5.params[j]?=some t->args[j]?=some v->Value.okWide Tryz.prog W .any base t v:=hval0
 have hW':=hW
 obtain⟨p,q,hA0,hV,rfl,_,_⟩:=hW
 have hA:DataW.TrodAll enc Tryz.prog W 0 (fun _=>true) true Tryz.f5.params.toList args.toList ds p:=hA0
 rw[Tryz.params5]at hA hval hsz
 obtain⟨v0,vs0,d0,ds0,p0,q0,hargs,rfl,rfl,h0,r0⟩:=trodAll_cons hA
 obtain⟨v1,vs1,d1,ds1,p1,q1,rfl,rfl,rfl,h1,r1⟩:=trodAll_cons r0
 obtain⟨v2,vs2,d2,ds2,p2,q2,rfl,rfl,rfl,h2,r2⟩:=trodAll_cons r1
 obtain⟨v3,vs3,d3,ds3,p3,q3,rfl,rfl,rfl,h3,r3⟩:=trodAll_cons r2
 obtain⟨rfl,rfl,rfl⟩:=trodAll_nil r3
 obtain rfl:args= #[v0,v1,v2,v3]:=by cases args;simp_all
 obtain⟨rfl,rfl⟩:=trodVars_none hV
 obtain⟨b0,x0,y0,d0_,z0,w0,rfl,⟨hx0,hy0⟩,hz0,hw0⟩:=zhX (hval 0 29 v0 rfl rfl) h0 (fun e s he=>zhY hsz (j:=0) rfl (by rw[he];rfl))
 obtain⟨b1,x1,y1,d1_,z1,w1,rfl,⟨hx1,hy1⟩,hz1,hw1⟩:=zhX (hval 1 29 v1 rfl rfl) h1 (fun e s he=>zhY hsz (j:=1) rfl (by rw[he];rfl))
 obtain⟨b2,x2,y2,d2_,z2,w2,rfl,⟨hx2,hy2⟩,hz2,hw2⟩:=zhX (hval 2 29 v2 rfl rfl) h2 (fun e s he=>zhY hsz (j:=2) rfl (by rw[he];rfl))
 obtain⟨b3,x3,y3,rfl,hx3,hy3⟩:=znL (hval 3 27 v3 rfl rfl) h3 (fun d0 e1 s1 e2 s2 d1 d2 he=>znM hsz (j:=3) rfl (by rw[he];rfl))
 refine(zmA W b0 x0 y0 d0_ z0 w0 b1 x1 y1 d1_ z1 w1 b2 x2 y2 d2_ z2 w2 b3 x3 y3 hx0 hy0 hz0 hw0 hx1 hy1 hz1 hw1 hx2 hy2 hz2 hw2 hx3 hy3 (zlD hL)).mono fun e W' ⟨he,hb⟩=>?_
 subst he
 exact⟨_,rfl,zps hW' hb rfl rfl rfl (by
  rw[Tryz.params5]
  intro t ht
  simp at ht
  rcases ht with rfl|rfl <;> exact⟨by kernel_rfl,of_decide_eq_true (by kernel_rfl)⟩)⟩
theorem mliesx_holds:Rows.MeetLiesSaid:=
 OpenClaim.holds_of_wide 5 Tryz.f5 rfl rfl rfl rfl rfl rfl rfl ⟨rfl,rfl,rfl,rfl,rfl⟩ rfl rfl rfl rfl rfl (by kernel_rfl) Tryz.func5 (by kernel_rfl)
  (of_decide_eq_true (by kernel_rfl)) (by unfold Func.isWrapper;first|(rw[if_pos (by decide+kernel)];kernel_rfl)|(rw[if_neg (by decide+kernel)];exact⟨rfl,rfl⟩))
  (fun os started H enc _=>mliesx_lifted os started H enc)
theorem mliesx_card:Rows.MeetLiesCardSaid:=
 Claim7.holds_tied_plain_at .later [] [.data,.data,.data] true Rows.meetLiesCard.stood.harness false mliesx_holds (fun _ h=>by cases h) (by kernel_rfl) (fun _ h=>by cases h) meetLies_row_tie rfl ⟨rfl,rfl⟩ (by kernel_rfl) rfl
  (fun f fn hf hfn=>by
   obtain rfl : f = 5 := Option.some.inj ((show Tryz.prog.funcNamed "strait/straitlaw10.MeetLies" = some 5 by kernel_rfl).symm.trans hf) |>.symm
   obtain rfl:fn=Tryz.f5:=(Option.some.inj (Tryz.func5.symm.trans hfn)).symm
   exact⟨by kernel_rfl,fun j t ht=>by
    rw[Tryz.params5]at ht
    have hm:t∈[29,29,29,27]:=by simpa using Array.mem_of_getElem? ht
    have hall:([29,29,29,27].all fun u=> !Tryz.prog.wantsStandIn u)=true:=by kernel_rfl
    exact(show Tryz.prog.wantsStandIn t=false by simpa using List.all_eq_true.1 hall t hm)⟩)
  (by kernel_rfl)
end Go.Proofs.YtipckjmgdghkiaaGreatDoor
