/- RatBetween answers true for every two rationals: what is told to be between lies strictly between, its denominator is the least power of two, and no number nearer to nought by that power does. -/
import Derived.SevenTiedAt
import Derived.Test.YtafokgknenienaaGreatDoorGLBtw
import Derived.Test.YtafokgknenienaaGreatDoorGLaidA
import Derived.Test.YtafokgknenienaaGreatDoorTie
import Derived.Test.YtafokgknenienaaGreatDoorCards
set_option maxRecDepth 100000
namespace Go.Proofs.YtafokgknenienaaGreatDoor
open Go Go.ChangeShapes Go.WideShapes Go.ChangeAt Go.RowKit Go.Deep
theorem zl2 {V:World}{f:FuncId}{args:Array Value}(h:Calls Tryz.prog f args V (zao V fun v _=>v= .bool true)):Calls Tryz.prog f args V fun e w'=>e= .returned (.bool true)∧Below V.heap.size V w':=h.mono (by
 rintro en V' ⟨v,rfl,rfl,hb⟩
 exact⟨rfl,hb⟩)
theorem zol (w:World)(b0:Bool)(x0 y0:Num)(b1:Bool)(x1 y1:Num)(hx0:x0.ok w w.heap.size)(hy0:y0.ok w w.heap.size)(hx1:x1.ok w w.heap.size)(hy1:y1.ok w w.heap.size)(hT:TT w):
  Calls Tryz.prog 4 #[.agg #[.bool b0,.slice x0.A x0.n x0.c,.slice y0.A y0.n y0.c],.agg #[.bool b1,.slice x1.A x1.n x1.c,.slice y1.A y1.n y1.c]] w fun e w'=>e= .returned (.bool true)∧Below w.heap.size w w':=by
 refine zl2 ?_
 cases hG:zbR [(b0,x0,y0),(b1,x1,y1)]with
 |true=>exact zk5 b0 x0 y0 b1 x1 y1 hT hx0 hy0 hx1 hy1 hG
 |false=>exact zqT b0 x0 y0 b1 x1 y1 hT hx0 hy0 hx1 hy1 hG
theorem rbtwx_lifted (os:Os)(started:os.Started)(H:Type)(enc:TypeId×Value→H):
  ReturnsInHanded {} Tryz.checked os 4 .any (fun w args=>(Rows.ratBetweenSpec.pre enc Tryz.prog Tryz.f4 [] false w args∧laidMetH Tryz.prog zfk w)∧sizedMet enc Tryz.prog Tryz.f4 (OpenSpec.ofChange Rows.ratBetweenSpec) false w args)
   (Rows.ratBetweenSpec.post enc Tryz.prog Tryz.f4 false true false false):=by
 refine returnsInHanded_of_change_and (C:=Tryz.checked) (X:=fun w _=>laidMetH Tryz.prog zfk w) (fun _ _ _ hh h=>h.of_heap hh) own started (by kernel_rfl) Tryz.func4
  (ChangeSpec.witness_shaped (enc:=enc) (C:=Tryz.checked) (os:=os) (X:=fun w _=>laidMetH Tryz.prog zfk w) false (World.laidAll Tryz.prog os zfk) #[.agg #[.bool false,.slice none 0 0,.slice none 0 0],.agg #[.bool false,.slice none 0 0,.slice none 0 0]] 8 (World.laidAll_os _ _ _)
   (World.shaped_of_ZipB (by kernel_rfl) (by kernel_rfl)) (by kernel_rfl) (by kernel_rfl) (by kernel_rfl)
   (by rw[MakeChecks.laidMetH_plain _ _ _ (by kernel_rfl)];exact laidMet_laidAll _ (by kernel_rfl) (by kernel_rfl))) ?_
 intro W base args ds gs before hval0 hW _ hsz0 hL _
 have hsz:(DataW.weightsEach Tryz.prog (Tryz.f4.params.toList++Rows.ratBetweenSpec.plain.varTypes Tryz.prog) (ds++gs)).all (· ≤reachBytes)=true:=hsz0
 have hval:∀(j:Nat) t v,Tryz.f4.params[j]?=some t→args[j]?=some v→Value.okWide Tryz.prog W .any base t v:=hval0
 have hW':=hW
 obtain⟨p,q,hA0,hV,rfl,_,_⟩:=hW
 have hA:DataW.TrodAll enc Tryz.prog W 0 (fun _=>true) true Tryz.f4.params.toList args.toList ds p:=hA0
 rw[Tryz.params4]at hA hval hsz
 obtain⟨v0,vs0,d0,ds0,p0,q0,hargs,rfl,rfl,h0,r0⟩:=trodAll_cons hA
 obtain⟨v1,vs1,d1,ds1,p1,q1,rfl,rfl,rfl,h1,r1⟩:=trodAll_cons r0
 obtain⟨rfl,rfl,rfl⟩:=trodAll_nil r1
 obtain rfl:args= #[v0,v1]:=by cases args;simp_all
 obtain⟨rfl,rfl⟩:=trodVars_none hV
 obtain⟨b0,x0,y0,rfl,hx0,hy0⟩:=zer (hval 0 27 v0 rfl rfl) h0 (fun d0 e1 s1 e2 s2 d1 d2 he=>zes hsz (j:=0) rfl (by rw[he];rfl))
 obtain⟨b1,x1,y1,rfl,hx1,hy1⟩:=zer (hval 1 27 v1 rfl rfl) h1 (fun d0 e1 s1 e2 s2 d1 d2 he=>zes hsz (j:=1) rfl (by rw[he];rfl))
 refine(zol W b0 x0 y0 b1 x1 y1 hx0 hy0 hx1 hy1 (zgV hL)).mono fun e W' ⟨he,hb⟩=>?_
 subst he
 exact⟨_,rfl,zjO hW' hb rfl rfl rfl (by
  rw[Tryz.params4]
  intro t ht
  simp at ht
  rcases ht with rfl <;> exact⟨by kernel_rfl,of_decide_eq_true (by kernel_rfl)⟩)⟩
theorem rbtwx_holds:Rows.RatBetweenSaid:=
 OpenClaim.holds_of_wide 4 Tryz.f4 rfl rfl rfl rfl rfl rfl rfl ⟨rfl,rfl,rfl,rfl,rfl⟩ rfl rfl rfl rfl rfl (by kernel_rfl) Tryz.func4 (by kernel_rfl)
  (of_decide_eq_true (by kernel_rfl)) (by unfold Func.isWrapper;first|(rw[if_pos (by decide+kernel)];kernel_rfl)|(rw[if_neg (by decide+kernel)];exact⟨rfl,rfl⟩))
  (fun os started H enc _=>rbtwx_lifted os started H enc)
theorem rbtwx_card:Rows.RatBetweenCardSaid:=
 Claim7.holds_tied_plain_at .later [] [.data,.data,.data] true Rows.ratBetweenCard.stood.harness false rbtwx_holds (fun _ h=>by cases h) (by kernel_rfl) (fun _ h=>by cases h) ratBetween_row_tie rfl ⟨rfl,rfl⟩ (by kernel_rfl) rfl
  (fun f fn hf hfn=>by
   obtain rfl : f = 4 := Option.some.inj ((show Tryz.prog.funcNamed "strait/straitlaw07.RatBetween" = some 4 by kernel_rfl).symm.trans hf) |>.symm
   obtain rfl:fn=Tryz.f4:=(Option.some.inj (Tryz.func4.symm.trans hfn)).symm
   exact⟨by kernel_rfl,fun j t ht=>by
    rw[Tryz.params4]at ht
    have hm:t∈[27,27]:=by simpa using Array.mem_of_getElem? ht
    have hall:([27,27].all fun u=> !Tryz.prog.wantsStandIn u)=true:=by kernel_rfl
    exact(show Tryz.prog.wantsStandIn t=false by simpa using List.all_eq_true.1 hall t hm)⟩)
  (by kernel_rfl)
end Go.Proofs.YtafokgknenienaaGreatDoor
