/- VecTells answers true for every two points, every rational, every row of points and every two integers of 64 bits: what is told is what the document has. -/
import Derived.SevenTiedAt
import Derived.Test.YtafokgknenienaaGreatDoorGVLTell
import Derived.Test.YtafokgknenienaaGreatDoorGVOpPt
import Derived.Test.YtafokgknenienaaGreatDoorTie
import Derived.Test.YtafokgknenienaaGreatDoorCards
set_option maxRecDepth 100000
namespace Go.Proofs.YtafokgknenienaaGreatDoor
open Go Go.ChangeShapes Go.WideShapes Go.ChangeAt Go.RowKit Go.Deep
theorem ziD {V:World}{f:FuncId}{args:Array Value}(h:Calls Tryz.prog f args V (zai V fun v _=>v= .bool true)):Calls Tryz.prog f args V fun e w'=>e= .returned (.bool true)∧Below V.heap.size V w':=h.mono (by
 rintro en V' ⟨v,rfl,rfl,hb⟩
 exact⟨rfl,hb⟩)
theorem zjU (w:World)(b0:Bool)(x0 y0:Num)(d0:Bool)(z0 w0:Num)(b1:Bool)(x1 y1:Num)(d1:Bool)(z1 w1:Num)(b2:Bool)(x2 y2:Num)(A:Option Addr)(c:Nat)(l:List PEl)(n m:Int)(hx0:x0.ok w w.heap.size)(hy0:y0.ok w w.heap.size)(hz0:z0.ok w w.heap.size)(hw0:w0.ok w w.heap.size)(hx1:x1.ok w w.heap.size)(hy1:y1.ok w w.heap.size)(hz1:z1.ok w w.heap.size)(hw1:w1.ok w w.heap.size)(hx2:x2.ok w w.heap.size)(hy2:y2.ok w w.heap.size)(hR:PRds w w.heap.size A l)(hll:l.length≤100000000000000)(hlc:l.length≤c)(hcm:c≤maxLen)(hn:(Lit.int .i64 n).wf=true)(hm:(Lit.int .i64 m).wf=true)(hT:TT w):
  Calls Tryz.prog 5 #[.agg #[.bool b0,.slice x0.A x0.n x0.c,.slice y0.A y0.n y0.c,.bool d0,.slice z0.A z0.n z0.c,.slice w0.A w0.n w0.c],.agg #[.bool b1,.slice x1.A x1.n x1.c,.slice y1.A y1.n y1.c,.bool d1,.slice z1.A z1.n z1.c,.slice w1.A w1.n w1.c],.agg #[.bool b2,.slice x2.A x2.n x2.c,.slice y2.A y2.n y2.c],.slice A l.length c,.int .i64 n,.int .i64 m] w fun e w'=>e= .returned (.bool true)∧Below w.heap.size w w':=by
 refine ziD ?_
 have bn: -9223372036854775808≤n∧n≤9223372036854775807:=by simpa[Lit.wf,IntKind.min,IntKind.max,IntKind.signed,IntKind.bits]using hn
 have bm: -9223372036854775808≤m∧m≤9223372036854775807:=by simpa[Lit.wf,IntKind.min,IntKind.max,IntKind.signed,IntKind.bits]using hm
 cases hG1:zbG [(b0,x0,y0,d0,z0,w0),(b1,x1,y1,d1,z1,w1)]with
 |true=>exact zg5 b0 x0 y0 d0 z0 w0 b1 x1 y1 d1 z1 w1 b2 x2 y2 A c l n m hT hx0 hy0 hz0 hw0 hx1 hy1 hz1 hw1 hx2 hy2 hG1
 |false=>
  cases hG2:zbG l with
  |true=>exact zg6 b0 x0 y0 d0 z0 w0 b1 x1 y1 d1 z1 w1 b2 x2 y2 A c l n m hT hx0 hy0 hz0 hw0 hx1 hy1 hz1 hw1 hx2 hy2 hR hll hlc hcm hG1 hG2
  |false=>
   cases hG3:decide ((6:Int)<((max x2.n y2.n:Nat):Int))with
   |true=>exact zg7 b0 x0 y0 d0 z0 w0 b1 x1 y1 d1 z1 w1 b2 x2 y2 A c l n m hT hx0 hy0 hz0 hw0 hx1 hy1 hz1 hw1 hx2 hy2 hR hll hlc hcm hG1 hG2 hG3
   |false=>exact zm5 b0 x0 y0 d0 z0 w0 b1 x1 y1 d1 z1 w1 b2 x2 y2 A c l n m hT hx0 hy0 hz0 hw0 hx1 hy1 hz1 hw1 hx2 hy2 hR hll hlc hcm bn bm hG1 hG2 hG3
theorem vtellsx_lifted (os:Os)(started:os.Started)(H:Type)(enc:TypeId×Value→H):
  ReturnsInHanded {} Tryz.checked os 5 .any (fun w args=>(Rows.vecTellsSpec.pre enc Tryz.prog Tryz.f5 [] false w args∧laidMetH Tryz.prog zeO w)∧sizedMet enc Tryz.prog Tryz.f5 (OpenSpec.ofChange Rows.vecTellsSpec) false w args)
   (Rows.vecTellsSpec.post enc Tryz.prog Tryz.f5 false true false false):=by
 refine returnsInHanded_of_change_and (C:=Tryz.checked) (X:=fun w _=>laidMetH Tryz.prog zeO w) (fun _ _ _ hh h=>h.of_heap hh) own started (by kernel_rfl) Tryz.func5
  (ChangeSpec.witness_shaped (enc:=enc) (C:=Tryz.checked) (os:=os) (X:=fun w _=>laidMetH Tryz.prog zeO w) false (World.laidAll Tryz.prog os zeO) #[.agg #[.bool false,.slice none 0 0,.slice none 0 0,.bool false,.slice none 0 0,.slice none 0 0],.agg #[.bool false,.slice none 0 0,.slice none 0 0,.bool false,.slice none 0 0,.slice none 0 0],.agg #[.bool false,.slice none 0 0,.slice none 0 0],.slice none 0 0,.int .i64 0,.int .i64 0] 8 (World.laidAll_os _ _ _)
   (World.shaped_of_ZipB (by kernel_rfl) (by kernel_rfl)) (by kernel_rfl) (by kernel_rfl) (by kernel_rfl)
   (by rw[MakeChecks.laidMetH_plain _ _ _ (by kernel_rfl)];exact laidMet_laidAll _ (by kernel_rfl) (by kernel_rfl))) ?_
 intro W base args ds gs before hval0 hW _ hsz0 hL _
 have hsz:(DataW.weightsEach Tryz.prog (Tryz.f5.params.toList++Rows.vecTellsSpec.plain.varTypes Tryz.prog) (ds++gs)).all (· ≤reachBytes)=true:=hsz0
 have hval:∀(j:Nat) t v,Tryz.f5.params[j]?=some t→args[j]?=some v→Value.okWide Tryz.prog W .any base t v:=hval0
 have hW':=hW
 obtain⟨p,q,hA0,hV,rfl,_,_⟩:=hW
 have hA:DataW.TrodAll enc Tryz.prog W 0 (fun _=>true) true Tryz.f5.params.toList args.toList ds p:=hA0
 rw[Tryz.params5]at hA hval hsz
 obtain⟨v0,vs0,d0,ds0,p0,q0,hargs,rfl,rfl,h0,r0⟩:=trodAll_cons hA
 obtain⟨v1,vs1,d1,ds1,p1,q1,rfl,rfl,rfl,h1,r1⟩:=trodAll_cons r0
 obtain⟨v2,vs2,d2,ds2,p2,q2,rfl,rfl,rfl,h2,r2⟩:=trodAll_cons r1
 obtain⟨v3,vs3,d3,ds3,p3,q3,rfl,rfl,rfl,h3,r3⟩:=trodAll_cons r2
 obtain⟨v4,vs4,d4,ds4,p4,q4,rfl,rfl,rfl,h4,r4⟩:=trodAll_cons r3
 obtain⟨v5,vs5,d5,ds5,p5,q5,rfl,rfl,rfl,h5,r5⟩:=trodAll_cons r4
 obtain⟨rfl,rfl,rfl⟩:=trodAll_nil r5
 obtain rfl:args= #[v0,v1,v2,v3,v4,v5]:=by cases args;simp_all
 obtain⟨rfl,rfl⟩:=trodVars_none hV
 obtain⟨b0,x0,y0,d0_,z0,w0,rfl,⟨hx0,hy0⟩,hz0,hw0⟩:=zd4 (hval 0 53 v0 rfl rfl) h0 (fun e s he=>zd5 hsz (j:=0) rfl (by rw[he];rfl))
 obtain⟨b1,x1,y1,d1_,z1,w1,rfl,⟨hx1,hy1⟩,hz1,hw1⟩:=zd4 (hval 1 53 v1 rfl rfl) h1 (fun e s he=>zd5 hsz (j:=1) rfl (by rw[he];rfl))
 obtain⟨b2,x2,y2,rfl,hx2,hy2⟩:=zlZ (hval 2 27 v2 rfl rfl) h2 (fun d0 e1 s1 e2 s2 d1 d2 he=>zl0 hsz (j:=2) rfl (by rw[he];rfl))
 obtain⟨A3,c3,l3,rfl,hR3,hl3,hc3,hm3⟩:=zm7 (hval 3 54 v3 rfl rfl) h3 (fun e s he=>⟨sized_slice hsz (j:=3) (t:=54) rfl (by rw[he];rfl) Tryz.underlying54,fun d0 d1 hm=>zm6 hsz (j:=3) rfl (by rw[he];rfl) hm⟩)
 obtain⟨n4,rfl,rfl,rfl,w4⟩:=open_int Tryz.underlying3 (hval 4 3 v4 rfl rfl) h4
 obtain⟨n5,rfl,rfl,rfl,w5⟩:=open_int Tryz.underlying3 (hval 5 3 v5 rfl rfl) h5
 refine(zjU W b0 x0 y0 d0_ z0 w0 b1 x1 y1 d1_ z1 w1 b2 x2 y2 A3 c3 l3 n4 n5 hx0 hy0 hz0 hw0 hx1 hy1 hz1 hw1 hx2 hy2 hR3 hl3 hc3 hm3 w4 w5 (zgj hL)).mono fun e W' ⟨he,hb⟩=>?_
 subst he
 exact⟨_,rfl,ziZ hW' hb rfl rfl rfl (by
  rw[Tryz.params5]
  intro t ht
  simp at ht
  rcases ht with rfl|rfl|rfl|rfl <;> exact⟨by kernel_rfl,of_decide_eq_true (by kernel_rfl)⟩)⟩
theorem vtellsx_holds:Rows.VecTellsSaid:=
 OpenClaim.holds_of_wide 5 Tryz.f5 rfl rfl rfl rfl rfl rfl rfl ⟨rfl,rfl,rfl,rfl,rfl⟩ rfl rfl rfl rfl rfl (by kernel_rfl) Tryz.func5 (by kernel_rfl)
  (of_decide_eq_true (by kernel_rfl)) (by unfold Func.isWrapper;first|(rw[if_pos (by decide+kernel)];kernel_rfl)|(rw[if_neg (by decide+kernel)];exact⟨rfl,rfl⟩))
  (fun os started H enc _=>vtellsx_lifted os started H enc)
theorem vtellsx_card:Rows.VecTellsCardSaid:=
 Claim7.holds_tied_plain_at .later [] [.data,.data,.data] true Rows.vecTellsCard.stood.harness false vtellsx_holds (fun _ h=>by cases h) (by kernel_rfl) (fun _ h=>by cases h) vecTells_row_tie rfl ⟨rfl,rfl⟩ (by kernel_rfl) rfl
  (fun f fn hf hfn=>by
   obtain rfl : f = 5 := Option.some.inj ((show Tryz.prog.funcNamed "strait/straitlaw08.VecTells" = some 5 by kernel_rfl).symm.trans hf) |>.symm
   obtain rfl:fn=Tryz.f5:=(Option.some.inj (Tryz.func5.symm.trans hfn)).symm
   exact⟨by kernel_rfl,fun j t ht=>by
    rw[Tryz.params5]at ht
    have hm:t∈[53,53,27,54,3,3]:=by simpa using Array.mem_of_getElem? ht
    have hall:([53,53,27,54,3,3].all fun u=> !Tryz.prog.wantsStandIn u)=true:=by kernel_rfl
    exact(show Tryz.prog.wantsStandIn t=false by simpa using List.all_eq_true.1 hall t hm)⟩)
  (by kernel_rfl)
end Go.Proofs.YtafokgknenienaaGreatDoor
