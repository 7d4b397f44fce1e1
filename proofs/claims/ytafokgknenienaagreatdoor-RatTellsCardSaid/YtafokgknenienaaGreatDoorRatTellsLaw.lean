/- RatTells answers true for every two rationals, every row of rationals and every integer of 64 bits: what is told is what the document has. -/
import Derived.SevenTiedAt
import Derived.Test.YtafokgknenienaaGreatDoorGLTells
import Derived.Test.YtafokgknenienaaGreatDoorGOpR
import Derived.Test.YtafokgknenienaaGreatDoorTie
import Derived.Test.YtafokgknenienaaGreatDoorCards
set_option maxRecDepth 100000
namespace Go.Proofs.YtafokgknenienaaGreatDoor
open Go Go.ChangeShapes Go.WideShapes Go.ChangeAt Go.RowKit Go.Deep
theorem zjr {V:World}{f:FuncId}{args:Array Value}(h:Calls Tryz.prog f args V (zao V fun v _=>v= .bool true)):Calls Tryz.prog f args V fun e w'=>e= .returned (.bool true)∧Below V.heap.size V w':=h.mono (by
 rintro en V' ⟨v,rfl,rfl,hb⟩
 exact⟨rfl,hb⟩)
theorem zkP (w:World)(b0:Bool)(x0 y0:Num)(b1:Bool)(x1 y1:Num)(A:Option Addr)(c:Nat)(l:List (Bool×Num×Num))(n:Int)(hx0:x0.ok w w.heap.size)(hy0:y0.ok w w.heap.size)(hx1:x1.ok w w.heap.size)(hy1:y1.ok w w.heap.size)(hR:QRds w w.heap.size A l)(hl:l.length≤100000000000000)(hlc:l.length≤c)(hcm:c≤maxLen)(hn:(Lit.int .i64 n).wf=true)(hT:TT w):
  Calls Tryz.prog 3 #[.agg #[.bool b0,.slice x0.A x0.n x0.c,.slice y0.A y0.n y0.c],.agg #[.bool b1,.slice x1.A x1.n x1.c,.slice y1.A y1.n y1.c],.slice A l.length c,.int .i64 n] w fun e w'=>e= .returned (.bool true)∧Below w.heap.size w w':=by
 refine zjr ?_
 have bn: -9223372036854775808≤n∧n≤9223372036854775807:=by simpa[Lit.wf,IntKind.min,IntKind.max,IntKind.signed,IntKind.bits]using hn
 cases hG:zbR [(b0,x0,y0),(b1,x1,y1)]with
 |true=>exact zhF b0 x0 y0 b1 x1 y1 A c l n hT hx0 hy0 hx1 hy1 hG
 |false=>
  cases hG2:zbR l with
  |true=>exact zhG b0 x0 y0 b1 x1 y1 A c l n hT hx0 hy0 hx1 hy1 hR hl hG2 hG
  |false=>exact zm0 b0 x0 y0 b1 x1 y1 A c l n hT hx0 hy0 hx1 hy1 hR hl hlc hcm hG2 bn hG
theorem rtellsx_lifted (os:Os)(started:os.Started)(H:Type)(enc:TypeId×Value→H):
  ReturnsInHanded {} Tryz.checked os 3 .any (fun w args=>(Rows.ratTellsSpec.pre enc Tryz.prog Tryz.f3 [] false w args∧laidMetH Tryz.prog zfk w)∧sizedMet enc Tryz.prog Tryz.f3 (OpenSpec.ofChange Rows.ratTellsSpec) false w args)
   (Rows.ratTellsSpec.post enc Tryz.prog Tryz.f3 false true false false):=by
 refine returnsInHanded_of_change_and (C:=Tryz.checked) (X:=fun w _=>laidMetH Tryz.prog zfk w) (fun _ _ _ hh h=>h.of_heap hh) own started (by kernel_rfl) Tryz.func3
  (ChangeSpec.witness_shaped (enc:=enc) (C:=Tryz.checked) (os:=os) (X:=fun w _=>laidMetH Tryz.prog zfk w) false (World.laidAll Tryz.prog os zfk) #[.agg #[.bool false,.slice none 0 0,.slice none 0 0],.agg #[.bool false,.slice none 0 0,.slice none 0 0],.slice none 0 0,.int .i64 0] 8 (World.laidAll_os _ _ _)
   (World.shaped_of_ZipB (by kernel_rfl) (by kernel_rfl)) (by kernel_rfl) (by kernel_rfl) (by kernel_rfl)
   (by rw[MakeChecks.laidMetH_plain _ _ _ (by kernel_rfl)];exact laidMet_laidAll _ (by kernel_rfl) (by kernel_rfl))) ?_
 intro W base args ds gs before hval0 hW _ hsz0 hL _
 have hsz:(DataW.weightsEach Tryz.prog (Tryz.f3.params.toList++Rows.ratTellsSpec.plain.varTypes Tryz.prog) (ds++gs)).all (· ≤reachBytes)=true:=hsz0
 have hval:∀(j:Nat) t v,Tryz.f3.params[j]?=some t→args[j]?=some v→Value.okWide Tryz.prog W .any base t v:=hval0
 have hW':=hW
 obtain⟨p,q,hA0,hV,rfl,_,_⟩:=hW
 have hA:DataW.TrodAll enc Tryz.prog W 0 (fun _=>true) true Tryz.f3.params.toList args.toList ds p:=hA0
 rw[Tryz.params3]at hA hval hsz
 obtain⟨v0,vs0,d0,ds0,p0,q0,hargs,rfl,rfl,h0,r0⟩:=trodAll_cons hA
 obtain⟨v1,vs1,d1,ds1,p1,q1,rfl,rfl,rfl,h1,r1⟩:=trodAll_cons r0
 obtain⟨v2,vs2,d2,ds2,p2,q2,rfl,rfl,rfl,h2,r2⟩:=trodAll_cons r1
 obtain⟨v3,vs3,d3,ds3,p3,q3,rfl,rfl,rfl,h3,r3⟩:=trodAll_cons r2
 obtain⟨rfl,rfl,rfl⟩:=trodAll_nil r3
 obtain rfl:args= #[v0,v1,v2,v3]:=by cases args;simp_all
 obtain⟨rfl,rfl⟩:=trodVars_none hV
 obtain⟨b0,x0,y0,rfl,hx0,hy0⟩:=zer (hval 0 27 v0 rfl rfl) h0 (fun d0 e1 s1 e2 s2 d1 d2 he=>zes hsz (j:=0) rfl (by rw[he];rfl))
 obtain⟨b1,x1,y1,rfl,hx1,hy1⟩:=zer (hval 1 27 v1 rfl rfl) h1 (fun d0 e1 s1 e2 s2 d1 d2 he=>zes hsz (j:=1) rfl (by rw[he];rfl))
 obtain⟨A2,c2,l2,rfl,hR2,hl2,hc2,hm2⟩:=zle (hval 2 28 v2 rfl rfl) h2 (fun e s he=>⟨sized_slice hsz (j:=2) (t:=28) rfl (by rw[he];rfl) Tryz.underlying28,fun d0 e1 s1 e2 s2 d1 d2 hm=>zld hsz (j:=2) rfl (by rw[he];rfl) hm⟩)
 obtain⟨n3,rfl,rfl,rfl,w3⟩:=open_int Tryz.underlying3 (hval 3 3 v3 rfl rfl) h3
 refine(zkP W b0 x0 y0 b1 x1 y1 A2 c2 l2 n3 hx0 hy0 hx1 hy1 hR2 hl2 hc2 hm2 w3 (zgV hL)).mono fun e W' ⟨he,hb⟩=>?_
 subst he
 exact⟨_,rfl,zjO hW' hb rfl rfl rfl (by
  rw[Tryz.params3]
  intro t ht
  simp at ht
  rcases ht with rfl|rfl|rfl <;> exact⟨by kernel_rfl,of_decide_eq_true (by kernel_rfl)⟩)⟩
theorem rtellsx_holds:Rows.RatTellsSaid:=
 OpenClaim.holds_of_wide 3 Tryz.f3 rfl rfl rfl rfl rfl rfl rfl ⟨rfl,rfl,rfl,rfl,rfl⟩ rfl rfl rfl rfl rfl (by kernel_rfl) Tryz.func3 (by kernel_rfl)
  (of_decide_eq_true (by kernel_rfl)) (by unfold Func.isWrapper;first|(rw[if_pos (by decide+kernel)];kernel_rfl)|(rw[if_neg (by decide+kernel)];exact⟨rfl,rfl⟩))
  (fun os started H enc _=>rtellsx_lifted os started H enc)
theorem rtellsx_card:Rows.RatTellsCardSaid:=
 Claim7.holds_tied_plain_at .later [] [.data,.data,.data] true Rows.ratTellsCard.stood.harness false rtellsx_holds (fun _ h=>by cases h) (by kernel_rfl) (fun _ h=>by cases h) ratTells_row_tie rfl ⟨rfl,rfl⟩ (by kernel_rfl) rfl
  (fun f fn hf hfn=>by
   obtain rfl : f = 3 := Option.some.inj ((show Tryz.prog.funcNamed "strait/straitlaw07.RatTells" = some 3 by kernel_rfl).symm.trans hf) |>.symm
   obtain rfl:fn=Tryz.f3:=(Option.some.inj (Tryz.func3.symm.trans hfn)).symm
   exact⟨by kernel_rfl,fun j t ht=>by
    rw[Tryz.params3]at ht
    have hm:t∈[27,27,28,3]:=by simpa using Array.mem_of_getElem? ht
    have hall:([27,27,28,3].all fun u=> !Tryz.prog.wantsStandIn u)=true:=by kernel_rfl
    exact(show Tryz.prog.wantsStandIn t=false by simpa using List.all_eq_true.1 hall t hm)⟩)
  (by kernel_rfl)
end Go.Proofs.YtafokgknenienaaGreatDoor
