/- RatNorm answers true for every rational and every number: what is told is normalised, and a rational that is written otherwise is told the same. -/
import Derived.SevenTiedAt
import Derived.Test.YtdajbmjknilmiaaGreatDoorGLNorm
import Derived.Test.YtdajbmjknilmiaaGreatDoorGLaidA
import Derived.Test.YtdajbmjknilmiaaGreatDoorTie
import Derived.Test.YtdajbmjknilmiaaGreatDoorCards
namespace Go.Proofs.YtdajbmjknilmiaaGreatDoor
open Go Go.ChangeShapes Go.WideShapes Go.ChangeAt Go.RowKit Go.Deep

theorem rnormx_true {V : World} {f : FuncId} {args : Array Value} (h : Calls Tryz.prog f args V (Gives1 V fun v _ => v = .bool true)) : Calls Tryz.prog f args V fun e w' => e = .returned (.bool true) ∧ Below V.heap.size V w' := h.mono (by
  rintro en V' ⟨v, rfl, rfl, hb⟩
  exact ⟨rfl, hb⟩)
theorem rnormx_any (w : World) (b0 : Bool) (x0 y0 : Num) (z : Num) (hx0 : x0.ok w w.heap.size) (hy0 : y0.ok w w.heap.size) (hz : z.ok w w.heap.size) (hT : TT w) :
    Calls Tryz.prog 5 #[.agg #[.bool b0, .slice x0.A x0.n x0.c, .slice y0.A y0.n y0.c], .slice z.A z.n z.c] w fun e w' => e = .returned (.bool true) ∧ Below w.heap.size w w' := by
  refine rnormx_true ?_
  cases hG : great7 [(b0, x0, y0)] with
  | true => exact rnorm_great b0 x0 y0 z hT hx0 hy0 hz hG
  | false =>
    cases hl : decide ((4 : Int) < ((z.n : Nat) : Int)) with
    | true => exact rnorm_long b0 x0 y0 z hT hx0 hy0 hz hG hl
    | false => exact rnorm_go b0 x0 y0 z hT hx0 hy0 hz hG hl

set_option maxRecDepth 100000 in
theorem rnormx_lifted (os : Os) (started : os.Started) (H : Type) (enc : TypeId × Value → H) :
    ReturnsInHanded {} Tryz.checked os 5 .any (fun w args => (Rows.ratNormSpec.pre enc Tryz.prog Tryz.f5 [] false w args ∧ laidMetH Tryz.prog laid7 w) ∧ sizedMet enc Tryz.prog Tryz.f5 (OpenSpec.ofChange Rows.ratNormSpec) false w args)
      (Rows.ratNormSpec.post enc Tryz.prog Tryz.f5 false true false false) := by
  refine returnsInHanded_of_change_and (C := Tryz.checked) (X := fun w _ => laidMetH Tryz.prog laid7 w) (fun _ _ _ hh h => h.of_heap hh) own started (by kernel_rfl) Tryz.func5
    (ChangeSpec.witness_shaped (enc := enc) (C := Tryz.checked) (os := os) (X := fun w _ => laidMetH Tryz.prog laid7 w) false (World.laidAll Tryz.prog os laid7) #[.agg #[.bool false, .slice none 0 0, .slice none 0 0], .slice none 0 0] 8 (World.laidAll_os _ _ _)
      (World.shaped_of_ZipB (by kernel_rfl) (by kernel_rfl)) (by kernel_rfl) (by kernel_rfl) (by kernel_rfl)
      (by rw [MakeChecks.laidMetH_plain _ _ _ (by kernel_rfl)]; exact laidMet_laidAll _ (by kernel_rfl) (by kernel_rfl))) ?_
  intro W base args ds gs before hval0 hW _ hsz0 hL _
  have hsz : (DataW.weightsEach Tryz.prog (Tryz.f5.params.toList ++ Rows.ratNormSpec.plain.varTypes Tryz.prog) (ds ++ gs)).all (· ≤ reachBytes) = true := hsz0
  have hval : ∀ (j : Nat) t v, Tryz.f5.params[j]? = some t → args[j]? = some v → Value.okWide Tryz.prog W .any base t v := hval0
  have hW' := hW
  obtain ⟨p, q, hA0, hV, rfl, _, _⟩ := hW
  have hA : DataW.TrodAll enc Tryz.prog W 0 (fun _ => true) true Tryz.f5.params.toList args.toList ds p := hA0
  rw [Tryz.params5] at hA hval hsz
  obtain ⟨v0, vs0, d0, ds0, p0, q0, hargs, rfl, rfl, h0, r0⟩ := trodAll_cons hA
  obtain ⟨v1, vs1, d1, ds1, p1, q1, rfl, rfl, rfl, h1, r1⟩ := trodAll_cons r0
  obtain ⟨rfl, rfl, rfl⟩ := trodAll_nil r1
  obtain rfl : args = #[v0, v1] := by cases args; simp_all
  obtain ⟨rfl, rfl⟩ := trodVars_none hV
  obtain ⟨b0, x0, y0, rfl, hx0, hy0⟩ := open_rat7 (hval 0 27 v0 rfl rfl) h0 (fun d0 e1 s1 e2 s2 d1 d2 he => sized_rat hsz (j := 0) rfl (by rw [he]; rfl))
  obtain ⟨x1, rfl, hx1⟩ := open_nat (hval 1 23 v1 rfl rfl) h1 (fun e s he => sized_slice hsz (j := 1) (t := 23) rfl (by rw [he]; rfl) Tryz.underlying23)
  refine (rnormx_any W b0 x0 y0 x1 hx0 hy0 hx1 (tt_of_laid hL)).mono fun e W' ⟨he, hb⟩ => ?_
  subst he
  exact ⟨_, rfl, law_post hW' hb rfl rfl rfl (by
    rw [Tryz.params5]
    intro t ht
    simp at ht
    rcases ht with rfl | rfl <;> exact ⟨by kernel_rfl, of_decide_eq_true (by kernel_rfl)⟩)⟩

theorem rnormx_holds : Rows.RatNormSaid :=
  OpenClaim.holds_of_wide 5 Tryz.f5 rfl rfl rfl rfl rfl rfl rfl ⟨rfl, rfl, rfl, rfl, rfl⟩ rfl rfl rfl rfl rfl (by kernel_rfl) Tryz.func5 (by kernel_rfl)
    (of_decide_eq_true (by kernel_rfl)) (by unfold Func.isWrapper; first | (rw [if_pos (by decide +kernel)]; kernel_rfl) | (rw [if_neg (by decide +kernel)]; exact ⟨rfl, rfl⟩))
    (fun os started H enc _ => rnormx_lifted os started H enc)

theorem rnormx_card : Rows.RatNormCardSaid :=
  Claim7.holds_tied_plain_at .later [] [.data, .data, .data] true Rows.ratNormCard.stood.harness false rnormx_holds (fun _ h => by cases h) (by kernel_rfl) (fun _ h => by cases h) ratNorm_row_tie rfl ⟨rfl, rfl⟩ (by kernel_rfl) rfl
    (fun f fn hf hfn => by
      obtain rfl : f = 5 := Option.some.inj ((show Tryz.prog.funcNamed "strait/straitlaw07.RatNorm" = some 5 by kernel_rfl).symm.trans hf) |>.symm
      obtain rfl : fn = Tryz.f5 := (Option.some.inj (Tryz.func5.symm.trans hfn)).symm
      exact ⟨by kernel_rfl, fun j t ht => by
        rw [Tryz.params5] at ht
        have hm : t ∈ [27, 23] := by simpa using Array.mem_of_getElem? ht
        have hall : ([27, 23].all fun u => !Tryz.prog.wantsStandIn u) = true := by kernel_rfl
        exact (show Tryz.prog.wantsStandIn t = false by simpa using List.all_eq_true.1 hall t hm)⟩)
    (by kernel_rfl)
end Go.Proofs.YtdajbmjknilmiaaGreatDoor
