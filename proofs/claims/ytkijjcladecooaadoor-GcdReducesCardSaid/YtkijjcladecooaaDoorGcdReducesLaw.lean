/- GcdReduces answers true for every two numbers: what is reduced has nothing in common, and is to one another as before. -/
import Derived.SevenTiedAt
import Derived.Test.YtkijjcladecooaaDoorGcdReduces
import Derived.Test.YtkijjcladecooaaDoorGGcdC
import Derived.Test.YtkijjcladecooaaDoorTie
import Derived.Test.YtkijjcladecooaaDoorCards
namespace Go.Proofs.YtkijjcladecooaaDoor
open Go Go.ChangeShapes Go.WideShapes Go.ChangeAt Go.RowKit Go.Deep

theorem greduces_any (w : World) (x y : Num) (hx : x.ok w w.heap.size) (hy : y.ok w w.heap.size) (hT : Tabs w) :
    Calls Tryd.prog 5 #[.slice x.A x.n x.c, .slice y.A y.n y.c] w fun e w' => e = .returned (.bool true) ∧ Below w.heap.size w w' := by
  by_cases hl : x.n ≤ 8 ∧ y.n ≤ 8
  · by_cases h1 : x.N = 0
    · by_cases h2 : y.N = 0
      · exact greduces_nought w (gcdTold w hT) x y hx hy hl.1 hl.2 h1 h2
      · exact greduces_first w (gcdTold w hT) x y hx hy hl.1 hl.2 h1 h2
    · exact greduces_go w (gcdTold w hT) x y hx hy hl.1 hl.2 h1
  · exact greduces_long w (gcdTold w hT) x y hx hy hl

set_option maxRecDepth 100000 in
theorem greduces_lifted (os : Os) (started : os.Started) (H : Type) (enc : TypeId × Value → H) :
    ReturnsInHanded {} Tryd.checked os 5 .any (fun w args => (Rows.gcdReducesSpec.pre enc Tryd.prog Tryd.f5 [] false w args ∧ laidMetH Tryd.prog laid4 w) ∧ sizedMet enc Tryd.prog Tryd.f5 (OpenSpec.ofChange Rows.gcdReducesSpec) false w args)
      (Rows.gcdReducesSpec.post enc Tryd.prog Tryd.f5 false true false false) := by
  refine returnsInHanded_of_change_and (C := Tryd.checked) (X := fun w _ => laidMetH Tryd.prog laid4 w) (fun _ _ _ hh h => h.of_heap hh) own started (by kernel_rfl) Tryd.func5
    (ChangeSpec.witness_shaped (enc := enc) (C := Tryd.checked) (os := os) (X := fun w _ => laidMetH Tryd.prog laid4 w) false (World.laidAll Tryd.prog os laid4) #[.slice none 0 0, .slice none 0 0] 8 (World.laidAll_os _ _ _)
      (World.shaped_of_ZipB (by kernel_rfl) (by kernel_rfl)) (by kernel_rfl) (by kernel_rfl) (by kernel_rfl)
      (by rw [MakeChecks.laidMetH_plain _ _ _ (by kernel_rfl)]; exact laidMet_laidAll _ (by kernel_rfl) (by kernel_rfl))) ?_
  intro W base args ds gs before hval0 hW _ hsz0 hL _
  have hsz : (DataW.weightsEach Tryd.prog (Tryd.f5.params.toList ++ Rows.gcdReducesSpec.plain.varTypes Tryd.prog) (ds ++ gs)).all (· ≤ reachBytes) = true := hsz0
  have hval : ∀ (j : Nat) t v, Tryd.f5.params[j]? = some t → args[j]? = some v → Value.okWide Tryd.prog W .any base t v := hval0
  have hW' := hW
  obtain ⟨p, q, hA0, hV, rfl, _, _⟩ := hW
  have hA : DataW.TrodAll enc Tryd.prog W 0 (fun _ => true) true Tryd.f5.params.toList args.toList ds p := hA0
  rw [Tryd.params5] at hA hval hsz
  obtain ⟨v0, vs0, d0, ds0, p0, q0, hargs, rfl, rfl, h0, r0⟩ := trodAll_cons hA
  obtain ⟨v1, vs1, d1, ds1, p1, q1, rfl, rfl, rfl, h1, r1⟩ := trodAll_cons r0
  obtain ⟨rfl, rfl, rfl⟩ := trodAll_nil r1
  obtain rfl : args = #[v0, v1] := by cases args; simp_all
  obtain ⟨rfl, rfl⟩ := trodVars_none hV
  obtain ⟨x0, rfl, hx0⟩ := open_nat (hval 0 23 v0 rfl rfl) h0 (fun e s he => sized_slice hsz (j := 0) (t := 23) rfl (by rw [he]; rfl) Tryd.underlying23)
  obtain ⟨x1, rfl, hx1⟩ := open_nat (hval 1 23 v1 rfl rfl) h1 (fun e s he => sized_slice hsz (j := 1) (t := 23) rfl (by rw [he]; rfl) Tryd.underlying23)
  refine (greduces_any W x0 x1 hx0 hx1 (tabs_of_laid hL)).mono fun e W' ⟨he, hb⟩ => ?_
  subst he
  exact ⟨_, rfl, law_post hW' hb rfl rfl rfl (by
    rw [Tryd.params5]
    intro t ht
    simp at ht
    rcases ht with rfl <;> exact ⟨by kernel_rfl, of_decide_eq_true (by kernel_rfl)⟩)⟩

theorem greduces_holds : Rows.GcdReducesSaid :=
  OpenClaim.holds_of_wide 5 Tryd.f5 rfl rfl rfl rfl rfl rfl rfl ⟨rfl, rfl, rfl, rfl, rfl⟩ rfl rfl rfl rfl rfl (by kernel_rfl) Tryd.func5 (by kernel_rfl)
    (of_decide_eq_true (by kernel_rfl)) (by unfold Func.isWrapper; first | (rw [if_pos (by decide +kernel)]; kernel_rfl) | (rw [if_neg (by decide +kernel)]; exact ⟨rfl, rfl⟩))
    (fun os started H enc _ => greduces_lifted os started H enc)

theorem greduces_card : Rows.GcdReducesCardSaid :=
  Claim7.holds_tied_plain_at .later [] [.data, .data] true Rows.gcdReducesCard.stood.harness false greduces_holds (fun _ h => by cases h) (by kernel_rfl) (fun _ h => by cases h) gcdReduces_row_tie rfl ⟨rfl, rfl⟩ (by kernel_rfl) rfl
    (fun f fn hf hfn => by
      obtain rfl : f = 5 := Option.some.inj ((show Tryd.prog.funcNamed "strait/straitlaw04.GcdReduces" = some 5 by kernel_rfl).symm.trans hf) |>.symm
      obtain rfl : fn = Tryd.f5 := (Option.some.inj (Tryd.func5.symm.trans hfn)).symm
      exact ⟨by kernel_rfl, fun j t ht => by
        rw [Tryd.params5] at ht
        have hm : t ∈ [23, 23] := by simpa using Array.mem_of_getElem? ht
        have hall : ([23, 23].all fun u => !Tryd.prog.wantsStandIn u) = true := by kernel_rfl
        exact (show Tryd.prog.wantsStandIn t = false by simpa using List.all_eq_true.1 hall t hm)⟩)
    (by kernel_rfl)
end Go.Proofs.YtkijjcladecooaaDoor
