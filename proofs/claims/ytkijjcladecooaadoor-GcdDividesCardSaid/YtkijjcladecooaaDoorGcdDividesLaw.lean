/- GcdDivides answers true for every three numbers: the greatest common divisor is a divisor of both, and with a common factor more it is as often greater. -/
import Derived.SevenTiedAt
import Derived.Test.YtkijjcladecooaaDoorGcdDivides2
import Derived.Test.YtkijjcladecooaaDoorGGcdC
import Derived.Test.YtkijjcladecooaaDoorTie
import Derived.Test.YtkijjcladecooaaDoorCards
namespace Go.Proofs.YtkijjcladecooaaDoor
open Go Go.ChangeShapes Go.WideShapes Go.ChangeAt Go.RowKit Go.Deep

theorem gdivides_any (w : World) (x y z : Num) (hx : x.ok w w.heap.size) (hy : y.ok w w.heap.size) (hz : z.ok w w.heap.size) (hT : Tabs w) :
    Calls Tryd.prog 4 #[.slice x.A x.n x.c, .slice y.A y.n y.c, .slice z.A z.n z.c] w fun e w' => e = .returned (.bool true) ∧ Below w.heap.size w w' := by
  by_cases hl : x.n ≤ 6 ∧ y.n ≤ 6 ∧ z.n ≤ 6
  · obtain ⟨b1, b2, b3⟩ := hl
    by_cases h1 : x.N = 0
    · by_cases h2 : y.N = 0
      · exact gdivides_nought w (gcdTold w hT) x y z hx hy hz b1 b2 b3 h1 h2
      · by_cases h3 : z.N = 0
        · cases h4 : coprB x.N z.N with
          | true => exact gdivides_fzc w (gcdTold w hT) x y z hx hy hz b1 b2 b3 h1 h2 h3 h4
          | false => exact gdivides_fzn w (gcdTold w hT) x y z hx hy hz b1 b2 b3 h1 h2 h3 h4
        · cases h4 : coprB x.N z.N with
          | true => exact gdivides_fpc w (gcdTold w hT) x y z hx hy hz b1 b2 b3 h1 h2 h3 h4
          | false => exact gdivides_fpn w (gcdTold w hT) x y z hx hy hz b1 b2 b3 h1 h2 h3 h4
    · by_cases h3 : z.N = 0
      · cases h4 : coprB x.N z.N with
        | true => exact gdivides_szc w (gcdTold w hT) x y z hx hy hz b1 b2 b3 h1 h3 h4
        | false => exact gdivides_szn w (gcdTold w hT) x y z hx hy hz b1 b2 b3 h1 h3 h4
      · cases h4 : coprB x.N z.N with
        | true => exact gdivides_spc w (gcdTold w hT) x y z hx hy hz b1 b2 b3 h1 h3 h4
        | false => exact gdivides_spn w (gcdTold w hT) x y z hx hy hz b1 b2 b3 h1 h3 h4
  · exact gdivides_long w (gcdTold w hT) x y z hx hy hz hl

set_option maxRecDepth 100000 in
theorem gdivides_lifted (os : Os) (started : os.Started) (H : Type) (enc : TypeId × Value → H) :
    ReturnsInHanded {} Tryd.checked os 4 .any (fun w args => (Rows.gcdDividesSpec.pre enc Tryd.prog Tryd.f4 [] false w args ∧ laidMetH Tryd.prog laid4 w) ∧ sizedMet enc Tryd.prog Tryd.f4 (OpenSpec.ofChange Rows.gcdDividesSpec) false w args)
      (Rows.gcdDividesSpec.post enc Tryd.prog Tryd.f4 false true false false) := by
  refine returnsInHanded_of_change_and (C := Tryd.checked) (X := fun w _ => laidMetH Tryd.prog laid4 w) (fun _ _ _ hh h => h.of_heap hh) own started (by kernel_rfl) Tryd.func4
    (ChangeSpec.witness_shaped (enc := enc) (C := Tryd.checked) (os := os) (X := fun w _ => laidMetH Tryd.prog laid4 w) false (World.laidAll Tryd.prog os laid4) #[.slice none 0 0, .slice none 0 0, .slice none 0 0] 8 (World.laidAll_os _ _ _)
      (World.shaped_of_ZipB (by kernel_rfl) (by kernel_rfl)) (by kernel_rfl) (by kernel_rfl) (by kernel_rfl)
      (by rw [MakeChecks.laidMetH_plain _ _ _ (by kernel_rfl)]; exact laidMet_laidAll _ (by kernel_rfl) (by kernel_rfl))) ?_
  intro W base args ds gs before hval0 hW _ hsz0 hL _
  have hsz : (DataW.weightsEach Tryd.prog (Tryd.f4.params.toList ++ Rows.gcdDividesSpec.plain.varTypes Tryd.prog) (ds ++ gs)).all (· ≤ reachBytes) = true := hsz0
  have hval : ∀ (j : Nat) t v, Tryd.f4.params[j]? = some t → args[j]? = some v → Value.okWide Tryd.prog W .any base t v := hval0
  have hW' := hW
  obtain ⟨p, q, hA0, hV, rfl, _, _⟩ := hW
  have hA : DataW.TrodAll enc Tryd.prog W 0 (fun _ => true) true Tryd.f4.params.toList args.toList ds p := hA0
  rw [Tryd.params4] at hA hval hsz
  obtain ⟨v0, vs0, d0, ds0, p0, q0, hargs, rfl, rfl, h0, r0⟩ := trodAll_cons hA
  obtain ⟨v1, vs1, d1, ds1, p1, q1, rfl, rfl, rfl, h1, r1⟩ := trodAll_cons r0
  obtain ⟨v2, vs2, d2, ds2, p2, q2, rfl, rfl, rfl, h2, r2⟩ := trodAll_cons r1
  obtain ⟨rfl, rfl, rfl⟩ := trodAll_nil r2
  obtain rfl : args = #[v0, v1, v2] := by cases args; simp_all
  obtain ⟨rfl, rfl⟩ := trodVars_none hV
  obtain ⟨x0, rfl, hx0⟩ := open_nat (hval 0 23 v0 rfl rfl) h0 (fun e s he => sized_slice hsz (j := 0) (t := 23) rfl (by rw [he]; rfl) Tryd.underlying23)
  obtain ⟨x1, rfl, hx1⟩ := open_nat (hval 1 23 v1 rfl rfl) h1 (fun e s he => sized_slice hsz (j := 1) (t := 23) rfl (by rw [he]; rfl) Tryd.underlying23)
  obtain ⟨x2, rfl, hx2⟩ := open_nat (hval 2 23 v2 rfl rfl) h2 (fun e s he => sized_slice hsz (j := 2) (t := 23) rfl (by rw [he]; rfl) Tryd.underlying23)
  refine (gdivides_any W x0 x1 x2 hx0 hx1 hx2 (tabs_of_laid hL)).mono fun e W' ⟨he, hb⟩ => ?_
  subst he
  exact ⟨_, rfl, law_post hW' hb rfl rfl rfl (by
    rw [Tryd.params4]
    intro t ht
    simp at ht
    rcases ht with rfl <;> exact ⟨by kernel_rfl, of_decide_eq_true (by kernel_rfl)⟩)⟩

theorem gdivides_holds : Rows.GcdDividesSaid :=
  OpenClaim.holds_of_wide 4 Tryd.f4 rfl rfl rfl rfl rfl rfl rfl ⟨rfl, rfl, rfl, rfl, rfl⟩ rfl rfl rfl rfl rfl (by kernel_rfl) Tryd.func4 (by kernel_rfl)
    (of_decide_eq_true (by kernel_rfl)) (by unfold Func.isWrapper; first | (rw [if_pos (by decide +kernel)]; kernel_rfl) | (rw [if_neg (by decide +kernel)]; exact ⟨rfl, rfl⟩))
    (fun os started H enc _ => gdivides_lifted os started H enc)

theorem gdivides_card : Rows.GcdDividesCardSaid :=
  Claim7.holds_tied_plain_at .later [] [.data, .data] true Rows.gcdDividesCard.stood.harness false gdivides_holds (fun _ h => by cases h) (by kernel_rfl) (fun _ h => by cases h) gcdDivides_row_tie rfl ⟨rfl, rfl⟩ (by kernel_rfl) rfl
    (fun f fn hf hfn => by
      obtain rfl : f = 4 := Option.some.inj ((show Tryd.prog.funcNamed "strait/straitlaw04.GcdDivides" = some 4 by kernel_rfl).symm.trans hf) |>.symm
      obtain rfl : fn = Tryd.f4 := (Option.some.inj (Tryd.func4.symm.trans hfn)).symm
      exact ⟨by kernel_rfl, fun j t ht => by
        rw [Tryd.params4] at ht
        have hm : t ∈ [23, 23, 23] := by simpa using Array.mem_of_getElem? ht
        have hall : ([23, 23, 23].all fun u => !Tryd.prog.wantsStandIn u) = true := by kernel_rfl
        exact (show Tryd.prog.wantsStandIn t = false by simpa using List.all_eq_true.1 hall t hm)⟩)
    (by kernel_rfl)
end Go.Proofs.YtkijjcladecooaaDoor
