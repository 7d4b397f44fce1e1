/- SintTells answers true for all arguments: integers as they are told, signs, order, sums, products, quotients, rests are the document's. -/
import Derived.SevenTiedAt
import Derived.Test.YtolldhfcnbbelaaGreatDoorSintTells
import Derived.Test.YtolldhfcnbbelaaGreatDoorOpenInts
import Derived.Test.YtolldhfcnbbelaaGreatDoorOpenInt
import Derived.Test.YtolldhfcnbbelaaGreatDoorGSintF
import Derived.Test.YtolldhfcnbbelaaGreatDoorLaid5
import Derived.Test.YtolldhfcnbbelaaGreatDoorTie
import Derived.Test.YtolldhfcnbbelaaGreatDoorCards
namespace Go.Proofs.YtolldhfcnbbelaaGreatDoor
open Go Go.ChangeShapes Go.WideShapes Go.ChangeAt Go.RowKit Go.Deep

theorem stellsx_any (w : World) (b0 : Bool) (x : Num) (b1 : Bool) (y : Num) (A : Option Addr) (c : Nat) (l : List (Bool × Num)) (n : Int) (hx : x.ok w w.heap.size) (hy : y.ok w w.heap.size) (hR : ZRds w w.heap.size A l) (hl : l.length ≤ 100000000000000) (hlc : l.length ≤ c) (hcm : c ≤ maxLen) (hn : (Lit.int .i64 n).wf = true) (hT : Signs w) :
    Calls Tryz.prog 3 #[.agg #[.bool b0, .slice x.A x.n x.c], .agg #[.bool b1, .slice y.A y.n y.c], .slice A l.length c, .int .i64 n] w fun e w' => e = .returned (.bool true) ∧ Below w.heap.size w w' := by
  exact stells_any w (sintTold w hT) b0 x b1 y A c l n hx hy hR hl hlc hcm (by simpa [Lit.wf, IntKind.min, IntKind.max, IntKind.signed, IntKind.bits] using hn)

set_option maxRecDepth 100000 in
theorem stellsx_lifted (os : Os) (started : os.Started) (H : Type) (enc : TypeId × Value → H) :
    ReturnsInHanded {} Tryz.checked os 3 .any (fun w args => (Rows.sintTellsSpec.pre enc Tryz.prog Tryz.f3 [] false w args ∧ laidMetH Tryz.prog laid5 w) ∧ sizedMet enc Tryz.prog Tryz.f3 (OpenSpec.ofChange Rows.sintTellsSpec) false w args)
      (Rows.sintTellsSpec.post enc Tryz.prog Tryz.f3 false true false false) := by
  refine returnsInHanded_of_change_and (C := Tryz.checked) (X := fun w _ => laidMetH Tryz.prog laid5 w) (fun _ _ _ hh h => h.of_heap hh) own started (by kernel_rfl) Tryz.func3
    (ChangeSpec.witness_shaped (enc := enc) (C := Tryz.checked) (os := os) (X := fun w _ => laidMetH Tryz.prog laid5 w) false (World.laidAll Tryz.prog os laid5) #[.agg #[.bool false, .slice none 0 0], .agg #[.bool false, .slice none 0 0], .slice none 0 0, .int .i64 0] 8 (World.laidAll_os _ _ _)
      (World.shaped_of_ZipB (by kernel_rfl) (by kernel_rfl)) (by kernel_rfl) (by kernel_rfl) (by kernel_rfl)
      (by rw [MakeChecks.laidMetH_plain _ _ _ (by kernel_rfl)]; exact laidMet_laidAll _ (by kernel_rfl) (by kernel_rfl))) ?_
  intro W base args ds gs before hval0 hW _ hsz0 hL _
  have hsz : (DataW.weightsEach Tryz.prog (Tryz.f3.params.toList ++ Rows.sintTellsSpec.plain.varTypes Tryz.prog) (ds ++ gs)).all (· ≤ reachBytes) = true := hsz0
  have hval : ∀ (j : Nat) t v, Tryz.f3.params[j]? = some t → args[j]? = some v → Value.okWide Tryz.prog W .any base t v := hval0
  have hW' := hW
  obtain ⟨p, q, hA0, hV, rfl, _, _⟩ := hW
  have hA : DataW.TrodAll enc Tryz.prog W 0 (fun _ => true) true Tryz.f3.params.toList args.toList ds p := hA0
  rw [Tryz.params3] at hA hval hsz
  obtain ⟨v0, vs0, d0, ds0, p0, q0, hargs, rfl, rfl, h0, r0⟩ := trodAll_cons hA
  obtain ⟨v1, vs1, d1, ds1, p1, q1, rfl, rfl, rfl, h1, r1⟩ := trodAll_cons r0
  obtain ⟨v2, vs2, d2, ds2, p2, q2, rfl, rfl, rfl, h2, r2⟩ := trodAll_cons r1
  obtain ⟨v3, vs3, d3, ds3, p3, q3, rfl, rfl, rfl, h3, r3⟩ := trodAll_cons r2
  obtain ⟨rfl, rfl, rfl⟩ := trodAll_nil r3
  obtain rfl : args = #[v0, v1, v2, v3] := by cases args; simp_all
  obtain ⟨rfl, rfl⟩ := trodVars_none hV
  obtain ⟨b0, x0, rfl, hx0⟩ := open_int5 (hval 0 25 v0 rfl rfl) h0 (fun d0 e s he => sized_field hsz (j := 0) rfl (by rw [he]; rfl))
  obtain ⟨b1, x1, rfl, hx1⟩ := open_int5 (hval 1 25 v1 rfl rfl) h1 (fun d0 e s he => sized_field hsz (j := 1) rfl (by rw [he]; rfl))
  obtain ⟨A2, c2, l2, rfl, hR2, hl2, hc2, hm2⟩ := open_ints5 (hval 2 26 v2 rfl rfl) h2 (fun e s he => ⟨sized_slice hsz (j := 2) (t := 26) rfl (by rw [he]; rfl) Tryz.underlying26,
    fun d0 e' s' hm => sized_pair hsz (j := 2) rfl (by rw [he]; rfl) hm⟩)
  obtain ⟨n3, rfl, rfl, rfl, w3⟩ := open_int Tryz.underlying3 (hval 3 3 v3 rfl rfl) h3
  refine (stellsx_any W b0 x0 b1 x1 A2 c2 l2 n3 hx0 hx1 hR2 hl2 hc2 hm2 w3 (signs_of_laid hL)).mono fun e W' ⟨he, hb⟩ => ?_
  subst he
  exact ⟨_, rfl, law_post hW' hb rfl rfl rfl (by
    rw [Tryz.params3]
    intro t ht
    simp at ht
    rcases ht with rfl | rfl | rfl <;> exact ⟨by kernel_rfl, of_decide_eq_true (by kernel_rfl)⟩)⟩

theorem stellsx_holds : Rows.SintTellsSaid :=
  OpenClaim.holds_of_wide 3 Tryz.f3 rfl rfl rfl rfl rfl rfl rfl ⟨rfl, rfl, rfl, rfl, rfl⟩ rfl rfl rfl rfl rfl (by kernel_rfl) Tryz.func3 (by kernel_rfl)
    (of_decide_eq_true (by kernel_rfl)) (by unfold Func.isWrapper; first | (rw [if_pos (by decide +kernel)]; kernel_rfl) | (rw [if_neg (by decide +kernel)]; exact ⟨rfl, rfl⟩))
    (fun os started H enc _ => stellsx_lifted os started H enc)

theorem stellsx_card : Rows.SintTellsCardSaid :=
  Claim7.holds_tied_plain_at .later [] [.data] true Rows.sintTellsCard.stood.harness false stellsx_holds (fun _ h => by cases h) (by kernel_rfl) (fun _ h => by cases h) sintTells_row_tie rfl ⟨rfl, rfl⟩ (by kernel_rfl) rfl
    (fun f fn hf hfn => by
      obtain rfl : f = 3 := Option.some.inj ((show Tryz.prog.funcNamed "strait/straitlaw05.SintTells" = some 3 by kernel_rfl).symm.trans hf) |>.symm
      obtain rfl : fn = Tryz.f3 := (Option.some.inj (Tryz.func3.symm.trans hfn)).symm
      exact ⟨by kernel_rfl, fun j t ht => by
        rw [Tryz.params3] at ht
        have hm : t ∈ [25, 25, 26, 3] := by simpa using Array.mem_of_getElem? ht
        have hall : ([25, 25, 26, 3].all fun u => !Tryz.prog.wantsStandIn u) = true := by kernel_rfl
        exact (show Tryz.prog.wantsStandIn t = false by simpa using List.all_eq_true.1 hall t hm)⟩)
    (by kernel_rfl)
end Go.Proofs.YtolldhfcnbbelaaGreatDoor
