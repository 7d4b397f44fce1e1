/- DigitsTells answers true for all arguments: texts of numbers, and which numbers texts are, are the document's. -/
import Derived.SevenTiedAt
import Derived.ChangeMaps5
import Derived.Test.YtaancfhbmjkoaaaGreatDoorDigitsTells
import Derived.Test.YtaancfhbmjkoaaaGreatDoorDig6
import Derived.Test.YtaancfhbmjkoaaaGreatDoorLaid6
import Derived.Test.YtaancfhbmjkoaaaGreatDoorLaw
import Derived.Test.YtaancfhbmjkoaaaGreatDoorOpenInt
import Derived.Test.YtaancfhbmjkoaaaGreatDoorTie
import Derived.Test.YtaancfhbmjkoaaaGreatDoorCards
namespace Go.Proofs.YtaancfhbmjkoaaaGreatDoor
open Go Go.ChangeShapes Go.WideShapes Go.ChangeAt Go.RowKit Go.Deep

theorem dtellsx_any (w : World) (x : Num) (b : Bool) (y : Num) (A : Option Addr) (c : Nat) (l : List Num) (s : ByteArray) (hx : x.ok w w.heap.size) (hy : y.ok w w.heap.size) (hR : Rds w w.heap.size A l) (hl : l.length ≤ 100000000000000) (hlc : l.length ≤ c) (hcm : c ≤ maxLen) (hs : s.size ≤ maxLen) (hT : Pow10 w) :
    Calls Tryz.prog 3 #[.slice x.A x.n x.c, .agg #[.bool b, .slice y.A y.n y.c], .slice A l.length c, .string s] w fun e w' => e = .returned (.bool true) ∧ Below w.heap.size w w' := by
  exact dtells_any w (digTold w hT) x b y A c l s hx hy hR hl hlc hcm hs

set_option maxRecDepth 100000 in
theorem dtellsx_lifted (os : Os) (started : os.Started) (H : Type) (enc : TypeId × Value → H) :
    ReturnsInHanded {} Tryz.checked os 3 .any (fun w args => (Rows.digitsTellsSpec.pre enc Tryz.prog Tryz.f3 [] false w args ∧ laidMetH Tryz.prog laid6 w) ∧ sizedMet enc Tryz.prog Tryz.f3 (OpenSpec.ofChange Rows.digitsTellsSpec) false w args)
      (Rows.digitsTellsSpec.post enc Tryz.prog Tryz.f3 false true false false) := by
  refine returnsInHanded_of_change_and (C := Tryz.checked) (X := fun w _ => laidMetH Tryz.prog laid6 w) (fun _ _ _ hh h => h.of_heap hh) own started (by kernel_rfl) Tryz.func3
    (ChangeSpec.witness_shaped (enc := enc) (C := Tryz.checked) (os := os) (X := fun w _ => laidMetH Tryz.prog laid6 w) false (World.laidAll Tryz.prog os laid6) #[.slice none 0 0, .agg #[.bool false, .slice none 0 0], .slice none 0 0, .string ⟨#[]⟩] 8 (World.laidAll_os _ _ _)
      (World.shaped_of_ZipB (by kernel_rfl) (by kernel_rfl)) (by kernel_rfl) (by kernel_rfl) (by kernel_rfl)
      (by rw [MakeChecks.laidMetH_plain _ _ _ (by kernel_rfl)]; exact laidMet_laidAll _ (by kernel_rfl) (by kernel_rfl))) ?_
  intro W base args ds gs before hval0 hW _ hsz0 hL _
  have hsz : (DataW.weightsEach Tryz.prog (Tryz.f3.params.toList ++ Rows.digitsTellsSpec.plain.varTypes Tryz.prog) (ds ++ gs)).all (· ≤ reachBytes) = true := hsz0
  have hval : ∀ (j : Nat) t v, Tryz.f3.params[j]? = some t → args[j]? = some v → Value.okWide Tryz.prog W .any base t v := hval0
  have hW' := hW
  obtain ⟨p, q, hA0, hV, rfl, _, _⟩ := hW
  have hA : DataW.TrodAll enc Tryz.prog W 0 (fun _ => true) true Tryz.f3.params.toList args.toList ds p := hA0
  rw [Tryz.params3] at hA hval hsz
  obtain ⟨v0, vs0, d0, ds0, p0, q0, hargs, rfl, rfl, h0, r0⟩ := trodAll_cons hA
  obtain ⟨v1, vs1, d1, ds1, p1, q1, rfl, rfl, rfl, h1, r1⟩ := trodAll_cons r0
  obtain ⟨v2, vs2, d2, ds2, p2, q2, rfl, rfl, rfl, h2, r2⟩ := trodAll_cons r1
  obtain ⟨v3, vs3, d3, ds3, p3, q3, rfl, rfl, rfl, h3, r3⟩ := trodAll_cons r2
  obtain ⟨rfl, rfl, rfl⟩ := trodAll_nil r3
  obtain rfl : args = #[v0, v1, v2, v3] := by cases args; simp_all
  obtain ⟨rfl, rfl⟩ := trodVars_none hV
  obtain ⟨x0, rfl, hx0⟩ := open_nat (hval 0 23 v0 rfl rfl) h0 (fun e s he => sized_slice hsz (j := 0) (t := 23) rfl (by rw [he]; rfl) Tryz.underlying23)
  obtain ⟨b1, x1, rfl, hx1⟩ := open_int5 (hval 1 25 v1 rfl rfl) h1 (fun d0 e s he => sized_field hsz (j := 1) rfl (by rw [he]; rfl))
  obtain ⟨A2, c2, l2, rfl, hR2, hl2, hc2, hm2⟩ := open_nats (hval 2 26 v2 rfl rfl) h2 (fun e s he => ⟨sized_slice hsz (j := 2) (t := 26) rfl (by rw [he]; rfl) Tryz.underlying26,
    fun e' s' hm => sized_inner hsz (j := 2) (t := 26) (e := 23) (q := 47) rfl (by rw [he]; rfl) Tryz.underlying26 Tryz.underlying23 hm⟩)
  obtain ⟨s3, rfl, rfl, rfl, w3⟩ := Go.ChangeMaps.open_string Tryz.underlying9 (hval 3 9 v3 rfl rfl) h3
  refine (dtellsx_any W x0 b1 x1 A2 c2 l2 s3 hx0 hx1 hR2 hl2 hc2 hm2 w3 (pow10_of_laid hL)).mono fun e W' ⟨he, hb⟩ => ?_
  subst he
  exact ⟨_, rfl, law_post hW' hb rfl rfl rfl (by
    rw [Tryz.params3]
    intro t ht
    simp at ht
    rcases ht with rfl | rfl | rfl | rfl <;> exact ⟨by kernel_rfl, of_decide_eq_true (by kernel_rfl)⟩)⟩

theorem dtellsx_holds : Rows.DigitsTellsSaid :=
  OpenClaim.holds_of_wide 3 Tryz.f3 rfl rfl rfl rfl rfl rfl rfl ⟨rfl, rfl, rfl, rfl, rfl⟩ rfl rfl rfl rfl rfl (by kernel_rfl) Tryz.func3 (by kernel_rfl)
    (of_decide_eq_true (by kernel_rfl)) (by unfold Func.isWrapper; first | (rw [if_pos (by decide +kernel)]; kernel_rfl) | (rw [if_neg (by decide +kernel)]; exact ⟨rfl, rfl⟩))
    (fun os started H enc _ => dtellsx_lifted os started H enc)

theorem dtellsx_card : Rows.DigitsTellsCardSaid :=
  Claim7.holds_tied_plain_at .later [] [.data, .data, .data, .data, .pinned] true Rows.digitsTellsCard.stood.harness false dtellsx_holds (fun _ h => by cases h) (by kernel_rfl) (fun _ h => by cases h) digitsTells_row_tie rfl ⟨rfl, rfl⟩ (by kernel_rfl) rfl
    (fun f fn hf hfn => by
      obtain rfl : f = 3 := Option.some.inj ((show Tryz.prog.funcNamed "strait/straitlaw06.DigitsTells" = some 3 by kernel_rfl).symm.trans hf) |>.symm
      obtain rfl : fn = Tryz.f3 := (Option.some.inj (Tryz.func3.symm.trans hfn)).symm
      exact ⟨by kernel_rfl, fun j t ht => by
        rw [Tryz.params3] at ht
        have hm : t ∈ [23, 25, 26, 9] := by simpa using Array.mem_of_getElem? ht
        have hall : ([23, 25, 26, 9].all fun u => !Tryz.prog.wantsStandIn u) = true := by kernel_rfl
        exact (show Tryz.prog.wantsStandIn t = false by simpa using List.all_eq_true.1 hall t hm)⟩)
    (by kernel_rfl)
end Go.Proofs.YtaancfhbmjkoaaaGreatDoor
