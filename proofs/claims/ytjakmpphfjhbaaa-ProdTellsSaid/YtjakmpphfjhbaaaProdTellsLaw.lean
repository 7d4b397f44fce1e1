/- ProdTells answers true for all arguments: products, shifts, bits and powers are the document's. -/
import Derived.Test.YtjakmpphfjhbaaaProdTells
import Derived.Test.YtjakmpphfjhbaaaProd
namespace Go.Proofs.Ytjakmpphfjhbaaa
open Go Go.ChangeShapes Go.WideShapes Go.ChangeAt Go.RowKit Go.Deep

theorem ptells_any (w : World) (x y : Num) (A : Option Addr) (c : Nat) (l : List Num) (n k : Int) (hx : x.ok w w.heap.size) (hy : y.ok w w.heap.size) (hR : Rds w w.heap.size A l) (hl : l.length ≤ 100000000000000) (hlc : l.length ≤ c) (hcm : c ≤ maxLen) (hn : (Lit.int .u32 n).wf = true) (hk : (Lit.int .i64 k).wf = true) :
    Calls Try.prog 3 #[.slice x.A x.n x.c, .slice y.A y.n y.c, .slice A l.length c, .int .u32 n, .int .i64 k] w fun e w' => e = .returned (.bool true) ∧ Below w.heap.size w w' := by
  have bn : 0 ≤ n ∧ n ≤ 4294967295 := by simpa [Lit.wf, IntKind.min, IntKind.max, IntKind.signed, IntKind.bits] using hn
  have bk : -9223372036854775808 ≤ k ∧ k ≤ 9223372036854775807 := by simpa [Lit.wf, IntKind.min, IntKind.max, IntKind.signed, IntKind.bits] using hk
  obtain ⟨M, rfl⟩ := Int.eq_ofNat_of_zero_le bn.1
  cases hg : great2 [x, y] with
  | true => exact ptells_great1 prodTold w x y A c l M k hx hy hg
  | false =>
    cases hg2 : great2 l with
    | true => exact ptells_great2 prodTold w x y A c l M k hx hy hR hl hg hg2
    | false =>
      rcases Decidable.em (5000 < k) with h1 | h1
      · exact ptells_great3 prodTold w x y A c l M k hx hy hR hl hg hg2 h1
      · rcases Nat.lt_or_ge 4 x.n with h2 | h2
        · exact ptells_go_long prodTold w x y A c l M k hx hy hR hlc hcm hg hg2 (by omega) ⟨bk.1, by omega⟩ h2
        · rcases Decidable.em (40 < k) with h3 | h3
          · exact ptells_go_many prodTold w x y A c l M k hx hy hR hlc hcm hg hg2 (by omega) ⟨bk.1, by omega⟩ h2 h3
          · exact ptells_go_pow prodTold w x y A c l M k hx hy hR hlc hcm hg hg2 (by omega) ⟨bk.1, by omega⟩ h2 (by omega)

set_option maxRecDepth 100000 in
theorem ptells_lifted (os : Os) (started : os.Started) (H : Type) (enc : TypeId × Value → H) :
    ReturnsInHanded {} Try.checked os 3 .any (Rows.prodTellsSpec.pre6 enc Try.prog Try.f3 Rows.prodTellsRow.domain false) (Rows.prodTellsSpec.post enc Try.prog Try.f3 false true false false) := by
  refine returnsInHanded_of_change_sized (C := Try.checked) own started (by kernel_rfl) Try.func3
    (ChangeSpec.witness6 (enc := enc) (C := Try.checked) false ⟨#[], #[.slice none 0 0, .slice none 0 0, .slice none 0 0, .int .u32 0, .int .i64 0], []⟩ 8 (by kernel_rfl) (by kernel_rfl) (by kernel_rfl) (by kernel_rfl)) ?_
  intro W base args ds gs before hval0 hW _ hsz0 _
  have hsz : (DataW.weightsEach Try.prog (Try.f3.params.toList ++ Rows.prodTellsSpec.plain.varTypes Try.prog) (ds ++ gs)).all (· ≤ reachBytes) = true := hsz0
  have hval : ∀ (j : Nat) t v, Try.f3.params[j]? = some t → args[j]? = some v → Value.okWide Try.prog W .any base t v := hval0
  have hW' := hW
  obtain ⟨p, q, hA0, hV, rfl, _, _⟩ := hW
  have hA : DataW.TrodAll enc Try.prog W 0 (fun _ => true) true Try.f3.params.toList args.toList ds p := hA0
  rw [Try.params3] at hA hval hsz
  obtain ⟨v0, vs0, d0, ds0, p0, q0, hargs, rfl, rfl, h0, r0⟩ := trodAll_cons hA
  obtain ⟨v1, vs1, d1, ds1, p1, q1, rfl, rfl, rfl, h1, r1⟩ := trodAll_cons r0
  obtain ⟨v2, vs2, d2, ds2, p2, q2, rfl, rfl, rfl, h2, r2⟩ := trodAll_cons r1
  obtain ⟨v3, vs3, d3, ds3, p3, q3, rfl, rfl, rfl, h3, r3⟩ := trodAll_cons r2
  obtain ⟨v4, vs4, d4, ds4, p4, q4, rfl, rfl, rfl, h4, r4⟩ := trodAll_cons r3
  obtain ⟨rfl, rfl, rfl⟩ := trodAll_nil r4
  obtain rfl : args = #[v0, v1, v2, v3, v4] := by cases args; simp_all
  obtain ⟨rfl, rfl⟩ := trodVars_none hV
  obtain ⟨x0, rfl, hx0⟩ := open_nat (hval 0 23 v0 rfl rfl) h0 (fun e s he => sized_slice hsz (j := 0) (t := 23) rfl (by rw [he]; rfl) Try.underlying23)
  obtain ⟨x1, rfl, hx1⟩ := open_nat (hval 1 23 v1 rfl rfl) h1 (fun e s he => sized_slice hsz (j := 1) (t := 23) rfl (by rw [he]; rfl) Try.underlying23)
  obtain ⟨A2, c2, l2, rfl, hR2, hl2, hc2, hm2⟩ := open_nats (hval 2 24 v2 rfl rfl) h2 (fun e s he => ⟨sized_slice hsz (j := 2) (t := 24) rfl (by rw [he]; rfl) Try.underlying24,
    fun e' s' hm => sized_inner hsz (j := 2) (t := 24) (e := 23) (q := 25) rfl (by rw [he]; rfl) Try.underlying24 Try.underlying23 hm⟩)
  obtain ⟨n3, rfl, rfl, rfl, w3⟩ := open_int Try.underlying25 (hval 3 25 v3 rfl rfl) h3
  obtain ⟨n4, rfl, rfl, rfl, w4⟩ := open_int Try.underlying3 (hval 4 3 v4 rfl rfl) h4
  refine (ptells_any W x0 x1 A2 c2 l2 n3 n4 hx0 hx1 hR2 hl2 hc2 hm2 w3 w4).mono fun e W' ⟨he, hb⟩ => ?_
  subst he
  exact ⟨_, rfl, law_post hW' hb rfl rfl rfl (by
    rw [Try.params3]
    intro t ht
    simp at ht
    rcases ht with rfl | rfl | rfl | rfl <;> exact ⟨by kernel_rfl, of_decide_eq_true (by kernel_rfl)⟩)⟩

theorem ptells_holds : Rows.ProdTellsSaid :=
  OpenClaim.holds_of_wide 3 Try.f3 rfl rfl rfl rfl rfl rfl rfl ⟨rfl, rfl, rfl, rfl, rfl⟩ rfl rfl rfl rfl rfl (by kernel_rfl) Try.func3 (by kernel_rfl)
    (of_decide_eq_true (by kernel_rfl)) (by unfold Func.isWrapper; first | (rw [if_pos (by decide +kernel)]; kernel_rfl) | (rw [if_neg (by decide +kernel)]; exact ⟨rfl, rfl⟩))
    (fun os started H enc _ => ptells_lifted os started H enc)
end Go.Proofs.Ytjakmpphfjhbaaa
