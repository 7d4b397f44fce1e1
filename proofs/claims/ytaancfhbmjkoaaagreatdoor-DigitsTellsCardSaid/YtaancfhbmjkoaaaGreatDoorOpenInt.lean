/- An argument that is an integer (a sign, a number), opened; a row of integers. -/
import Derived.Deep.SlicePairs
import Derived.Test.YtaancfhbmjkoaaaGreatDoorLaw
import Derived.Test.YtaancfhbmjkoaaaGreatDoorGSintA
namespace Go.Proofs.YtaancfhbmjkoaaaGreatDoor
open Go Go.ChangeShapes Go.WideShapes Go.ChangeAt Go.RowKit Go.Deep
variable {H : Type} {enc : TypeId × Value → H}

theorem cells_int : Tryz.prog.cellsOf 25 = 2 := by kernel_rfl
theorem cells_bool : Tryz.prog.cellsOf 4 = 1 := by kernel_rfl
/-- A number that lies in one cell. -/
theorem open_nat_cell {W : World} {fuel : Nat} {v : Value} {y : DataW H × List MemPlace} (hf : DataW.trod enc Tryz.prog W 0 (fun _ => true) true fuel 23 [v] = some y)
    (hreach : ∀ elems spare, y.1 = .slice elems spare → (elems.length + spare.length) * Tryz.prog.bytesOf 47 ≤ reachBytes) :
    ∃ x : Num, v = .slice x.A x.n x.c ∧ x.ok W W.heap.size := by
  rcases open_ints Tryz.underlying23 Tryz.underlying47 cells_u32 hf with ⟨hcs, _⟩ | ⟨a, len, cap, zs, hcs, _, hl, hm, hz, hx, hcell, hw⟩
  · simp at hcs
    subst hcs
    exact ⟨⟨none, 0, 0, 0⟩, rfl, Rd.none_, Nat.le_refl _, by simp [maxLen], by simp⟩
  · simp at hcs
    subst hcs
    simp only [if_true] at hz
    have hr := hreach _ _ (by rw [hx])
    rw [bytes_u32, reach_eq] at hr
    simp only [lits, List.length_map, List.length_take, List.length_drop, hz] at hr
    obtain ⟨N, hN⟩ := rd_of_cells (W := W) (a := a) (n := len) (fun i => zs.getD i 0) (fun i hi => hcell i (by omega)) (fun i hi => u32_wf (hw _ (by
      rw [List.getD_eq_getElem?_getD, List.getElem?_eq_getElem (by omega : i < zs.length)]
      exact List.getElem_mem _)))
    have hlim : len ≤ 35184372087808 := by omega
    exact ⟨⟨some a, len, cap, N⟩, rfl, hN, hl, hm, hlim⟩
set_option maxRecDepth 100000 in
theorem open_int5 {W : World} {v : Value} {d : DataW H} {ps : List MemPlace} (hval : Value.okWide Tryz.prog W .any 0 25 v) (h : DataW.Trod enc Tryz.prog W 0 (fun _ => true) true 25 v d ps)
    (hreach : ∀ d0 elems spare, d = .agg [d0, .slice elems spare] → (elems.length + spare.length) * Tryz.prog.bytesOf 47 ≤ reachBytes) :
    ∃ (b : Bool) (x : Num), v = .agg #[.bool b, .slice x.A x.n x.c] ∧ x.ok W W.heap.size := by
  obtain ⟨cs, rfl, hs⟩ := okWide_struct Tryz.underlying25 hval
  rw [cells_int] at hs
  obtain ⟨c0, c1, rfl⟩ : ∃ c0 c1, cs = #[c0, c1] := by
    obtain ⟨l⟩ := cs
    match l, hs with
    | [c0, c1], _ => exact ⟨c0, c1, rfl⟩
  obtain ⟨fuel, hf⟩ := h
  obtain ⟨y0, y1, n, hx, _, h0, h1⟩ := trod_struct2 Tryz.underlying25 hf
  have h0' : DataW.trod enc Tryz.prog W 0 (fun _ => true) true n 4 [c0] = some y0 := h0
  have h1' : DataW.trod enc Tryz.prog W 0 (fun _ => true) true n 23 [c1] = some y1 := h1
  obtain ⟨b, hb, hy0⟩ := DataW.trod_bool Tryz.underlying4 h0'
  obtain ⟨x, rfl, hk⟩ := open_nat_cell h1' (fun elems spare he => hreach y0.1 elems spare (by
    simp only [Prod.mk.injEq] at hx
    rw [hx.1, he]))
  simp only [List.cons.injEq, and_true] at hb
  subst hb
  exact ⟨b, x, rfl, hk⟩
/-- The room that a field's row takes is within reach. -/
theorem sized_field {ts : List TypeId} {ds : List (DataW H)} (h : (DataW.weightsEach Tryz.prog ts ds).all (· ≤ reachBytes) = true) {j : Nat} {d0 : DataW H} {elems spare : List (DataW H)}
    (ht : ts[j]? = some 25) (hd : ds[j]? = some (.agg [d0, .slice elems spare])) : (elems.length + spare.length) * Tryz.prog.bytesOf 47 ≤ reachBytes := by
  refine of_decide_eq_true (List.all_eq_true.1 h _ (DataW.weights_mem_each ht hd _ ?_))
  have hu := Tryz.underlying25
  have hn := Tryz.underlying23
  simp [DataW.weights, DataW.weightsEach, hu, hn]
end Go.Proofs.YtaancfhbmjkoaaaGreatDoor
