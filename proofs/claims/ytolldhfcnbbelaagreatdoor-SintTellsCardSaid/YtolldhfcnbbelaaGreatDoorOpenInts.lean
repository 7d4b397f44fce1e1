/- An argument that is a row of integers, opened. -/
import Derived.Test.YtolldhfcnbbelaaGreatDoorOpenInt
namespace Go.Proofs.YtolldhfcnbbelaaGreatDoor
open Go Go.ChangeShapes Go.WideShapes Go.ChangeAt Go.RowKit Go.Deep
variable {H : Type} {enc : TypeId × Value → H}

theorem bytes_int : Tryz.prog.bytesOf 25 = 32 := by kernel_rfl
/-- The room that a row within a row's integer takes is within reach. -/
theorem sized_pair {ts : List TypeId} {ds : List (DataW H)} (h : (DataW.weightsEach Tryz.prog ts ds).all (· ≤ reachBytes) = true) {j : Nat} {elems spare e' sp' : List (DataW H)} {d0 : DataW H}
    (ht : ts[j]? = some 26) (hd : ds[j]? = some (.slice elems spare)) (hx : DataW.agg [d0, .slice e' sp'] ∈ elems) : (e'.length + sp'.length) * Tryz.prog.bytesOf 66 ≤ reachBytes := by
  refine of_decide_eq_true (List.all_eq_true.1 h _ (DataW.weights_mem_each ht hd _ ?_))
  have hu := Tryz.underlying26
  have hu2 := Tryz.underlying25
  have hn := Tryz.underlying23
  simp only [DataW.weights, hu, List.mem_cons, List.mem_append]
  exact Or.inr (Or.inl (weightsAll_mem hx _ (by simp [DataW.weights, DataW.weightsEach, hu2, hn])))

set_option maxRecDepth 100000 in
theorem open_ints5 {W : World} {v : Value} {d : DataW H} {ps : List MemPlace} (hval : Value.okWide Tryz.prog W .any 0 26 v) (h : DataW.Trod enc Tryz.prog W 0 (fun _ => true) true 26 v d ps)
    (hreach : ∀ elems spare, d = .slice elems spare → (elems.length + spare.length) * Tryz.prog.bytesOf 25 ≤ reachBytes ∧ ∀ d0 e' sp', DataW.agg [d0, .slice e' sp'] ∈ elems → (e'.length + sp'.length) * Tryz.prog.bytesOf 66 ≤ reachBytes) :
    ∃ (A : Option Addr) (c : Nat) (l : List (Bool × Num)), v = .slice A l.length c ∧ ZRds W W.heap.size A l ∧ l.length ≤ 100000000000000 ∧ l.length ≤ c ∧ c ≤ maxLen := by
  obtain ⟨A, n, c, rfl⟩ := okWide_slice Tryz.underlying26 hval
  obtain ⟨fuel, hf⟩ := h
  rcases open_slice_pairs Tryz.underlying26 Tryz.underlying25 cells_int rfl rfl cells_bool cells_nat hf with ⟨hcs, _⟩ | ⟨a, len, cap, m, nf, V0, V1, D0, D1, P0, P1, hcs, _, hl, hm, hmm, hx, hrows⟩
  · simp [Value.cells] at hcs
    obtain ⟨rfl, rfl, rfl⟩ := hcs
    exact ⟨none, 0, [], rfl, fun k hk => by simp at hk, by simp, by simp, by simp [maxLen]⟩
  · simp [Value.cells] at hcs
    obtain ⟨rfl, rfl, rfl⟩ := hcs
    simp only [if_true] at hmm
    simp only [Prod.mk.injEq] at hx
    obtain ⟨hr1, hr2⟩ := hreach _ _ hx.1
    rw [bytes_int, reach_eq] at hr1
    simp only [List.length_map, List.length_range] at hr1
    have each : ∀ r, r < n → ∃ z : Bool × Num, W.cell? (a.add (r * 2)) = some (.bool z.1) ∧ W.cell? (a.add (r * 2 + 1)) = some (.slice z.2.A z.2.n z.2.c) ∧ z.2.ok W W.heap.size := by
      intro r hr
      obtain ⟨h1, h2, h3, h4⟩ := hrows r (by omega)
      have h3' : DataW.trod enc Tryz.prog W 0 (fun _ => true) true nf 4 [V0 r] = some (D0 r, P0 r) := h3
      have h4' : DataW.trod enc Tryz.prog W 0 (fun _ => true) true nf 23 [V1 r] = some (D1 r, P1 r) := h4
      obtain ⟨b, hb, _⟩ := DataW.trod_bool Tryz.underlying4 h3'
      obtain ⟨x, hx1, hk⟩ := open_nat_cell h4' (fun elems spare he => hr2 (D0 r) elems spare (by
        rw [List.mem_map]
        exact ⟨r, by simpa using hr, by rw [show D1 r = _ from he]⟩))
      simp only [List.cons.injEq, and_true] at hb
      exact ⟨(b, x), by rw [h1, hb], by rw [h2, hx1], hk⟩
    obtain ⟨f, hf⟩ := choose_lt each
    refine ⟨some a, c, (List.range n).map f, by simp, fun k hk => ?_, by simp; omega, by simpa using hl, hm⟩
    have hk' : k < n := by simpa using hk
    have e : ((List.range n).map f)[k] = f k := by simp
    rw [e]
    refine ⟨⟨a, rfl, ?_, (hf k hk').1, (hf k hk').2.1⟩, (hf k hk').2.2⟩
    have := World.block_lt_of_cell? _ _ (hf k hk').1
    rwa [add_block] at this
end Go.Proofs.YtolldhfcnbbelaaGreatDoor
