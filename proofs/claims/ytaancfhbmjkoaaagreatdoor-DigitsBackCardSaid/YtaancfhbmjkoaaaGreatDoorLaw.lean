/- From a contract 'true, and nothing that lay has turned' to a law's row; arguments that are numbers, or rows of numbers, opened. -/
import Derived.ProofKit
import Derived.OpenShut
import Derived.ChangeSame
import Derived.ChangeSlices
import Derived.JoinedOf
import Derived.JoinedAt
import Derived.RowKit
import Derived.RowKit2
import Derived.RowKit3
import Derived.ReadAgain
import Derived.WideKeyArgs
import Derived.SizedLaws
import Derived.Deep.Matrix
import Derived.Deep.OwnRows
import Derived.Test.YtaancfhbmjkoaaaGreatDoorRows
import Derived.Test.YtaancfhbmjkoaaaGreatDoorGGen
namespace Go.Proofs.YtaancfhbmjkoaaaGreatDoor
open Go Go.ChangeShapes Go.WideShapes Go.ChangeAt Go.RowKit Go.Deep

theorem own : ownKnob Tryz.prog.godebug = none := by kernel_rfl
theorem laidOut : laidOutB Tryz.prog = true := by kernel_rfl
theorem cells_nat : Tryz.prog.cellsOf 23 = 1 := by kernel_rfl
theorem cells_u32 : Tryz.prog.cellsOf 47 = 1 := by kernel_rfl
theorem bytes_nat : Tryz.prog.bytesOf 23 = 24 := by kernel_rfl
theorem bytes_u32 : Tryz.prog.bytesOf 47 = 4 := by kernel_rfl
theorem reach_eq : reachBytes = 140737488351232 := rfl

section
variable {H : Type} {enc : TypeId × Value → H}

theorem since_of_below {w w' : World} {B : Nat} (h : Below B w w') : w.Since B w' := ⟨h.os, h.tape, h.output, h.size, h.block⟩

/-- What was read is read again wherever nothing that lay has turned. -/
theorem trodAll_again {W W' : World} (hs : W.Since W.heap.size W') : ∀ (ts : List TypeId) (vs : List Value) (ds : List (DataW H)) (ps : List MemPlace),
    (∀ t ∈ ts, Tryz.prog.readableRec t = true ∧ t < Tryz.prog.types.size) → (∀ x ∈ ps, x.block < W.heap.size) →
    DataW.TrodAll enc Tryz.prog W 0 (fun _ => true) true ts vs ds ps → DataW.TrodAll enc Tryz.prog W' 0 (fun b => decide (b < W.heap.size)) true ts vs ds ps
  | [], vs, ds, ps, _, _, h => by
    obtain ⟨rfl, rfl, rfl⟩ := trodAll_nil h
    exact trodAll_mk0
  | t :: ts, vs, ds, ps, ht, hp, h => by
    obtain ⟨v, vs', d, ds', p, q, rfl, rfl, rfl, h1, h2⟩ := trodAll_cons h
    obtain ⟨r1, r2⟩ := ht t (by simp)
    refine trodAll_cons_mk (WideElems.Trod_stays laidOut r1 r2 h1 (fun x hx => hs.sameAt (hp x (by simp [hx]))) (fun x hx => by simpa using hp x (by simp [hx]))) ?_
    exact trodAll_again hs ts vs' ds' q (fun t' ht' => ht t' (by simp [ht'])) (fun x hx => hp x (by simp [hx])) h2

instance : Inhabited Num := ⟨⟨none, 0, 0, 0⟩⟩

/-- The row's end: true is handed back, and nothing that lay has turned. -/
theorem law_post {W W' : World} {f : Func} {s : ChangeSpec} {args : Array Value} {ds gs : List (DataW H)} {before : List MemPlace}
    (hW : DataW.Whole enc Tryz.prog f.params.toList s.vars false W args.toList ds gs before) (hs : Below W.heap.size W W')
    (hv : s.vars = []) (hfn : s.fn H (ds ++ gs) = { results := [.lit (.bool true)], args := ds }) (hr : f.resultTypes = #[4])
    (ht : ∀ t ∈ f.params.toList, Tryz.prog.readableRec t = true ∧ t < Tryz.prog.types.size) :
    s.post enc Tryz.prog f false true false false W args (.bool true) W' := by
  have hlt : ∀ x ∈ before, x.block < W.heap.size := fun x hx => hW.lt x hx
  have hsince := since_of_below hs
  have hW' := hW
  obtain ⟨p, q, hA, hV, rfl, _, _⟩ := hW
  rw [hv] at hV
  obtain ⟨rfl, rfl⟩ := trodVars_none hV
  refine ⟨ds, [], p ++ [], [], p, [], hW', ?_, ?_, ?_, hsince.frame _, fun h => by cases h⟩
  · rw [hfn, hr]
    exact trodAll_mk1 (shut_bool Tryz.underlying4 _)
  · rw [hfn]
    exact trodAll_again hsince _ _ _ _ ht (fun x hx => hlt x (by simp [hx])) hA
  · rw [hv, hfn]
    exact rfl

theorem u32_wf {z : Int} (h : (Lit.int .u32 z).wf = true) : 0 ≤ z ∧ z < 4294967296 := by
  have : 0 ≤ z ∧ z ≤ 4294967295 := by simpa [Lit.wf, IntKind.min, IntKind.max, IntKind.signed, IntKind.bits] using h
  omega

/-- Limbs that lie in memory are a number. -/
theorem rd_of_cells {W : World} {a : Addr} {n : Nat} (Z : Nat → Int) (hc : ∀ i, i < n → W.cell? (a.add i) = some (.int .u32 (Z i))) (hz : ∀ i, i < n → 0 ≤ Z i ∧ Z i < 4294967296) :
    ∃ N, Rd W W.heap.size (some a) n N := by
  obtain ⟨N, hN, hd⟩ := num_of_limbs n (fun i => (Z i).toNat) (fun j hj => by have := hz j hj; rw [Bw_eq]; omega)
  refine ⟨N, hN, fun hn => ⟨a, rfl, ?_, fun j hj => ?_⟩⟩
  · have := World.block_lt_of_cell? _ _ (hc 0 hn)
    rwa [add_block] at this
  · rw [hc j hj, ← hd j hj]
    have := hz j hj
    congr 2
    omega

set_option maxRecDepth 100000 in
theorem open_nat {W : World} {v : Value} {d : DataW H} {ps : List MemPlace} (hval : Value.okWide Tryz.prog W .any 0 23 v) (h : DataW.Trod enc Tryz.prog W 0 (fun _ => true) true 23 v d ps)
    (hreach : ∀ elems spare, d = .slice elems spare → (elems.length + spare.length) * Tryz.prog.bytesOf 47 ≤ reachBytes) :
    ∃ x : Num, v = .slice x.A x.n x.c ∧ x.ok W W.heap.size := by
  obtain ⟨A, n, c, rfl⟩ := okWide_slice Tryz.underlying23 hval
  obtain ⟨fuel, hf⟩ := h
  rcases open_ints Tryz.underlying23 Tryz.underlying47 cells_u32 hf with ⟨hcs, _⟩ | ⟨a, len, cap, zs, hcs, _, hl, hm, hz, hx, hcell, hw⟩
  · simp [Value.cells] at hcs
    obtain ⟨rfl, rfl, rfl⟩ := hcs
    exact ⟨⟨none, 0, 0, 0⟩, rfl, Rd.none_, Nat.le_refl _, by simp [maxLen], by simp⟩
  · simp [Value.cells] at hcs
    obtain ⟨rfl, rfl, rfl⟩ := hcs
    simp only [if_true] at hz
    simp only [Prod.mk.injEq] at hx
    have hr := hreach _ _ hx.1
    rw [bytes_u32, reach_eq] at hr
    simp only [lits, List.length_map, List.length_take, List.length_drop, hz] at hr
    obtain ⟨N, hN⟩ := rd_of_cells (W := W) (a := a) (n := n) (fun i => zs.getD i 0) (fun i hi => hcell i (by omega)) (fun i hi => u32_wf (hw _ (by
      rw [List.getD_eq_getElem?_getD, List.getElem?_eq_getElem (by omega : i < zs.length)]
      exact List.getElem_mem _)))
    have hlim : n ≤ 35184372087808 := by omega
    exact ⟨⟨some a, n, c, N⟩, rfl, hN, hl, hm, hlim⟩

theorem weightsAll_mem {P : Program} {e : TypeId} : ∀ {l : List (DataW H)} {d : DataW H}, d ∈ l → ∀ n ∈ d.weights P e, n ∈ DataW.weightsAll P e l
  | d' :: r, d, hd, n, hn => by
    simp only [DataW.weightsAll, List.mem_append]
    rcases List.mem_cons.1 hd with rfl | h
    · exact Or.inl hn
    · exact Or.inr (weightsAll_mem h n hn)

theorem sized_inner {ts : List TypeId} {ds : List (DataW H)} (h : (DataW.weightsEach Tryz.prog ts ds).all (· ≤ reachBytes) = true) {j : Nat} {t e q : TypeId} {elems spare e' sp' : List (DataW H)}
    (ht : ts[j]? = some t) (hd : ds[j]? = some (.slice elems spare)) (hu : Tryz.prog.underlying t = some (.slice e)) (hu2 : Tryz.prog.underlying e = some (.slice q)) (hx : DataW.slice e' sp' ∈ elems) : (e'.length + sp'.length) * Tryz.prog.bytesOf q ≤ reachBytes := by
  refine of_decide_eq_true (List.all_eq_true.1 h _ (DataW.weights_mem_each ht hd _ ?_))
  simp only [DataW.weights, hu, List.mem_cons, List.mem_append]
  exact Or.inr (Or.inl (weightsAll_mem hx _ (by simp [DataW.weights, hu2])))

set_option maxRecDepth 100000 in
theorem open_nats {W : World} {v : Value} {d : DataW H} {ps : List MemPlace} (hval : Value.okWide Tryz.prog W .any 0 26 v) (h : DataW.Trod enc Tryz.prog W 0 (fun _ => true) true 26 v d ps)
    (hreach : ∀ elems spare, d = .slice elems spare → (elems.length + spare.length) * Tryz.prog.bytesOf 23 ≤ reachBytes ∧ ∀ e' sp', DataW.slice e' sp' ∈ elems → (e'.length + sp'.length) * Tryz.prog.bytesOf 47 ≤ reachBytes) :
    ∃ (A : Option Addr) (c : Nat) (l : List Num), v = .slice A l.length c ∧ Rds W W.heap.size A l ∧ l.length ≤ 100000000000000 ∧ l.length ≤ c ∧ c ≤ maxLen := by
  obtain ⟨A, n, c, rfl⟩ := okWide_slice Tryz.underlying26 hval
  obtain ⟨fuel, hf⟩ := h
  rcases open_int_rows Tryz.underlying26 Tryz.underlying23 Tryz.underlying47 cells_nat cells_u32 hf with ⟨hcs, _⟩ | ⟨a, len, cap, As, Ls, Cs, Zs, hcs, _, hl, hm, hx, hrows⟩
  · simp [Value.cells] at hcs
    obtain ⟨rfl, rfl, rfl⟩ := hcs
    exact ⟨none, 0, [], rfl, fun k hk => by simp at hk, by simp, by simp, by simp [maxLen]⟩
  · simp [Value.cells] at hcs
    obtain ⟨rfl, rfl, rfl⟩ := hcs
    simp only [Prod.mk.injEq] at hx
    obtain ⟨hr1, hr2⟩ := hreach _ _ hx.1
    rw [bytes_nat, reach_eq] at hr1
    simp only [List.length_map, List.length_range] at hr1
    rw [bytes_u32, reach_eq] at hr2
    have each : ∀ r, r < n → ∃ x : Num, W.cell? (a.add r) = some (.slice x.A x.n x.c) ∧ x.ok W W.heap.size := by
      intro r hr
      obtain ⟨h1, h2, h3, h4, h5, h6, h7⟩ := hrows r (by omega)
      cases hA : As r with
      | none =>
        rw [hA] at h1
        have h0 : Cs r = 0 := h6 hA
        have h00 : Ls r = 0 := by omega
        rw [h0, h00] at h1
        exact ⟨⟨none, 0, 0, 0⟩, h1, Rd.none_, Nat.le_refl _, by simp [maxLen], by simp⟩
      | some a' =>
        rw [hA] at h1
        obtain ⟨_, h8⟩ := h7 a' hA
        have hb := hr2 (lits .u32 ((Zs r).take (Ls r))) (lits .u32 ((Zs r).drop (Ls r))) (by
          rw [List.mem_map]
          exact ⟨r, by simpa using hr, by simp [intRow, hA]⟩)
        simp only [lits, List.length_map, List.length_take, List.length_drop, h4] at hb
        obtain ⟨N, hN⟩ := rd_of_cells (W := W) (a := a') (n := Ls r) (fun i => (Zs r).getD i 0) (fun i hi => h8 i (by omega)) (fun i hi => u32_wf (h5 _ (by
          rw [List.getD_eq_getElem?_getD, List.getElem?_eq_getElem (by omega : i < (Zs r).length)]
          exact List.getElem_mem _)))
        have hlim : Ls r ≤ 35184372087808 := by omega
        exact ⟨⟨some a', Ls r, Cs r, N⟩, h1, hN, h2, h3, hlim⟩
    obtain ⟨f, hf⟩ := choose_lt each
    refine ⟨some a, c, (List.range n).map f, by simp, fun k hk => ?_, by simp; omega, by simpa using hl, hm⟩
    have hk' : k < n := by simpa using hk
    have e : ((List.range n).map f)[k] = f k := by simp
    rw [e]
    refine ⟨⟨a, rfl, ?_, (hf k hk').1⟩, (hf k hk').2⟩
    have := World.block_lt_of_cell? _ _ (hf k hk').1
    rwa [add_block] at this
end
end Go.Proofs.YtaancfhbmjkoaaaGreatDoor
