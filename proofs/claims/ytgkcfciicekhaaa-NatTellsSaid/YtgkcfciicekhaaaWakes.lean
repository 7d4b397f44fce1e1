/- Contract of the law's 'wakes': what the document says of a limb that is full, and of 1 less 2. -/
import Derived.Test.YtgkcfciicekhaaaSame
namespace Go.Proofs.Ytgkcfciicekhaaa
open Go Go.RowKit

theorem Rds.lit {w : World} {t : TypeId} {cs : Array Value} {l : List Num} (hcs : ∀ k (h : k < l.length), cs[k]? = some (.slice l[k].A l[k].n l[k].c)) (hok : ∀ x ∈ l, x.ok w w.heap.size) :
    Rds (w.alloc (.cells cs t)) (w.heap.size + 1) (some ⟨w.heap.size, 0, none⟩) l := fun k hk =>
  ⟨⟨_, rfl, by simp, by
    have h := World.alloc_heap_new' w (.cells cs t)
    rw [add_new]
    simp only [World.cell?, h]
    simpa using hcs k hk⟩, ((hok _ (List.getElem_mem hk)).below ((Below.refl _ _).alloc (Nat.le_refl _) _)).more (by omega)⟩
theorem Rds.two {w : World} {t : TypeId} {x y : Num} (hx : x.ok w w.heap.size) (hy : y.ok w w.heap.size) :
    Rds (w.alloc (.cells #[.slice x.A x.n x.c, .slice y.A y.n y.c] t)) (w.alloc (.cells #[.slice x.A x.n x.c, .slice y.A y.n y.c] t)).heap.size (some ⟨w.heap.size, 0, none⟩) [x, y] := by
  rw [World.size_alloc]
  refine Rds.lit (fun k hk => ?_) (fun z hz => ?_)
  · match k, hk with
    | 0, _ => rfl
    | 1, _ => rfl
  · simp only [List.mem_cons, List.not_mem_nil, or_false] at hz
    rcases hz with rfl | rfl <;> assumption
theorem Rds.one {w : World} {t : TypeId} {x : Num} (hx : x.ok w w.heap.size) :
    Rds (w.alloc (.cells #[.slice x.A x.n x.c] t)) (w.alloc (.cells #[.slice x.A x.n x.c] t)).heap.size (some ⟨w.heap.size, 0, none⟩) [x] := by
  rw [World.size_alloc]
  refine Rds.lit (fun k hk => ?_) (fun z hz => ?_)
  · match k, hk with
    | 0, _ => rfl
  · simp only [List.mem_cons, List.not_mem_nil, or_false] at hz
    subst hz; assumption

/-- A number that has been handed back may be handed on. -/
theorem Fr.ok {w' : World} {lo c N : Nat} {A : Option Addr} (h : Fr w' lo w'.heap.size A (lenL N) N) (hc : lenL N ≤ c) (hm : c ≤ maxLen) (hl : lenL N ≤ 35184372087808) : (Num.mk A (lenL N) c N).ok w' w'.heap.size := ⟨h.rd, hc, hm, hl⟩

theorem one_limb (w : World) {N g : Nat} {v : Int} (hv : v = (N : Int)) (hg : w.heap.size = g) (hN : N < 4294967296) : (Num.mk (some ⟨g, 0, none⟩) 1 1 N).ok (w.alloc (.cells #[.int .u32 v] 43)) (w.alloc (.cells #[.int .u32 v] 43)).heap.size := by
  subst hv hg
  refine ⟨?_, Nat.le_refl _, by simp [maxLen], by simp⟩
  rw [World.size_alloc]
  refine (Fr.lit (lo := 0) (Nat.zero_le _) (by simpa [Bw] using hN) (fun j hj => ?_)).rd
  have hj : j < 1 := hj
  obtain rfl : j = 0 := by omega
  simp [dig, Bw, Nat.mod_eq_of_lt hN]

theorem Gives.alloc {w w' : World} {o : Obj} {N : Nat} {e : Ending} (h : Gives (w.alloc o) N e w') : Gives w N e w' := by
  obtain ⟨A, c, he, h1, h2, h3, h4⟩ := h
  rw [World.size_alloc] at h3 h4
  exact ⟨A, c, he, h1, h2, h3.from (by omega), ((Below.refl _ w).alloc (Nat.le_refl _) o).trans (h4.mono (by omega))⟩
theorem Num.ok.alloc {w : World} {x : Num} (h : x.ok w w.heap.size) (o : Obj) : x.ok (w.alloc o) (w.alloc o).heap.size :=
  (h.below ((Below.refl _ _).alloc (Nat.le_refl _) _)).more (by simp)
theorem Num.ok.later {w w' : World} {x : Num} (h : x.ok w w.heap.size) (hb : Below w.heap.size w w') : x.ok w' w'.heap.size := (h.below hb).more hb.size

theorem Add_two {w : World} {x y : Num} {g : Nat} (hg : w.heap.size = g) (hx : x.ok w w.heap.size) (hy : y.ok w w.heap.size) :
    Calls Try.prog 21 #[.slice (some ⟨g, 0, none⟩) 2 2] (w.alloc (.cells #[.slice x.A x.n x.c, .slice y.A y.n y.c] 23)) (Gives w (x.N + y.N)) := by
  subst hg
  refine (Add_any _ _ 2 [x, y] (Rds.two hx hy) (by simp)).mono fun e w' h => ?_
  have : sumN [x, y] = x.N + y.N := by simp [sumN]
  rw [this] at h
  exact h.alloc
theorem Least_two {w : World} {x y : Num} {g : Nat} (hg : w.heap.size = g) (hx : x.ok w w.heap.size) (hy : y.ok w w.heap.size) :
    Calls Try.prog 23 #[.slice (some ⟨g, 0, none⟩) 2 2] (w.alloc (.cells #[.slice x.A x.n x.c, .slice y.A y.n y.c] 23)) fun e w' => e = .returned (.int .i64 (leastV [x, y] 2)) ∧ Below w.heap.size w w' := by
  subst hg
  refine (Least_any _ _ 2 [x, y] (Rds.two hx hy) (by simp)).mono fun e w' h => ⟨h.1, ?_⟩
  have := h.2
  rw [World.size_alloc] at this
  exact ((Below.refl _ w).alloc (Nat.le_refl _) _).trans (this.mono (by omega))

def n0 : Nat := 4294967295
def n1 : Nat := 4294967296
theorem n01 : n0 + 1 = n1 := by decide
theorem n10 : n1 - 1 = n0 := by decide
theorem len_n0 : lenL n0 = 1 := by decide
theorem len_n1 : lenL n1 = 2 := by decide
theorem len_1 : lenL 1 = 1 := by decide
theorem dig_n1_0 : dig n1 0 = 0 := by decide
theorem dig_n1_1 : dig n1 1 = 1 := by decide

set_option maxRecDepth 100000 in
set_option maxHeartbeats 4000000 in
theorem wakes_any (w : World) : Calls Try.prog 9 #[] w fun e w' => e = .returned (.bool true) ∧ Below w.heap.size w w' := by
  have hOf := Lib.hid (Of_any w n0 (by decide))
  go_enter Try.func9, Try.ntmps9
  go_wp2_with fail
  refine hOf.out.mono ?_
  rintro e w1 ⟨A1, c1, rfl, hc1, hm1, hF1, hb1⟩
  rw [len_n0]
  have ok1 : (Num.mk A1 1 c1 n0).ok w1 w1.heap.size := by have := hF1.ok hc1 hm1 (by rw [len_n0]; omega); rwa [len_n0] at this
  clear hOf hc1 hm1 hF1
  go_wp2_with fail
  have okO := one_limb w1 (N := 1) (v := 1) rfl rfl (by omega)
  refine (Add_two (x := ⟨A1, 1, c1, n0⟩) (y := ⟨some ⟨w1.heap.size, 0, none⟩, 1, 1, 1⟩) (by simp) (ok1.alloc (.cells #[.int .u32 1] 43)) okO).mono ?_
  rintro e w2 ⟨A2, c2, rfl, hc2, hm2, hF2, hb2⟩
  obtain ⟨g2, rfl, _, _, _⟩ := hF2.2 (by rw [n01, len_n1]; omega)
  rw [n01, len_n1]
  have ok2 : (Num.mk (some ⟨g2, 0, none⟩) 2 c2 n1).ok w2 w2.heap.size := by have := hF2.ok hc2 hm2 (by simp only [n01, len_n1]; omega); simpa only [n01, len_n1] using this
  have hb02 : Below w.heap.size w w2 := by
    rw [World.size_alloc] at hb2
    exact hb1.trans ((((Below.refl _ w1).alloc (Nat.le_refl _) _).trans (hb2.mono (by omega))).mono hb1.size)
  clear hc2 hm2 hF2 ok1 okO hb1 hb2
  go_wp2_with fail
  have okA := (one_limb w2 (N := 1) (v := 1) rfl rfl (by omega)).alloc (.cells #[.int .u32 2] 43)
  have okB := one_limb (w2.alloc (.cells #[.int .u32 1] 43)) (N := 2) (v := 2) (g := w2.heap.size + 1) rfl (by simp) (by omega)
  refine (Sub_no _ (some ⟨w2.heap.size, 0, none⟩) (some ⟨w2.heap.size + 1, 0, none⟩) 1 1 1 1 1 2 okA.1 okB.1 (by omega) (by omega) (by omega)).mono ?_
  rintro e w3 ⟨rfl, hb3⟩
  have hb23 : Below w2.heap.size w2 w3 := (((Below.refl _ w2).alloc (Nat.le_refl _) _).alloc (by simp) _).trans (hb3.mono (by simp; omega))
  replace ok2 := ok2.later hb23
  have hb03 := hb02.trans (hb23.mono hb02.size)
  clear okA okB hb3 hb23 hb02
  go_wp2_with fail
  have okA := one_limb w3 (N := 1) (v := 1) rfl rfl (by omega)
  have ok3 := ok2.alloc (.cells #[.int .u32 1] 43)
  refine (Sub_yes _ (some ⟨g2, 0, none⟩) (some ⟨w3.heap.size, 0, none⟩) 2 1 c2 1 n1 1 ok3.1 okA.1 (by omega) (by omega) ok3.2.1 ok3.2.2.1 (by decide)).mono ?_
  rintro e w4 ⟨A4, c4, rfl, hc4, hm4, hF4, hb4⟩
  rw [n10, len_n0]
  have ok4 : (Num.mk A4 1 c4 n0).ok w4 w4.heap.size := by have := hF4.ok hc4 hm4 (by simp only [n10, len_n0]; omega); simpa only [n10, len_n0] using this
  have hb34 : Below w3.heap.size w3 w4 := ((Below.refl _ w3).alloc (Nat.le_refl _) _).trans (hb4.mono (by simp))
  replace ok2 := ok2.later hb34
  have hb04 := hb03.trans (hb34.mono hb03.size)
  clear okA ok3 hc4 hm4 hF4 hb4 hb34 hb03
  go_wp2_with fail
  refine (Small_yes w4 _ (some ⟨g2, 0, none⟩) 2 c2 n1 ok2.1 ok2.2.1 (by have := ok2.2.2.1; simpa [maxLen] using this) (by decide)).mono ?_
  rintro e w' ⟨rfl, rfl⟩
  obtain ⟨ad, e, hadb, hcells⟩ := ok2.1.2 (by simp)
  cases e
  have hc0 : w4.cell? ⟨g2, 0, none⟩ = some (.int .u32 0) := by
    have := hcells 0 (by simp)
    rw [add_new, dig_n1_0] at this
    simpa using this
  have hc1' : w4.cell? ⟨g2, 1, none⟩ = some (.int .u32 1) := by
    have := hcells 1 (by simp)
    rw [add_new, dig_n1_1] at this
    simpa using this
  have hC := Cmp_any (some ⟨g2, 0, none⟩) A4 2 1 c2 c4 n1 n0 w4 ok2.1 ok4.1 (by omega) (by omega)
  rw [cmpN_gt (show n0 < n1 by decide)] at hC
  have HC := Lib.hid hC
  have hbn : (((n1 : Nat) : Int) == 4294967296) = true := by decide
  clear hcells hC
  go_wp2_with fail
  refine HC.out.mono ?_
  rintro e w5 ⟨rfl, hb5⟩
  replace ok2 := ok2.later hb5
  replace ok4 := ok4.later hb5
  have hb05 := hb04.trans (hb5.mono hb04.size)
  clear HC hb5 hb04 hc0 hc1' hbn hadb
  go_wp2_with fail
  refine (Least_two (x := ⟨some ⟨g2, 0, none⟩, 2, c2, n1⟩) (y := ⟨A4, 1, c4, n0⟩) rfl ok2 ok4).mono ?_
  rintro e w6 ⟨rfl, hb6⟩
  rw [show leastV [Num.mk (some ⟨g2, 0, none⟩) 2 c2 n1, ⟨A4, 1, c4, n0⟩] 2 = 1 from by simp [leastV, leastI, n1, n0]]
  have hb06 := hb05.trans (hb6.mono hb05.size)
  clear hb6 hb05 ok2 ok4
  go_wp2
  go_ret
  exact ⟨rfl, hb06⟩
end Go.Proofs.Ytgkcfciicekhaaa
