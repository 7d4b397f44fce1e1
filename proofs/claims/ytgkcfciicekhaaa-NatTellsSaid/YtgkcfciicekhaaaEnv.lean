/- The contracts of package nat once more, for the laws: a list of numbers is at hand, and stays at hand. -/
import Derived.Test.YtgkcfciicekhaaaWakes
namespace Go.Proofs.Ytgkcfciicekhaaa
open Go Go.RowKit

/-- Nothing that lay in w has turned, and the numbers of l lie in W. -/
def Env (w : World) (l : List Num) (W : World) : Prop := Below w.heap.size w W ∧ ∀ x ∈ l, x.ok W W.heap.size
section
variable {w W : World} {l : List Num} {x y z : Num}
theorem Env.start (h : ∀ x ∈ l, x.ok w w.heap.size) : Env w l w := ⟨Below.refl _ _, h⟩
theorem Env.step {W' : World} (h : Env w l W) (hb : Below W.heap.size W W') : Env w l W' := ⟨h.1.trans (hb.mono h.1.size), fun x hx => (h.2 x hx).later hb⟩
theorem Env.alloc (h : Env w l W) (o : Obj) : Env w l (W.alloc o) := h.step ((Below.refl _ _).alloc (Nat.le_refl _) _)
theorem Env.add (h : Env w l W) (hx : x.ok W W.heap.size) : Env w (x :: l) W := ⟨h.1, fun y hy => by
  rcases List.mem_cons.1 hy with rfl | hy
  · exact hx
  · exact h.2 y hy⟩

theorem big (h : x.n ≤ 35184372087808) : x.n ≤ 9223372036854775806 := by omega

theorem Cmp_E (h : Env w l W) (hx : x ∈ l) (hy : y ∈ l) :
    Calls Try.prog 15 #[.slice x.A x.n x.c, .slice y.A y.n y.c] W fun e W' => e = .returned (.int .i64 (cmpN x.N y.N)) ∧ Env w l W' :=
  (Cmp_any _ _ _ _ _ _ _ _ W (h.2 x hx).1 (h.2 y hy).1 (big (h.2 x hx).2.2.2) (big (h.2 y hy).2.2.2)).mono fun _ _ ⟨he, hb⟩ => ⟨he, h.step hb⟩

/-- A number is handed back, of the call's own, in blocks from lo on. -/
def Back (w : World) (l : List Num) (lo N : Nat) (f : Num → Value) (e : Ending) (W' : World) : Prop :=
  ∃ r : Num, e = .returned (f r) ∧ r.N = N ∧ r.n = lenL N ∧ Env w (r :: l) W' ∧ Fr W' lo W'.heap.size r.A r.n r.N

theorem back_of_gives {N : Nat} {e : Ending} {W' : World} (h : Env w l W) (hg : Gives W N e W') (hN : lenL N ≤ 35184372087808) : Back w l W.heap.size N (fun r => .slice r.A r.n r.c) e W' := by
  obtain ⟨A, c, he, hc, hm, hF, hb⟩ := hg
  exact ⟨⟨A, lenL N, c, N⟩, he, rfl, rfl, (h.step hb).add (hF.ok hc hm hN), hF⟩

theorem Trim_E (h : Env w l W) (hx : x ∈ l) : Calls Try.prog 17 #[.slice x.A x.n x.c] W (Back w l W.heap.size x.N (fun r => .slice r.A r.n r.c)) := by
  obtain ⟨h1, h2, h3, h4⟩ := h.2 x hx
  exact (Trim_any W _ _ _ _ h1 h2 h3 h4).mono fun _ _ hg => back_of_gives h hg (Nat.le_trans (lenL_le.2 h1.1) h4)

theorem Of_E {N : Nat} (h : Env w l W) (hN : N < 18446744073709551616) : Calls Try.prog 19 #[.int .u64 N] W (Back w l W.heap.size N (fun r => .slice r.A r.n r.c)) :=
  (Of_any W N hN).mono fun _ _ hg => back_of_gives h hg (by have := lenL_small.2 hN; omega)

theorem Small_yes_E (h : Env w l W) (hx : x ∈ l) (hN : x.N < 18446744073709551616) :
    Calls Try.prog 10 #[.slice x.A x.n x.c] W fun e W' => e = .returned (.tuple #[.int .u64 x.N, .bool true]) ∧ W = W' := by
  obtain ⟨h1, h2, h3, h4⟩ := h.2 x hx
  exact Small_yes W _ _ _ _ _ h1 h2 (by simpa [maxLen] using h3) hN
theorem Small_no_E (h : Env w l W) (hx : x ∈ l) (hN : ¬ x.N < 18446744073709551616) :
    Calls Try.prog 10 #[.slice x.A x.n x.c] W fun e W' => e = .returned (.tuple #[.int .u64 0, .bool false]) ∧ W = W' := by
  obtain ⟨h1, h2, h3, h4⟩ := h.2 x hx
  exact Small_no W _ _ _ _ _ h1 h2 (by simpa [maxLen] using h3) hN

theorem Sub_no_E (h : Env w l W) (hx : x ∈ l) (hy : y ∈ l) (hlt : x.N < y.N) :
    Calls Try.prog 12 #[.slice x.A x.n x.c, .slice y.A y.n y.c] W fun e W' => e = .returned (.tuple #[.slice none 0 0, .int .i64 10]) ∧ Env w l W' :=
  (Sub_no W _ _ _ _ _ _ _ _ (h.2 x hx).1 (h.2 y hy).1 (h.2 x hx).2.2.2 (h.2 y hy).2.2.2 hlt).mono fun _ _ ⟨he, hb⟩ => ⟨he, h.step hb⟩
theorem Sub_yes_E (h : Env w l W) (hx : x ∈ l) (hy : y ∈ l) (hle : y.N ≤ x.N) :
    Calls Try.prog 12 #[.slice x.A x.n x.c, .slice y.A y.n y.c] W (Back w l W.heap.size (x.N - y.N) (fun r => .tuple #[.slice r.A r.n r.c, .int .i64 0])) := by
  obtain ⟨h1, h2, h3, h4⟩ := h.2 x hx
  refine (Sub_yes W _ _ _ _ _ _ _ _ h1 (h.2 y hy).1 h4 (h.2 y hy).2.2.2 h2 h3 hle).mono fun e W' hg => ?_
  obtain ⟨A, c, he, hc, hm, hF, hb⟩ := hg
  refine ⟨⟨A, lenL (x.N - y.N), c, x.N - y.N⟩, he, rfl, rfl, (h.step hb).add (hF.ok hc hm ?_), hF⟩
  exact Nat.le_trans (lenL_mono (Nat.sub_le _ _)) (Nat.le_trans (lenL_le.2 h1.1) h4)

theorem lenL_add {N M n : Nat} (h1 : N < Bw ^ n) (h2 : M < Bw ^ n) : lenL (N + M) ≤ n + 1 := by
  rw [lenL_le, Nat.pow_succ, Bw_eq]
  have : (4294967296 : Nat) ^ n = Bw ^ n := rfl
  rw [this]
  omega
theorem lt_pow_of {N n m : Nat} (h : N < Bw ^ n) (hm : n ≤ m) : N < Bw ^ m := Nat.lt_of_lt_of_le h (Nat.pow_le_pow_right Bw_pos hm)
theorem sum_len (h : Env w l W) (hx : x ∈ l) (hy : y ∈ l) {b : Nat} (h1 : x.n ≤ b) (h2 : y.n ≤ b) : lenL (x.N + y.N) ≤ b + 1 :=
  lenL_add (lt_pow_of (h.2 x hx).1.1 h1) (lt_pow_of (h.2 y hy).1.1 h2)

theorem Add_E2 {g : Nat} (h : Env w l W) (hx : x ∈ l) (hy : y ∈ l) (hg : W.heap.size = g) (hxb : x.n ≤ 1000000) (hyb : y.n ≤ 1000000) :
    Calls Try.prog 21 #[.slice (some ⟨g, 0, none⟩) 2 2] (W.alloc (.cells #[.slice x.A x.n x.c, .slice y.A y.n y.c] 23)) (Back w l W.heap.size (x.N + y.N) (fun r => .slice r.A r.n r.c)) :=
  (Add_two hg (h.2 x hx) (h.2 y hy)).mono fun _ _ hg => back_of_gives h hg (by have := sum_len h hx hy hxb hyb; omega)
theorem Add_E1 {g : Nat} (h : Env w l W) (hx : x ∈ l) (hg : W.heap.size = g) :
    Calls Try.prog 21 #[.slice (some ⟨g, 0, none⟩) 1 1] (W.alloc (.cells #[.slice x.A x.n x.c] 23)) (Back w l W.heap.size x.N (fun r => .slice r.A r.n r.c)) := by
  subst hg
  refine (Add_any _ _ 1 [x] (Rds.one (h.2 x hx)) (by simp)).mono fun e w' hg => ?_
  have : sumN [x] = x.N := by simp [sumN]
  rw [this] at hg
  exact back_of_gives h hg.alloc (Nat.le_trans (lenL_le.2 (h.2 x hx).1.1) (h.2 x hx).2.2.2)

theorem same_E (h : Env w l W) (hx : x ∈ l) (hy : y ∈ l) :
    Calls Try.prog 14 #[.slice x.A x.n x.c, .slice y.A y.n y.c] W fun e W' => e = .returned (.bool (sameB x.n y.n x.N y.N)) ∧ Env w l W' :=
  (same_any W _ _ _ _ _ _ _ _ _ _ (h.2 x hx).1 (h.2 y hy).1 (big (h.2 x hx).2.2.2)).mono fun _ _ ⟨he, hb⟩ => ⟨he, h.step hb⟩

theorem wakes_E (h : Env w l W) : Calls Try.prog 9 #[] W fun e W' => e = .returned (.bool true) ∧ Env w l W' :=
  (wakes_any W).mono fun _ _ ⟨he, hb⟩ => ⟨he, h.step hb⟩

theorem Great_E3 {g : Nat} (h : Env w l W) (hx : x ∈ l) (hy : y ∈ l) (hz : z ∈ l) (hg : W.heap.size = g) :
    Calls Try.prog 8 #[.slice (some ⟨g, 0, none⟩) 3 3] (W.alloc (.cells #[.slice x.A x.n x.c, .slice y.A y.n y.c, .slice z.A z.n z.c] 23)) fun e W' => e = .returned (.bool (greatB [x, y, z])) ∧ Env w l W' := by
  subst hg
  have hR : Rds (W.alloc (.cells #[.slice x.A x.n x.c, .slice y.A y.n y.c, .slice z.A z.n z.c] 23)) (W.heap.size + 1) (some ⟨W.heap.size, 0, none⟩) [x, y, z] := by
    refine Rds.lit (fun k hk => ?_) (fun u hu => ?_)
    · match k, hk with
      | 0, _ => rfl
      | 1, _ => rfl
      | 2, _ => rfl
    · simp only [List.mem_cons, List.not_mem_nil, or_false] at hu
      rcases hu with rfl | rfl | rfl <;> (apply h.2; assumption)
  refine (Great_any _ _ _ 3 [x, y, z] hR (by simp)).mono fun e w' ⟨he, hw⟩ => ⟨he, ?_⟩
  rw [← hw]
  exact h.alloc _
theorem Great_E2 {g : Nat} (h : Env w l W) (hx : x ∈ l) (hy : y ∈ l) (hg : W.heap.size = g) :
    Calls Try.prog 8 #[.slice (some ⟨g, 0, none⟩) 2 2] (W.alloc (.cells #[.slice x.A x.n x.c, .slice y.A y.n y.c] 23)) fun e W' => e = .returned (.bool (greatB [x, y])) ∧ Env w l W' := by
  subst hg
  refine (Great_any _ _ _ 2 [x, y] (Rds.two (h.2 x hx) (h.2 y hy)) (by simp)).mono fun e w' ⟨he, hw⟩ => ⟨he, ?_⟩
  rw [← hw]
  exact h.alloc _
end

theorem sizeN3 {x y z : Num} (h : greatB [x, y, z] = false) : x.n ≤ 600 ∧ y.n ≤ 600 ∧ z.n ≤ 600 := by
  have := (greatB_false h).2
  simp [sizeN] at this
  omega
theorem sizeN2 {x y : Num} (h : greatB [x, y] = false) : x.n ≤ 600 ∧ y.n ≤ 600 := by
  have := (greatB_false h).2
  simp [sizeN] at this
  omega
end Go.Proofs.Ytgkcfciicekhaaa
