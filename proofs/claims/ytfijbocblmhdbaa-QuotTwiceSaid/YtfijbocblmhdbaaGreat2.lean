/- Contract of the reference's Great of layer 2. -/
import Derived.Test.YtfijbocblmhdbaaGNum
namespace Go.Proofs.Ytfijbocblmhdbaa
open Go Go.RowKit

/-- What 'Great' has counted. -/
def cnt2 (l : List Num) (k : Nat) : Nat := ((l.take k).map (fun x => min x.n 1000)).sum
theorem cnt2_succ {l : List Num} {k : Nat} (h : k < l.length) : cnt2 l (k + 1) = cnt2 l k + min l[k].n 1000 := by
  unfold cnt2
  rw [List.take_succ_eq_append_getElem h, List.map_append, List.sum_append]
  simp
theorem cnt2_le (l : List Num) (k : Nat) : cnt2 l k ≤ k * 1000 := by
  induction k with
  | zero => simp [cnt2]
  | succ k ih =>
    rcases Nat.lt_or_ge k l.length with h | h
    · rw [cnt2_succ h]; omega
    · have : cnt2 l (k + 1) = cnt2 l k := by unfold cnt2; rw [List.take_of_length_le h, List.take_of_length_le (by omega)]
      omega
def great2 (l : List Num) : Bool := decide (20 < l.length) || decide (120 < cnt2 l (min l.length 21))
theorem sum_min2 (l : List Num) (h : (l.map (fun x => min x.n 1000)).sum ≤ 120) : (l.map Num.n).sum ≤ 120 := by
  have : (l.map Num.n).sum = (l.map (fun x => min x.n 1000)).sum := by
    induction l with
    | nil => rfl
    | cons x l ih =>
      simp only [List.map_cons, List.sum_cons] at h ⊢
      rw [ih (by omega)]
      omega
  omega
/-- Numbers that are not too great: at most 20 of them, of 120 limbs together. -/
theorem great2_false {l : List Num} (h : great2 l = false) : l.length ≤ 20 ∧ sizeN l ≤ 120 := by
  simp only [great2, Bool.or_eq_false_iff, decide_eq_false_iff_not, Nat.not_lt] at h
  refine ⟨h.1, sum_min2 l ?_⟩
  have := h.2
  rw [Nat.min_eq_left (by omega)] at this
  unfold cnt2 at this
  rwa [List.take_length] at this

set_option maxHeartbeats 1000000 in
theorem great2_any (w : World) (hi : Nat) (A : Option Addr) (c : Nat) (l : List Num) (h : Rds w hi A l) (hl : l.length ≤ 100000000000000) :
    Calls Try.prog 6 #[.slice A l.length c] w fun e w' => e = .returned (.bool (great2 l)) ∧ w = w' := by
  go_enter Try.func6, Try.ntmps6
  go_wp2
  go_loop [3, 4] (fun m i => ∃ k : Nat, k ≤ l.length ∧ k ≤ 21 ∧ i = .int .i64 k ∧ m = .int .i64 (cnt2 l k : Nat)) (fun _ i => 21 - (intOf i).toNat)
  case atStart => exact ⟨0, Nat.zero_le _, by omega, rfl, rfl⟩
  case round =>
    obtain ⟨k, hk, hk2, rfl, rfl⟩ := hrel
    have hcb := cnt2_le l k
    by_cases hlt : k < l.length ∧ k ≤ 20
    · obtain ⟨h1, h2⟩ := hlt
      obtain ⟨⟨ad, rfl, _, hc⟩, hr, hr1, hr2, hr3⟩ := h k h1
      have HT := Lib.hid (cnt2_succ h1)
      go_wp2
      all_goals
        go_round
        case rel => exact ⟨k + 1, by omega, by omega, by go_num, by rw [HT.out]; go_num⟩
        case measure => simp [intOf]; omega
    · have hend : (k = l.length ∨ (k < l.length ∧ k = 21)) := by omega
      have hmin : min l.length 21 = k := by omega
      clear hlt
      by_cases hbig : 20 < l.length
      · have HG := Lib.hid (show great2 l = true by simp [great2, hbig])
        rcases hend with h1 | ⟨h1, h2⟩
        · clear hmin
          obtain rfl : k = l.length := h1
          go_wp2
          all_goals (go_ret; exact ⟨by rw [HG.out]; rfl, rfl⟩)
        · have h3 : 20 < k := by omega
          clear h2 hmin
          go_wp2
          all_goals (go_ret; exact ⟨by rw [HG.out]; rfl, rfl⟩)
      · obtain rfl : k = l.length := by omega
        have HG := Lib.hid (show (decide (20 < (l.length : Int)) || decide (120 < (cnt2 l l.length : Int))) = great2 l by
          simp only [great2, hmin]
          congr 1
          · exact decide_eq_decide.2 (by omega)
          · exact decide_eq_decide.2 (by omega))
        clear hend hmin
        go_wp2
        all_goals (go_ret; exact ⟨ret_bool HG.out, rfl⟩)

section
variable {w W : World} {l : List Num} {x y z : Num}
theorem great2_E1 {g : Nat} (h : Env w l W) (hx : x ∈ l) (hg : W.heap.size = g) :
    Calls Try.prog 6 #[.slice (some ⟨g, 0, none⟩) 1 1] (W.alloc (.cells #[.slice x.A x.n x.c] 23)) fun e W' => e = .returned (.bool (great2 [x])) ∧ Env w l W' := by
  subst hg
  have hR : Rds (W.alloc (.cells #[.slice x.A x.n x.c] 23)) (W.heap.size + 1) (some ⟨W.heap.size, 0, none⟩) [x] := by
    refine Rds.lit (fun k hk => ?_) (fun u hu => ?_)
    · match k, hk with
      | 0, _ => rfl
    · simp only [List.mem_cons, List.not_mem_nil, or_false] at hu
      subst hu; exact h.2 _ hx
  refine (great2_any _ _ _ 1 [x] hR (by simp)).mono fun e w' ⟨he, hw⟩ => ⟨he, ?_⟩
  rw [← hw]
  exact h.alloc _
theorem great2_E2 {g : Nat} (h : Env w l W) (hx : x ∈ l) (hy : y ∈ l) (hg : W.heap.size = g) :
    Calls Try.prog 6 #[.slice (some ⟨g, 0, none⟩) 2 2] (W.alloc (.cells #[.slice x.A x.n x.c, .slice y.A y.n y.c] 23)) fun e W' => e = .returned (.bool (great2 [x, y])) ∧ Env w l W' := by
  subst hg
  have hR : Rds (W.alloc (.cells #[.slice x.A x.n x.c, .slice y.A y.n y.c] 23)) (W.heap.size + 1) (some ⟨W.heap.size, 0, none⟩) [x, y] := by
    refine Rds.lit (fun k hk => ?_) (fun u hu => ?_)
    · match k, hk with
      | 0, _ => rfl
      | 1, _ => rfl
    · simp only [List.mem_cons, List.not_mem_nil, or_false] at hu
      rcases hu with rfl | rfl <;> (apply h.2; assumption)
  refine (great2_any _ _ _ 2 [x, y] hR (by simp)).mono fun e w' ⟨he, hw⟩ => ⟨he, ?_⟩
  rw [← hw]
  exact h.alloc _
theorem great2_E3 {g : Nat} (h : Env w l W) (hx : x ∈ l) (hy : y ∈ l) (hz : z ∈ l) (hg : W.heap.size = g) :
    Calls Try.prog 6 #[.slice (some ⟨g, 0, none⟩) 3 3] (W.alloc (.cells #[.slice x.A x.n x.c, .slice y.A y.n y.c, .slice z.A z.n z.c] 23)) fun e W' => e = .returned (.bool (great2 [x, y, z])) ∧ Env w l W' := by
  subst hg
  have hR : Rds (W.alloc (.cells #[.slice x.A x.n x.c, .slice y.A y.n y.c, .slice z.A z.n z.c] 23)) (W.heap.size + 1) (some ⟨W.heap.size, 0, none⟩) [x, y, z] := by
    refine Rds.lit (fun k hk => ?_) (fun u hu => ?_)
    · match k, hk with
      | 0, _ => rfl
      | 1, _ => rfl
      | 2, _ => rfl
    · simp only [List.mem_cons, List.not_mem_nil, or_false] at hu
      rcases hu with rfl | rfl | rfl <;> (apply h.2; assumption)
  refine (great2_any _ _ _ 3 [x, y, z] hR (by simp)).mono fun e w' ⟨he, hw⟩ => ⟨he, ?_⟩
  rw [← hw]
  exact h.alloc _
theorem great2_EL {A : Option Addr} {c : Nat} {e : List Num} (h : Env w e W) (hR : Rds W W.heap.size A l) (hl : l.length ≤ 100000000000000) :
    Calls Try.prog 6 #[.slice A l.length c] W fun e' W' => e' = .returned (.bool (great2 l)) ∧ Env w e W' :=
  (great2_any W _ A c l hR hl).mono fun _ _ ⟨he, hw⟩ => ⟨he, by rw [← hw]; exact h⟩
end
theorem size2_1 {x : Num} (h : great2 [x] = false) : x.n ≤ 120 := by
  have := (great2_false h).2
  simp [sizeN] at this
  omega
theorem size2_2 {x y : Num} (h : great2 [x, y] = false) : x.n ≤ 120 ∧ y.n ≤ 120 := by
  have := (great2_false h).2
  simp [sizeN] at this
  omega
theorem size2_3 {x y z : Num} (h : great2 [x, y, z] = false) : x.n ≤ 120 ∧ y.n ≤ 120 ∧ z.n ≤ 120 := by
  have := (great2_false h).2
  simp [sizeN] at this
  omega
end Go.Proofs.Ytfijbocblmhdbaa
