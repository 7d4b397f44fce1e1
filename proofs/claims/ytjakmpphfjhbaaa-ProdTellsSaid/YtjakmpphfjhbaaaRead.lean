/- What it is for a slice of limbs to read as a number, and to be the call's own. Nothing of the program. -/
import Derived.Below
import Derived.Laws.OwnMore
import Derived.Laws.Rows
import Derived.Deep.AppendLies
import Derived.Deep.Draws
import Derived.Test.YtjakmpphfjhbaaaMath
namespace Go.Proofs.Ytjakmpphfjhbaaa
open Go Go.RowKit

theorem add_block (a : Addr) (n : Nat) : (a.add n).block = a.block := by unfold Addr.add; split <;> rfl
theorem add_new (g j : Nat) : (⟨g, 0, none⟩ : Addr).add j = ⟨g, j, none⟩ := by
  unfold Addr.add; split <;> simp_all

/-- The slice at A, of n limbs, reads as the number N; it lies below block hi. -/
def Rd (W : World) (hi : Nat) (A : Option Addr) (n N : Nat) : Prop :=
  N < Bw ^ n ∧ (0 < n → ∃ ad : Addr, A = some ad ∧ ad.block < hi ∧ ∀ j, j < n → W.cell? (ad.add j) = some (.int .u32 (dig N j : Nat)))

/-- The slice at A, of n limbs, reads as the number N, and is the call's own: at the head of a block from lo on, below hi, that may be written. -/
def Fr (W : World) (lo hi : Nat) (A : Option Addr) (n N : Nat) : Prop :=
  N < Bw ^ n ∧ (0 < n → ∃ g, A = some ⟨g, 0, none⟩ ∧ lo ≤ g ∧ g < hi ∧ ∀ j, j < n → W.cell? ⟨g, j, none⟩ = some (.int .u32 (dig N j : Nat)) ∧ W.frozen? ⟨g, j, none⟩ = false)

section
variable {W W' : World} {lo hi hi' n N : Nat} {A : Option Addr}
theorem Rd.none_ : Rd W hi A 0 0 := ⟨by simp, fun h => absurd h (by omega)⟩
theorem Rd.at_ {k : Nat} (h : Rd W hi A n N) (hk : k < n) : ∃ ad : Addr, A = some ad ∧ ad.block < hi ∧ W.cell? (ad.add k) = some (.int .u32 (dig N k : Nat)) := by
  obtain ⟨ad, e, hb, hc⟩ := h.2 (by omega)
  exact ⟨ad, e, hb, hc k hk⟩
theorem Rd.keep (h : Rd W hi A n N) (hk : ∀ p : Addr, p.block < hi → W'.cell? p = W.cell? p) : Rd W' hi A n N :=
  ⟨h.1, fun hn => by
    obtain ⟨ad, e, hb, hc⟩ := h.2 hn
    exact ⟨ad, e, hb, fun j hj => (hk _ (by rw [add_block]; exact hb)).trans (hc j hj)⟩⟩
theorem Rd.more (h : Rd W hi A n N) (hh : hi ≤ hi') : Rd W hi' A n N :=
  ⟨h.1, fun hn => by
    obtain ⟨ad, e, hb, hc⟩ := h.2 hn
    exact ⟨ad, e, by omega, hc⟩⟩
theorem Rd.below (h : Rd W hi A n N) (hb : Below hi W W') : Rd W' hi A n N := h.keep fun _ hp => hb.cell hp
theorem Rd.down {k : Nat} (h : Rd W hi A n N) (hk : k ≤ n) (hN : N < Bw ^ k) : Rd W hi A k N :=
  ⟨hN, fun hn => by
    obtain ⟨ad, e, hb, hc⟩ := h.2 (by omega)
    exact ⟨ad, e, hb, fun j hj => hc j (by omega)⟩⟩
theorem Fr.rd (h : Fr W lo hi A n N) : Rd W hi A n N :=
  ⟨h.1, fun hn => by
    obtain ⟨g, e, _, hb, hc⟩ := h.2 hn
    exact ⟨_, e, hb, fun j hj => by rw [add_new]; exact (hc j hj).1⟩⟩
theorem Fr.keep (h : Fr W lo hi A n N) (hb : Below hi W W') : Fr W' lo hi A n N :=
  ⟨h.1, fun hn => by
    obtain ⟨g, e, hl, hh, hc⟩ := h.2 hn
    exact ⟨g, e, hl, hh, fun j hj => ⟨(hb.cell (p := ⟨g, j, none⟩) hh).trans (hc j hj).1, (hb.frozen (p := ⟨g, j, none⟩) hh).trans (hc j hj).2⟩⟩⟩
theorem Fr.more (h : Fr W lo hi A n N) (hh : hi ≤ hi') : Fr W lo hi' A n N :=
  ⟨h.1, fun hn => by
    obtain ⟨g, e, hl, hb, hc⟩ := h.2 hn
    exact ⟨g, e, hl, by omega, hc⟩⟩
theorem Fr.from {lo' : Nat} (h : Fr W lo hi A n N) (hh : lo' ≤ lo) : Fr W lo' hi A n N :=
  ⟨h.1, fun hn => by
    obtain ⟨g, e, hl, hb, hc⟩ := h.2 hn
    exact ⟨g, e, by omega, hb, hc⟩⟩
theorem Fr.down {k : Nat} (h : Fr W lo hi A n N) (hk : k ≤ n) (hN : N < Bw ^ k) : Fr W lo hi A k N :=
  ⟨hN, fun hn => by
    obtain ⟨g, e, hl, hb, hc⟩ := h.2 (by omega)
    exact ⟨g, e, hl, hb, fun j hj => hc j (by omega)⟩⟩
theorem Fr.nil : Fr W lo hi none 0 0 := ⟨by simp, fun h => absurd h (by omega)⟩
end

theorem World.alloc_heap_new' (w : World) (o : Obj) : (w.alloc o).heap[w.heap.size]? = some o := heap_alloc_new w o

/-- What an append of the call's own has made. -/
theorem Fr.of_own {W : World} {base N n : Nat} {e : TypeId} {v : Value} {xs : List Value} (h : W.ownsRow base e 1 v n xs) (hN : N < Bw ^ n) (hx : ∀ j, j < n → xs[j]? = some (.int .u32 (dig N j : Nat))) :
    ∃ A c, v = .slice A n c ∧ n ≤ c ∧ c ≤ maxLen ∧ Fr W base W.heap.size A n N := by
  rcases Nat.eq_zero_or_pos n with rfl | hn
  · rcases h.2 with ⟨rfl, _⟩ | ⟨g, cap, cur, rfl, _, _, _, hm, _⟩
    · exact ⟨none, 0, rfl, Nat.le_refl _, by simp [maxLen], hN, fun h => absurd h (by omega)⟩
    · exact ⟨_, cap, rfl, Nat.zero_le _, hm, hN, fun h => absurd h (by omega)⟩
  · rcases h.2 with ⟨_, h0⟩ | ⟨g, cap, cur, rfl, hb, hg, hc, hm, _⟩
    · omega
    · refine ⟨_, cap, rfl, hc, hm, hN, fun _ => ⟨g, rfl, hb, (Array.getElem?_eq_some_iff.1 hg).1, fun j hj => ⟨?_, h.frozenAt j⟩⟩⟩
      rw [h.cellAt j (by omega)]
      exact hx j hj

/-- A block that has just been written out. -/
theorem Fr.lit {w : World} {lo N n : Nat} {t : TypeId} {cs : Array Value} (hlo : lo ≤ w.heap.size) (hN : N < Bw ^ n) (hx : ∀ j, j < n → cs[j]? = some (.int .u32 (dig N j : Nat))) :
    Fr (w.alloc (.cells cs t)) lo (w.heap.size + 1) (some ⟨w.heap.size, 0, none⟩) n N :=
  ⟨hN, fun _ => ⟨_, rfl, hlo, by omega, fun j hj => ⟨by
    have h := World.alloc_heap_new' w (.cells cs t)
    simp only [World.cell?, h]
    simpa using hx j hj, by
    have h := World.alloc_heap_new' w (.cells cs t)
    unfold World.frozen?
    rw [h]
    simp⟩⟩⟩

/-- Where 'cut' leaves a slice: nought is told in one way. -/
def cutA (N : Nat) (A : Option Addr) : Option Addr := if N = 0 then none else A
theorem cutA_zero (A : Option Addr) : cutA 0 A = none := rfl
theorem cutA_pos {N : Nat} (h : N ≠ 0) (A : Option Addr) : cutA N A = A := by simp [cutA, h]
theorem Rd.cut {W : World} {hi n N : Nat} {A : Option Addr} (h : Rd W hi A n N) : Rd W hi (cutA N A) (lenL N) N := by
  by_cases h0 : N = 0
  · subst h0; exact Rd.none_
  · rw [cutA_pos h0]; exact h.down (lenL_le.2 h.1) (lt_pow_lenL N)
theorem Fr.cut {W : World} {lo hi n N : Nat} {A : Option Addr} (h : Fr W lo hi A n N) : Fr W lo hi (cutA N A) (lenL N) N := by
  by_cases h0 : N = 0
  · subst h0; exact Fr.nil
  · rw [cutA_pos h0]; exact h.down (lenL_le.2 h.1) (lt_pow_lenL N)

theorem bcell {W w1 : World} (hb : Below W.heap.size W w1) : (∀ b o, b < W.heap.size → w1.cell? ⟨b, o, none⟩ = W.cell? ⟨b, o, none⟩) ∧ (∀ b o, b < W.heap.size → w1.frozen? ⟨b, o, none⟩ = W.frozen? ⟨b, o, none⟩) :=
  ⟨fun b o h => hb.cell (p := ⟨b, o, none⟩) h, fun b o h => hb.frozen (p := ⟨b, o, none⟩) h⟩
theorem ret_int {k : IntKind} {a b : Int} (h : a = b) : Ending.returned (.int k a) = .returned (.int k b) := by rw [h]
theorem ret_bool {a b : Bool} (h : a = b) : Ending.returned (.bool a) = .returned (.bool b) := by rw [h]

/-- A slice of limbs, and the number that it reads as. -/
structure Num where
  A : Option Addr
  n : Nat
  c : Nat
  N : Nat
def Num.ok (W : World) (hi : Nat) (x : Num) : Prop := Rd W hi x.A x.n x.N ∧ x.n ≤ x.c ∧ x.c ≤ maxLen ∧ x.n ≤ 35184372087808
/-- A slice of numbers. -/
def Rds (W : World) (hi : Nat) (A : Option Addr) (l : List Num) : Prop :=
  ∀ k (h : k < l.length), (∃ ad : Addr, A = some ad ∧ ad.block < hi ∧ W.cell? (ad.add k) = some (.slice l[k].A l[k].n l[k].c)) ∧ l[k].ok W hi
theorem Num.ok.below {W W' : World} {hi : Nat} {x : Num} (h : x.ok W hi) (hb : Below hi W W') : x.ok W' hi := ⟨h.1.below hb, h.2⟩
theorem Num.ok.more {W : World} {hi hi' : Nat} {x : Num} (h : x.ok W hi) (hb : hi ≤ hi') : x.ok W hi' := ⟨h.1.more hb, h.2⟩
theorem Rds.below {W W' : World} {hi : Nat} {A : Option Addr} {l : List Num} (h : Rds W hi A l) (hb : Below hi W W') : Rds W' hi A l := fun k hk => by
  obtain ⟨⟨ad, e, h1, h2⟩, h3⟩ := h k hk
  exact ⟨⟨ad, e, h1, (hb.cell (p := ad.add k) (by rw [add_block]; exact h1)).trans h2⟩, h3.below hb⟩
theorem Rds.more {W : World} {hi hi' : Nat} {A : Option Addr} {l : List Num} (h : Rds W hi A l) (hh : hi ≤ hi') : Rds W hi' A l := fun k hk => by
  obtain ⟨⟨ad, e, h1, h2⟩, h3⟩ := h k hk
  exact ⟨⟨ad, e, by omega, h2⟩, h3.more hh⟩
def sumN (l : List Num) : Nat := (l.map Num.N).sum
def longestN (l : List Num) : Nat := l.foldl (fun m x => max m (lenL x.N)) 0
theorem sumN_append (l l' : List Num) : sumN (l ++ l') = sumN l + sumN l' := by simp [sumN]
theorem sumN_take {l : List Num} {k : Nat} (h : k < l.length) : sumN (l.take (k + 1)) = sumN (l.take k) + l[k].N := by
  rw [List.take_succ_eq_append_getElem h, sumN_append]
  simp [sumN]
theorem longestN_take {l : List Num} {k : Nat} (h : k < l.length) : longestN (l.take (k + 1)) = max (longestN (l.take k)) (lenL l[k].N) := by
  rw [List.take_succ_eq_append_getElem h]
  unfold longestN
  rw [List.foldl_append]
  rfl
theorem foldl_max_ge (l : List Num) (m : Nat) : m ≤ l.foldl (fun m x => max m (lenL x.N)) m ∧ ∀ x ∈ l, lenL x.N ≤ l.foldl (fun m x => max m (lenL x.N)) m := by
  induction l generalizing m with
  | nil => simp
  | cons y l ih =>
    simp only [List.foldl_cons]
    obtain ⟨h1, h2⟩ := ih (max m (lenL y.N))
    refine ⟨by omega, fun x hx => ?_⟩
    rcases List.mem_cons.1 hx with rfl | hx
    · omega
    · exact h2 x hx
theorem foldl_max_le {l : List Num} {b : Nat} (h : ∀ x ∈ l, lenL x.N ≤ b) (m : Nat) (hm : m ≤ b) : l.foldl (fun m x => max m (lenL x.N)) m ≤ b := by
  induction l generalizing m with
  | nil => simpa
  | cons y l ih =>
    simp only [List.foldl_cons]
    have := h y (by simp)
    exact ih (fun x hx => h x (by simp [hx])) _ (by omega)
theorem longestN_le {l : List Num} {b : Nat} (h : ∀ x ∈ l, lenL x.N ≤ b) : longestN l ≤ b := foldl_max_le h 0 (Nat.zero_le _)
theorem sumN_le {l : List Num} {B : Nat} (h : ∀ x ∈ l, x.N ≤ B) : sumN l ≤ l.length * B := by
  induction l with
  | nil => simp [sumN]
  | cons y l ih =>
    have h1 := h y (by simp)
    have h2 := ih (fun x hx => h x (by simp [hx]))
    simp only [sumN, List.map_cons, List.sum_cons, List.length_cons] at h2 ⊢
    rw [Nat.add_mul, Nat.one_mul]
    omega
theorem sumN_lt {l : List Num} (hl : l.length ≤ 100000000000000) : sumN l < Bw ^ (longestN l + 2) := by
  have h1 : sumN l ≤ l.length * Bw ^ longestN l := sumN_le (fun x hx => Nat.le_of_lt (Nat.lt_of_lt_of_le (lt_pow_lenL x.N) (Nat.pow_le_pow_right Bw_pos ((foldl_max_ge l 0).2 x hx))))
  have h2 : l.length * Bw ^ longestN l < Bw ^ 2 * Bw ^ longestN l := Nat.mul_lt_mul_of_pos_right (by have : Bw ^ 2 = 18446744073709551616 := by decide
                                                                                                     omega) (pow_pos_Bw _)
  rw [Nat.pow_add, Nat.mul_comm (Bw ^ longestN l)]
  omega
theorem sumN_take_le (l : List Num) (k : Nat) : sumN (l.take k) ≤ sumN l := by
  have h : sumN l = sumN (l.take k) + sumN (l.drop k) := by rw [← sumN_append, List.take_append_drop]
  omega

/-- .. of the first k. -/
def longAt (l : List Num) (k : Nat) : Nat := longestN (l.take k)
theorem longAt_zero (l : List Num) : longAt l 0 = 0 := rfl
theorem longAt_succ {l : List Num} {k : Nat} (h : k < l.length) : longAt l (k + 1) = max (longAt l k) (lenL l[k].N) := longestN_take h
theorem longAt_all (l : List Num) : longAt l l.length = longestN l := by unfold longAt; rw [List.take_length]
def sumAt (l : List Num) (k : Nat) : Nat := sumN (l.take k)
theorem sumAt_zero (l : List Num) : sumAt l 0 = 0 := rfl
theorem sumAt_succ {l : List Num} {k : Nat} (h : k < l.length) : sumAt l (k + 1) = sumAt l k + l[k].N := sumN_take h
theorem sumAt_all (l : List Num) : sumAt l l.length = sumN l := by unfold sumAt; rw [List.take_length]
theorem sumAt_le (l : List Num) (k : Nat) : sumAt l k ≤ sumN l := sumN_take_le l k

/-- The place of the first of the least ones among the first k. -/
def leastI (l : List Num) : Nat → Nat
  | 0 => 0
  | k + 1 => if k = 0 then 0 else if ((l[k]?.map Num.N).getD 0) < ((l[leastI l k]?.map Num.N).getD 0) then k else leastI l k
theorem leastI_lt (l : List Num) (k : Nat) : leastI l (k + 1) ≤ k := by
  induction k with
  | zero => simp [leastI]
  | succ k ih =>
    rw [leastI]
    split
    · omega
    · split <;> omega
theorem leastI_new {l : List Num} {k : Nat} (hk : 0 < k) (h : k < l.length) (h' : leastI l k < l.length) (hl : l[k].N < l[leastI l k].N) : leastI l (k + 1) = k := by
  rw [leastI, if_neg (by omega), List.getElem?_eq_getElem h, List.getElem?_eq_getElem h']
  exact if_pos hl
theorem leastI_old {l : List Num} {k : Nat} (hk : 0 < k) (h : k < l.length) (h' : leastI l k < l.length) (hl : ¬ l[k].N < l[leastI l k].N) : leastI l (k + 1) = leastI l k := by
  rw [leastI, if_neg (by omega), List.getElem?_eq_getElem h, List.getElem?_eq_getElem h']
  exact if_neg hl
def leastV (l : List Num) (k : Nat) : Int := if k = 0 then -1 else leastI l k
theorem leastV_zero (l : List Num) : leastV l 0 = -1 := rfl
theorem leastV_succ (l : List Num) (k : Nat) : leastV l (k + 1) = leastI l (k + 1) := rfl
theorem leastV_pos (l : List Num) {k : Nat} (h : 0 < k) : leastV l k = leastI l k := if_neg (by omega)

/-- What 'Great' has counted. -/
def cnt (l : List Num) (k : Nat) : Nat := ((l.take k).map (fun x => min x.n 10000)).sum
theorem cnt_zero (l : List Num) : cnt l 0 = 0 := rfl
theorem cnt_succ {l : List Num} {k : Nat} (h : k < l.length) : cnt l (k + 1) = cnt l k + min l[k].n 10000 := by
  unfold cnt
  rw [List.take_succ_eq_append_getElem h, List.map_append, List.sum_append]
  simp
theorem cnt_le (l : List Num) (k : Nat) : cnt l k ≤ k * 10000 := by
  induction k with
  | zero => simp [cnt]
  | succ k ih =>
    rcases Nat.lt_or_ge k l.length with h | h
    · rw [cnt_succ h]; omega
    · have : cnt l (k + 1) = cnt l k := by unfold cnt; rw [List.take_of_length_le h, List.take_of_length_le (by omega)]
      omega
def greatB (l : List Num) : Bool := decide (100 < l.length) || decide (600 < cnt l (min l.length 101))
def sizeN (l : List Num) : Nat := (l.map Num.n).sum
theorem sum_min (l : List Num) (h : (l.map (fun x => min x.n 10000)).sum ≤ 600) : (l.map Num.n).sum ≤ 600 := by
  have : (l.map Num.n).sum = (l.map (fun x => min x.n 10000)).sum := by
    induction l with
    | nil => rfl
    | cons x l ih =>
      simp only [List.map_cons, List.sum_cons] at h ⊢
      rw [ih (by omega)]
      omega
  omega
/-- Numbers that are not too great: at most 100 of them, of 600 limbs together. -/
theorem greatB_false {l : List Num} (h : greatB l = false) : l.length ≤ 100 ∧ sizeN l ≤ 600 := by
  simp only [greatB, Bool.or_eq_false_iff, decide_eq_false_iff_not, Nat.not_lt] at h
  refine ⟨h.1, sum_min l ?_⟩
  have := h.2
  rw [Nat.min_eq_left (by omega)] at this
  unfold cnt at this
  rwa [List.take_length] at this
theorem mem_sizeN {l : List Num} {x : Num} (h : x ∈ l) : x.n ≤ sizeN l := by
  induction l with
  | nil => cases h
  | cons y l ih =>
    simp only [sizeN, List.map_cons, List.sum_cons] at ih ⊢
    rcases List.mem_cons.1 h with rfl | h
    · omega
    · have := ih h; omega
end Go.Proofs.Ytjakmpphfjhbaaa
