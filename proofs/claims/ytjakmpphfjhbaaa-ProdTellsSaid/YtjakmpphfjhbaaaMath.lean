/- Plain arithmetic of limbs: a number's digits to the base of 2 to the power of 32, what is carried in sums and differences, how many limbs a number has. Nothing of the program. -/
import Derived.KernelRfl
namespace Go.Proofs.Ytjakmpphfjhbaaa

/-- The base of the limbs. -/
def Bw : Nat := 4294967296
theorem Bw_eq : Bw = 4294967296 := rfl
theorem Bw_pos : 0 < Bw := by decide
theorem pow_pos_Bw (n : Nat) : 0 < Bw ^ n := Nat.pow_pos Bw_pos

/-- Limb j of N. -/
def dig (N j : Nat) : Nat := N / Bw ^ j % Bw
theorem dig_lt (N j : Nat) : dig N j < 4294967296 := Nat.mod_lt _ Bw_pos
theorem dig_zero (j : Nat) : dig 0 j = 0 := by simp [dig]
theorem dig_ge {N n j : Nat} (h : N < Bw ^ n) (hj : n ≤ j) : dig N j = 0 := by
  have : N < Bw ^ j := Nat.lt_of_lt_of_le h (Nat.pow_le_pow_right Bw_pos hj)
  simp [dig, Nat.div_eq_of_lt this]

theorem mod_succ (N k : Nat) : N % Bw ^ (k + 1) = N % Bw ^ k + Bw ^ k * dig N k := by
  rw [Nat.pow_succ, Nat.mod_mul]; rfl

theorem eq_of_digs {N M n : Nat} (hN : N < Bw ^ n) (hM : M < Bw ^ n) (h : ∀ j, j < n → dig N j = dig M j) : N = M := by
  have key : ∀ k, k ≤ n → N % Bw ^ k = M % Bw ^ k := by
    intro k
    induction k with
    | zero => intro _; simp [Nat.mod_one]
    | succ k ih => intro hk; rw [mod_succ, mod_succ, ih (by omega), h k (by omega)]
  have := key n (Nat.le_refl _)
  rwa [Nat.mod_eq_of_lt hN, Nat.mod_eq_of_lt hM] at this

theorem dig_add_mul {N x n : Nat} (hN : N < Bw ^ n) (hx : x < Bw) (j : Nat) (hj : j ≤ n) : dig (N + Bw ^ n * x) j = if j = n then x else dig N j := by
  unfold dig
  split
  · subst j
    rw [Nat.add_mul_div_left _ _ (pow_pos_Bw n), Nat.div_eq_of_lt hN, Nat.zero_add, Nat.mod_eq_of_lt hx]
  · have hlt : j < n := by omega
    obtain ⟨d, rfl⟩ : ∃ d, n = j + (d + 1) := ⟨n - j - 1, by omega⟩
    rw [Nat.pow_add, Nat.mul_assoc, Nat.add_mul_div_left _ _ (pow_pos_Bw j), Nat.pow_succ, Nat.mul_comm (Bw ^ d) Bw, Nat.mul_assoc, Nat.add_mul_mod_self_left]

/-- Any n limbs are the limbs of a number. -/
theorem num_of_limbs (n : Nat) (x : Nat → Nat) (h : ∀ j, j < n → x j < Bw) : ∃ N, N < Bw ^ n ∧ ∀ j, j < n → x j = dig N j := by
  induction n with
  | zero => exact ⟨0, by simp, fun j hj => by omega⟩
  | succ n ih =>
    obtain ⟨N, hN, hd⟩ := ih (fun j hj => h j (by omega))
    have hx := h n (by omega)
    refine ⟨N + Bw ^ n * x n, ?_, fun j hj => ?_⟩
    · rw [Nat.pow_succ]
      have : Bw ^ n * (x n + 1) ≤ Bw ^ n * Bw := Nat.mul_le_mul_left _ hx
      rw [Nat.mul_add, Nat.mul_one] at this
      omega
    · rw [dig_add_mul hN hx j (by omega)]
      split
      · subst j; rfl
      · exact hd j (by omega)

/-- What is carried to place k in the sum of D and V. -/
def car (D V k : Nat) : Nat := (D % Bw ^ k + V % Bw ^ k) / Bw ^ k
theorem car_zero (D V : Nat) : car D V 0 = 0 := by simp [car, Nat.mod_one]
theorem car_le (D V k : Nat) : car D V k ≤ 1 := by
  unfold car
  have h1 := Nat.mod_lt D (pow_pos_Bw k)
  have h2 := Nat.mod_lt V (pow_pos_Bw k)
  have : (D % Bw ^ k + V % Bw ^ k) / Bw ^ k < 2 := Nat.div_lt_of_lt_mul (by omega)
  omega
theorem car_succ (D V k : Nat) : car D V (k + 1) = (dig D k + dig V k + car D V k) / Bw := by
  unfold car
  rw [mod_succ, mod_succ, Nat.pow_succ, ← Nat.div_div_eq_div_mul]
  congr 1
  rw [show D % Bw ^ k + Bw ^ k * dig D k + (V % Bw ^ k + Bw ^ k * dig V k) = D % Bw ^ k + V % Bw ^ k + Bw ^ k * (dig D k + dig V k) from by rw [Nat.mul_add]; omega,
    Nat.add_mul_div_left _ _ (pow_pos_Bw k)]
  omega
theorem div_add (D V k : Nat) : (D + V) / Bw ^ k = D / Bw ^ k + V / Bw ^ k + car D V k := by
  unfold car
  have h1 := Nat.div_add_mod D (Bw ^ k)
  have h2 := Nat.div_add_mod V (Bw ^ k)
  have : D + V = (D % Bw ^ k + V % Bw ^ k) + Bw ^ k * (D / Bw ^ k + V / Bw ^ k) := by rw [Nat.mul_add]; omega
  rw [this, Nat.add_mul_div_left _ _ (pow_pos_Bw k)]
  rw [Nat.add_comm]
theorem dig_add (D V k : Nat) : dig (D + V) k = (dig D k + dig V k + car D V k) % Bw := by
  unfold dig
  rw [div_add, Nat.add_mod, Nat.add_mod (D / Bw ^ k)]
  simp [Nat.add_mod]
/-- The limb and what is carried on, at once. -/
theorem dig_car (D V k : Nat) : dig D k + dig V k + car D V k = dig (D + V) k + 4294967296 * car D V (k + 1) := by
  rw [dig_add, car_succ, Bw_eq]
  exact (Nat.mod_add_div _ _).symm
/-- Where nothing more is to be added, and nothing is carried, the limbs stay. -/
theorem dig_stop {D V k : Nat} (hV : V < Bw ^ k) (hc : car D V k = 0) {j : Nat} (hj : k ≤ j) : dig (D + V) j = dig D j := by
  obtain ⟨d, rfl⟩ : ∃ d, j = k + d := ⟨j - k, by omega⟩
  unfold dig
  rw [Nat.pow_add, ← Nat.div_div_eq_div_mul, ← Nat.div_div_eq_div_mul, div_add, hc, Nat.div_eq_of_lt hV]
  rfl

/-- How many limbs N has, trimmed. -/
def lenL (N : Nat) : Nat := if N = 0 then 0 else N.log2 / 32 + 1
theorem Bw_pow (n : Nat) : Bw ^ n = 2 ^ (32 * n) := by rw [Nat.pow_mul]; rfl
theorem lenL_le {N n : Nat} : lenL N ≤ n ↔ N < Bw ^ n := by
  unfold lenL
  rw [Bw_pow]
  split
  · next h => subst h; simp [Nat.pow_pos]
  · next h => rw [← Nat.log2_lt h]; omega
theorem lt_pow_lenL (N : Nat) : N < Bw ^ lenL N := lenL_le.1 (Nat.le_refl _)
theorem lenL_zero : lenL 0 = 0 := rfl
theorem lenL_eq_zero {N : Nat} : lenL N = 0 ↔ N = 0 := by unfold lenL; split <;> simp_all
theorem lt_pow_pred {N k : Nat} (h : N < Bw ^ (k + 1)) (hd : dig N k = 0) : N < Bw ^ k := by
  rw [← Nat.mod_eq_of_lt h, mod_succ, hd]
  simpa using Nat.mod_lt _ (pow_pos_Bw k)
theorem lenL_eq {N k : Nat} (h : N < Bw ^ (k + 1)) (hd : dig N k ≠ 0) : lenL N = k + 1 := by
  have h1 := lenL_le.2 h
  rcases Nat.lt_or_ge k (lenL N) with h2 | h2
  · omega
  · exact absurd (dig_ge (lenL_le.1 h2) (Nat.le_refl k)) hd
theorem dig_top {N k : Nat} (h : lenL N = k + 1) : dig N k ≠ 0 := fun hd => by
  have := lenL_le.2 (lt_pow_pred (h ▸ lt_pow_lenL N) hd)
  omega
theorem lenL_mono {N M : Nat} (h : N ≤ M) : lenL N ≤ lenL M := lenL_le.2 (Nat.lt_of_le_of_lt h (lt_pow_lenL M))

theorem lt_of_digs {N M n k : Nat} (hN : N < Bw ^ n) (hM : M < Bw ^ n) (hs : ∀ j, k < j → dig N j = dig M j) (hl : dig N k < dig M k) : N < M := by
  have h1 : N / Bw ^ (k + 1) = M / Bw ^ (k + 1) := by
    refine eq_of_digs (n := n) (Nat.lt_of_le_of_lt (Nat.div_le_self _ _) hN) (Nat.lt_of_le_of_lt (Nat.div_le_self _ _) hM) (fun j _ => ?_)
    have := hs (k + 1 + j) (by omega)
    unfold dig at this ⊢
    rwa [Nat.pow_add, ← Nat.div_div_eq_div_mul, ← Nat.div_div_eq_div_mul] at this
  have e1 := Nat.div_add_mod N (Bw ^ (k + 1))
  have e2 := Nat.div_add_mod M (Bw ^ (k + 1))
  rw [mod_succ, h1] at e1
  rw [mod_succ] at e2
  have h2 := Nat.mod_lt N (pow_pos_Bw k)
  have h3 : Bw ^ k * (dig N k + 1) ≤ Bw ^ k * dig M k := Nat.mul_le_mul_left _ hl
  rw [Nat.mul_add, Nat.mul_one] at h3
  generalize M % Bw ^ k = i at e2
  generalize N % Bw ^ k = g at e1 h2
  omega

theorem lt_of_digs2 {N M n m k : Nat} (hN : N < Bw ^ n) (hM : M < Bw ^ m) (hs : ∀ j, k < j → dig N j = dig M j) (hl : dig N k < dig M k) : N < M :=
  lt_of_digs (n := max n m) (Nat.lt_of_lt_of_le hN (Nat.pow_le_pow_right Bw_pos (Nat.le_max_left _ _))) (Nat.lt_of_lt_of_le hM (Nat.pow_le_pow_right Bw_pos (Nat.le_max_right _ _))) hs hl
theorem eq_of_digs2 {N M n m : Nat} (hN : N < Bw ^ n) (hM : M < Bw ^ m) (h : ∀ j, dig N j = dig M j) : N = M :=
  eq_of_digs (n := max n m) (Nat.lt_of_lt_of_le hN (Nat.pow_le_pow_right Bw_pos (Nat.le_max_left _ _))) (Nat.lt_of_lt_of_le hM (Nat.pow_le_pow_right Bw_pos (Nat.le_max_right _ _))) (fun j _ => h j)

theorem two_limbs {N : Nat} (h : N < Bw ^ 2) : dig N 1 * 4294967296 + dig N 0 = N := by
  have h1 : dig N 1 = N / 4294967296 := by
    unfold dig
    rw [Nat.pow_one, Nat.mod_eq_of_lt]
    · rfl
    · rw [Nat.pow_two] at h; exact Nat.div_lt_of_lt_mul h
  have h0 : dig N 0 = N % 4294967296 := by simp [dig, Bw]
  rw [h1, h0]; omega
end Go.Proofs.Ytjakmpphfjhbaaa
