/- Decimal digits: a number's text, a text's number. No function of the program. -/
import Derived.Lib.Strings
import Derived.Test.YtaancfhbmjkoaaaGreatDoorGGen
namespace Go.Proofs.YtaancfhbmjkoaaaGreatDoor
open Go

/-- The byte of a digit. -/
def dg (d : Nat) : UInt8 := UInt8.ofNat (48 + d)
theorem dg_toNat {d : Nat} (h : d < 10) : (dg d).toNat = 48 + d := by
  unfold dg
  rw [UInt8.toNat_ofNat']
  omega
/-- A number's digits, the greatest first; nought has none. -/
def decz (n : Nat) : List UInt8 := if _h : n = 0 then [] else decz (n / 10) ++ [dg (n % 10)]
termination_by n
decreasing_by omega
/-- A number's text. -/
def dec (n : Nat) : List UInt8 := if n = 0 then [48] else decz n
/-- A text's number. -/
def val (l : List UInt8) : Nat := l.foldl (fun a c => a * 10 + (c.toNat - 48)) 0
/-- Digits only. -/
def Digs (l : List UInt8) : Prop := ∀ c ∈ l, 48 ≤ c.toNat ∧ c.toNat ≤ 57

theorem decz_zero : decz 0 = [] := by rw [decz]; simp
theorem decz_pos {n : Nat} (h : n ≠ 0) : decz n = decz (n / 10) ++ [dg (n % 10)] := by rw [decz, dif_neg h]
theorem decz_step {q d : Nat} (hd : d < 10) (h : 10 * q + d ≠ 0) : decz (10 * q + d) = decz q ++ [dg d] := by
  rw [decz_pos h]
  have e1 : (10 * q + d) / 10 = q := by omega
  have e2 : (10 * q + d) % 10 = d := by omega
  rw [e1, e2]
theorem dec_zero : dec 0 = [48] := rfl
theorem dec_pos {n : Nat} (h : n ≠ 0) : dec n = decz n := by unfold dec; rw [if_neg h]

theorem val_nil : val [] = 0 := rfl
theorem val_snoc (l : List UInt8) (c : UInt8) : val (l ++ [c]) = val l * 10 + (c.toNat - 48) := by
  unfold val; rw [List.foldl_append]; rfl
theorem val_from (l : List UInt8) : ∀ a : Nat, l.foldl (fun a c => a * 10 + (c.toNat - 48)) a = a * 10 ^ l.length + val l := by
  unfold val
  induction l with
  | nil => intro a; simp
  | cons c l ih =>
    intro a
    rw [List.foldl_cons, List.foldl_cons, ih, ih (0 * 10 + (c.toNat - 48)), List.length_cons, Nat.pow_succ]
    rw [Nat.add_mul, Nat.mul_assoc, Nat.mul_comm 10]
    simp only [Nat.zero_mul, Nat.zero_add]
    omega
theorem val_append (l m : List UInt8) : val (l ++ m) = val l * 10 ^ m.length + val m := by
  show (l ++ m).foldl _ 0 = _
  rw [List.foldl_append]
  exact val_from m _
theorem val_cons (c : UInt8) (l : List UInt8) : val (c :: l) = (c.toNat - 48) * 10 ^ l.length + val l := by
  have h := val_append [c] l
  have e : val [c] = c.toNat - 48 := by show 0 * 10 + (c.toNat - 48) = _; omega
  rw [e] at h
  exact h
theorem digs_cons {c : UInt8} {l : List UInt8} : Digs (c :: l) ↔ (48 ≤ c.toNat ∧ c.toNat ≤ 57) ∧ Digs l := by
  unfold Digs; simp
theorem digs_append {l m : List UInt8} : Digs (l ++ m) ↔ Digs l ∧ Digs m := by
  unfold Digs
  constructor
  · intro h; exact ⟨fun c hc => h c (by simp [hc]), fun c hc => h c (by simp [hc])⟩
  · rintro ⟨h1, h2⟩ c hc
    rcases List.mem_append.mp hc with h | h
    · exact h1 c h
    · exact h2 c h
theorem digs_dg {d : Nat} (h : d < 10) : Digs [dg d] := by
  intro c hc
  simp only [List.mem_cons, List.not_mem_nil, or_false] at hc
  subst hc
  rw [dg_toNat h]; omega
theorem digs_nil : Digs [] := by intro c hc; simp at hc
theorem val_lt {l : List UInt8} (h : Digs l) : val l < 10 ^ l.length := by
  induction l with
  | nil => simp [val_nil]
  | cons c l ih =>
    obtain ⟨hc, hl⟩ := digs_cons.mp h
    have h1 := ih hl
    rw [val_cons, List.length_cons, Nat.pow_succ]
    have h2 : (c.toNat - 48) * 10 ^ l.length ≤ 9 * 10 ^ l.length := Nat.mul_le_mul_right _ (by omega)
    omega
theorem val_inj {l : List UInt8} : ∀ {m : List UInt8}, Digs l → Digs m → l.length = m.length → val l = val m → l = m := by
  induction l with
  | nil => intro m _ _ hlen _; exact (List.eq_nil_of_length_eq_zero hlen.symm).symm
  | cons c l ih =>
    intro m hl hm hlen hv
    cases m with
    | nil => simp at hlen
    | cons d m =>
      obtain ⟨hc, hl'⟩ := digs_cons.mp hl
      obtain ⟨hd, hm'⟩ := digs_cons.mp hm
      have hlen' : l.length = m.length := by simpa using hlen
      have h1 := val_lt hl'
      have h2 := val_lt hm'
      rw [val_cons, val_cons, ← hlen'] at hv
      rw [← hlen'] at h2
      have e1 : c.toNat - 48 = d.toNat - 48 := by
        have q1 : ((c.toNat - 48) * 10 ^ l.length + val l) / 10 ^ l.length = c.toNat - 48 := by
          rw [Nat.mul_comm, Nat.mul_add_div (Nat.pow_pos (by omega)), Nat.div_eq_of_lt h1, Nat.add_zero]
        have q2 : ((d.toNat - 48) * 10 ^ l.length + val m) / 10 ^ l.length = d.toNat - 48 := by
          rw [Nat.mul_comm, Nat.mul_add_div (Nat.pow_pos (by omega)), Nat.div_eq_of_lt h2, Nat.add_zero]
        rw [← q1, hv, q2]
      have e2 : c = d := UInt8.toNat_inj.mp (by omega)
      subst e2
      rw [ih hl' hm' hlen' (by omega)]
/-- Of texts of as many digits the lesser one is the lesser number's. -/
theorem bytesLess_val {l : List UInt8} : ∀ {m : List UInt8}, Digs l → Digs m → l.length = m.length → Op.bytesLess l m = decide (val l < val m) := by
  induction l with
  | nil => intro m _ _ hlen; rw [(List.eq_nil_of_length_eq_zero hlen.symm)]; simp [Op.bytesLess]
  | cons c l ih =>
    intro m hl hm hlen
    cases m with
    | nil => simp at hlen
    | cons d m =>
      obtain ⟨hc, hl'⟩ := digs_cons.mp hl
      obtain ⟨hd, hm'⟩ := digs_cons.mp hm
      have hlen' : l.length = m.length := by simpa using hlen
      have h1 := val_lt hl'
      have h2 := val_lt hm'
      rw [← hlen'] at h2
      rw [val_cons, val_cons, ← hlen']
      show (decide (c < d) || (c == d && Op.bytesLess l m)) = _
      rw [ih hl' hm' hlen']
      have e : (c == d) = decide (c.toNat = d.toNat) := by
        rw [Bool.eq_iff_iff]; simp [UInt8.toNat_inj]
      rw [e, Bool.eq_iff_iff]
      simp only [Bool.or_eq_true, Bool.and_eq_true, decide_eq_true_eq, UInt8.lt_iff_toNat_lt]
      rcases Nat.lt_trichotomy c.toNat d.toNat with h | h | h
      · have h3 : (c.toNat - 48 + 1) * 10 ^ l.length ≤ (d.toNat - 48) * 10 ^ l.length := Nat.mul_le_mul_right _ (by omega)
        rw [Nat.add_mul, Nat.one_mul] at h3
        exact ⟨fun _ => by omega, fun _ => .inl h⟩
      · rw [h]
        exact ⟨fun h' => by rcases h' with h' | h' <;> omega, fun h' => .inr ⟨rfl, by omega⟩⟩
      · have h3 : (d.toNat - 48 + 1) * 10 ^ l.length ≤ (c.toNat - 48) * 10 ^ l.length := Nat.mul_le_mul_right _ (by omega)
        rw [Nat.add_mul, Nat.one_mul] at h3
        exact ⟨fun h' => by rcases h' with h' | h' <;> omega, fun h' => by omega⟩

theorem val_decz (n : Nat) : val (decz n) = n := by
  induction n using Nat.strongRecOn with
  | _ n ih =>
    by_cases h : n = 0
    · rw [h, decz_zero, val_nil]
    · rw [decz_pos h, val_snoc, ih (n / 10) (by omega), dg_toNat (by omega)]; omega
theorem digs_decz (n : Nat) : Digs (decz n) := by
  induction n using Nat.strongRecOn with
  | _ n ih =>
    by_cases h : n = 0
    · rw [h, decz_zero]; exact digs_nil
    · rw [decz_pos h]; exact digs_append.mpr ⟨ih (n / 10) (by omega), digs_dg (by omega)⟩
theorem head_app {l m : List UInt8} (h : l ≠ []) : (l ++ m).head? = l.head? := by
  cases l with
  | nil => exact absurd rfl h
  | cons c l => rfl
theorem decz_ne {n : Nat} (h : n ≠ 0) : decz n ≠ [] := by rw [decz_pos h]; simp
/-- The first digit is no nought. -/
theorem decz_head (n : Nat) : ∀ c, (decz n).head? = some c → 48 < c.toNat := by
  induction n using Nat.strongRecOn with
  | _ n ih =>
    intro c hc
    by_cases h : n = 0
    · rw [h, decz_zero] at hc; simp at hc
    · rw [decz_pos h] at hc
      by_cases h1 : n / 10 = 0
      · rw [h1, decz_zero] at hc
        simp only [List.nil_append, List.head?_cons, Option.some.injEq] at hc
        rw [← hc, dg_toNat (by omega)]; omega
      · rw [head_app (decz_ne h1)] at hc
        exact ih (n / 10) (by omega) c hc
theorem head_ge {l : List UInt8} {c : UInt8} (h : 48 < c.toNat) : 10 ^ l.length ≤ val (c :: l) := by
  rw [val_cons]
  have h1 : 1 * 10 ^ l.length ≤ (c.toNat - 48) * 10 ^ l.length := Nat.mul_le_mul_right _ (by omega)
  omega
/-- Where the first digit is no nought, the number has just as many digits. -/
theorem len_of_head {l m : List UInt8} (hl : Digs l) (hm : Digs m) (h1 : ∀ c, l.head? = some c → 48 < c.toNat) (h2 : ∀ c, m.head? = some c → 48 < c.toNat) (hv : val l = val m) : l.length = m.length := by
  have key : ∀ {l m : List UInt8}, Digs l → Digs m → (∀ c, m.head? = some c → 48 < c.toNat) → val l = val m → m.length ≤ l.length := by
    intro l m hl hm h2 hv
    cases m with
    | nil => simp
    | cons c m =>
      have h3 := head_ge (l := m) (c := c) (h2 c rfl)
      have h4 := val_lt hl
      have h5 : 10 ^ m.length < 10 ^ l.length := by omega
      have h6 := (Nat.pow_lt_pow_iff_right (by omega : 1 < 10)).mp h5
      simp only [List.length_cons]; omega
  exact Nat.le_antisymm (key hm hl h1 hv.symm) (key hl hm h2 hv)
/-- Digits whose first one is no nought are their number's. -/
theorem decz_val {l : List UInt8} (h : Digs l) (h1 : ∀ c, l.head? = some c → 48 < c.toNat) : decz (val l) = l :=
  val_inj (digs_decz _) h (len_of_head (digs_decz _) h (decz_head _) h1 (val_decz _)) (val_decz _)
theorem decz_mul {n : Nat} {l : List UInt8} (h : n ≠ 0) (hl : Digs l) : decz (n * 10 ^ l.length + val l) = decz n ++ l := by
  have h1 : val (decz n ++ l) = n * 10 ^ l.length + val l := by rw [val_append, val_decz]
  rw [← h1]
  refine decz_val (digs_append.mpr ⟨digs_decz n, hl⟩) fun c hc => ?_
  rw [head_app (decz_ne h)] at hc
  exact decz_head n c hc
theorem decz_lt (n : Nat) : n < 10 ^ (decz n).length := by
  have h := val_lt (digs_decz n)
  rwa [val_decz] at h
theorem decz_ge {n : Nat} (h : n ≠ 0) : 1 ≤ (decz n).length ∧ 10 ^ ((decz n).length - 1) ≤ n := by
  have h1 := decz_ne h
  have h2 := decz_head n
  have h3 := val_decz n
  generalize decz n = l at h1 h2 h3
  cases l with
  | nil => exact absurd rfl h1
  | cons c l =>
    have h4 := head_ge (l := l) (c := c) (h2 c rfl)
    rw [h3] at h4
    exact ⟨by simp, by simpa using h4⟩
theorem decz_len {n k : Nat} (h : n < 10 ^ k) : (decz n).length ≤ k := by
  by_cases h0 : n = 0
  · rw [h0, decz_zero]; simp
  · obtain ⟨h1, h2⟩ := decz_ge h0
    have h3 : 10 ^ ((decz n).length - 1) < 10 ^ k := by omega
    have h4 := (Nat.pow_lt_pow_iff_right (by omega : 1 < 10)).mp h3
    omega

theorem val_dec (n : Nat) : val (dec n) = n := by
  by_cases h : n = 0
  · rw [h]; rfl
  · rw [dec_pos h, val_decz]
theorem digs_dec (n : Nat) : Digs (dec n) := by
  by_cases h : n = 0
  · rw [h, dec_zero]; intro c hc; simp only [List.mem_cons, List.not_mem_nil, or_false] at hc; subst hc; decide
  · rw [dec_pos h]; exact digs_decz n
theorem dec_ne (n : Nat) : dec n ≠ [] := by
  by_cases h : n = 0
  · rw [h, dec_zero]; simp
  · rw [dec_pos h]; exact decz_ne h
theorem dec_lt (n : Nat) : n < 10 ^ (dec n).length := by
  have h := val_lt (digs_dec n)
  rwa [val_dec] at h
theorem dec_ge (n : Nat) : 1 ≤ (dec n).length ∧ (n = 0 ∧ (dec n).length = 1 ∨ n ≠ 0 ∧ 10 ^ ((dec n).length - 1) ≤ n) := by
  by_cases h : n = 0
  · subst h; exact ⟨by rw [dec_zero]; simp, .inl ⟨rfl, by rw [dec_zero]; simp⟩⟩
  · rw [dec_pos h]; exact ⟨(decz_ge h).1, .inr ⟨h, (decz_ge h).2⟩⟩
theorem dec_inj {n m : Nat} : dec n = dec m ↔ n = m := ⟨fun h => by rw [← val_dec n, h, val_dec], fun h => by rw [h]⟩
theorem dec_len_mono {n m : Nat} (h : (dec n).length < (dec m).length) : n < m := by
  have h1 := dec_lt n
  obtain ⟨h2, h3⟩ := dec_ge m
  obtain ⟨h4, -⟩ := dec_ge n
  rcases h3 with ⟨_, h3⟩ | ⟨_, h3⟩
  · omega
  · exact Nat.lt_of_lt_of_le (Nat.lt_of_lt_of_le h1 (Nat.pow_le_pow_right (by omega) (by omega))) h3
/-- Of two numbers' texts the one of fewer digits, or of as many the lesser one, is the lesser number's. -/
theorem dec_less (n m : Nat) : (decide ((dec n).length < (dec m).length) || (decide ((dec n).length = (dec m).length) && Op.bytesLess (dec n) (dec m))) = decide (n < m) := by
  rcases Nat.lt_trichotomy (dec n).length (dec m).length with h | h | h
  · rw [decide_eq_true h, decide_eq_true (dec_len_mono h)]; rfl
  · rw [bytesLess_val (digs_dec n) (digs_dec m) h, val_dec, val_dec]
    simp [h]
  · have h1 := dec_len_mono h
    rw [decide_eq_false (by omega), decide_eq_false (by omega), decide_eq_false (by omega)]; rfl
/-- Noughts ahead. -/
def noughts (l : List UInt8) : Nat := (l.takeWhile (· == 48)).length
theorem val_nought (l : List UInt8) : val (48 :: l) = val l := by rw [val_cons]; simp
theorem val_zeros (l : List UInt8) : ∀ k : Nat, val (List.replicate k 48 ++ l) = val l := by
  intro k
  induction k with
  | zero => rfl
  | succ k ih => rw [List.replicate_succ, List.cons_append, val_nought, ih]
