/- DigitsOrder, over what the program's functions answer: a number's text less is a lesser number's; ten times a number has a nought behind. -/
import Derived.Test.YtaancfhbmjkoaaaGreatDoorWakes6
import Derived.Test.YtaancfhbmjkoaaaGreatDoorGRefB
import Derived.Test.YtaancfhbmjkoaaaGreatDoorGRefA
import Derived.Test.YtaancfhbmjkoaaaGreatDoorLaw
namespace Go.Proofs.YtaancfhbmjkoaaaGreatDoor
open Go Go.ChangeShapes Go.WideShapes Go.ChangeAt Go.RowKit Go.Deep

set_option maxRecDepth 100000 in
set_option maxHeartbeats 4000000 in
theorem dorder_long (w : World) (S : DigTold w) (x y : Num) (hx : x.ok w w.heap.size) (hy : y.ok w w.heap.size) (hl : ¬ (x.n ≤ 8 ∧ y.n ≤ 8)) :
    Calls Tryz.prog 5 #[.slice x.A x.n x.c, .slice y.A y.n y.c] w fun e w' => e = .returned (.bool true) ∧ Below w.heap.size w w' := by
  have hE0 : Env w [x, y] w := Env.start (by simp; exact ⟨hx, hy⟩)
  clear hx hy
  go_enter Tryz.func5, Tryz.ntmps5
  go_wp2_with fail
  all_goals
    refine (wakes6_E S hE0).mono ?_
    rintro e Vw ⟨rfl, hEw⟩
    go_wp2
    go_ret
    exact ⟨rfl, hEw.1⟩

theorem dec_head (N : Nat) (h : N ≠ 0) : ∃ c l, dec N = c :: l ∧ 48 < c.toNat := by
  rw [dec_pos h]
  have h1 := decz_ne h
  have h2 := decz_head N
  cases hd : decz N with
  | nil => exact absurd hd h1
  | cons c l => exact ⟨c, l, rfl, h2 c (by rw [hd]; rfl)⟩
theorem dec_ten (N : Nat) (h : N ≠ 0) : dec (N * 10) = dec N ++ [48] := by
  have h1 := decz_mul (l := [48]) h (digs_of (by decide))
  rw [dec_pos h, dec_pos (by omega), ← h1]
  congr 1

theorem app48 (l : List UInt8) : ((⟨l.toArray⟩ : ByteArray) ++ ⟨#[48]⟩).toList = l ++ [48] := by
  have h := str_app l [48]
  have e : (⟨#[48]⟩ : ByteArray) = ⟨[48].toArray⟩ := rfl
  rw [e, h, ByteArray.toList_mk]

/-- How two numbers lie, and their texts. -/
def Lies (N M : Nat) (c : Int) (l m : List UInt8) : Prop :=
  (c = -1 ∧ N < M ∧ (l == m) = false ∧ (l.length < m.length ∨ l.length = m.length ∧ Op.bytesLess l m = true)) ∨
  (c = 0 ∧ N = M ∧ (l == m) = true ∧ l.length = m.length ∧ Op.bytesLess l m = false) ∨
  (c = 1 ∧ M < N ∧ (l == m) = false ∧ (m.length < l.length ∨ l.length = m.length ∧ Op.bytesLess l m = false))
theorem lies (N M : Nat) : Lies N M (cmpN N M) (dec N) (dec M) := by
  have hi := @dec_inj N M
  have hb : (dec N).length = (dec M).length → Op.bytesLess (dec N) (dec M) = decide (N < M) := fun h => by rw [bytesLess_val (digs_dec N) (digs_dec M) h, val_dec, val_dec]
  have hl := @dec_len_mono N M
  have hr := @dec_len_mono M N
  rcases Nat.lt_trichotomy N M with h | h | h
  · refine .inl ⟨by unfold cmpN; simp [h], h, by rw [beq_eq_false_iff_ne]; intro h2; have := hi.mp h2; omega, ?_⟩
    rcases Nat.lt_trichotomy (dec N).length (dec M).length with h1 | h1 | h1
    · exact .inl h1
    · exact .inr ⟨h1, by rw [hb h1]; simp [h]⟩
    · have := hr h1; omega
  · subst h
    exact .inr (.inl ⟨by unfold cmpN; simp, rfl, by simp, rfl, by rw [hb rfl]; simp⟩)
  · refine .inr (.inr ⟨by unfold cmpN; rw [if_neg (by omega)]; simp; omega, h, by rw [beq_eq_false_iff_ne]; intro h2; have := hi.mp h2; omega, ?_⟩)
    rcases Nat.lt_trichotomy (dec N).length (dec M).length with h1 | h1 | h1
    · have := hl h1; omega
    · exact .inr ⟨h1, by rw [hb h1]; simp; omega⟩
    · exact .inl h1

set_option maxRecDepth 100000 in
set_option maxHeartbeats 4000000 in
theorem dorder_any (w : World) (S : DigTold w) (x y : Num) (hx : x.ok w w.heap.size) (hy : y.ok w w.heap.size) (hn : x.n ≤ 8) (hn' : y.n ≤ 8) :
    Calls Tryz.prog 5 #[.slice x.A x.n x.c, .slice y.A y.n y.c] w fun e w' => e = .returned (.bool true) ∧ Below w.heap.size w w' := by
  have hE0 : Env w [x, y] w := Env.start (by simp; exact ⟨hx, hy⟩)
  clear hx hy
  go_enter Tryz.func5, Tryz.ntmps5
  go_wp2_with fail
  all_goals
    refine (S.text _ _ _ x hE0.1 hE0 (by simp) (by omega)).mono ?_
    rintro e W1 ⟨rfl, hE1⟩
    go_wp2_with fail
    refine (S.text _ _ _ y hE1.1 hE1 (by simp) (by omega)).mono ?_
    rintro e W2 ⟨rfl, hE2⟩
    have hL := lies x.N y.N
    have hlx : (dec x.N).length ≤ 1000 := Nat.le_trans (dec_len_le (hE2.2 x (by simp)).1.1) (by omega)
    have hly : (dec y.N).length ≤ 1000 := Nat.le_trans (dec_len_le (hE2.2 y (by simp)).1.1) (by omega)
    have EC := fun (V : World) (h : Env w [x, y] V) => rCmp_E h (x := x) (y := y) (by simp) (by simp)
    have BM := Lib.hid (mul_len (m := 1) (hE2.2 x (by simp)).1.1 (show 10 < Bw ^ 1 by rw [Nat.pow_one, Bw_eq]; decide))
    have HH := Lib.hid (dec_head x.N)
    have HT := Lib.hid (dec_ten x.N)
    have HZ := dec_nought x.N
    generalize cmpN x.N y.N = c at hL EC
    clear hE1
    rcases hL with ⟨rfl, h1, h2, h3 | ⟨h3, h4⟩⟩ | ⟨rfl, h1, h2, h3, h4⟩ | ⟨rfl, h1, h2, h3 | ⟨h3, h4⟩⟩
    all_goals
      clear h1
      go_wp2_with fail
      refine (EC _ hE2).mono ?_
      rintro e V1 ⟨rfl, hE3⟩
      clear hE2
      go_wp2_with fail
      refine (EC _ hE3).mono ?_
      rintro e V2 ⟨rfl, hE4⟩
      clear hE3
      go_wp2_with fail
      refine (S.count _ _ _ x hE4.1 hE4 (by simp) (by omega)).mono ?_
      rintro e V3 ⟨rfl, hE5⟩
      clear hE4
      go_wp2_with fail
      refine (rMul_E (hE5.lit (N := 10) (v := 10) rfl rfl (by decide)) (x := x) (y := ⟨some ⟨V3.heap.size, 0, none⟩, 1, 1, 10⟩) (by simp) (by simp) (by omega) (by simp)).mono ?_
      rintro e V4 ⟨t, rfl, tN, tn, hE6, -⟩
      clear hE5
      have tb : t.n ≤ 100 := by
        have h5 : t.n = lenL (x.N * 10) := tn
        have := BM.out
        omega
      replace tN : Hid (t.N = x.N * 10) := Lib.hid tN
      clear tn
      go_wp2_with fail
      refine (S.text _ _ _ t hE6.1 hE6 (by simp) tb).mono ?_
      rintro e V5 ⟨rfl, hE7⟩
      rw [tN.out]
      clear hE6
      go_wp2_with fail
      refine (rTrim_E hE7 (x := x) (by simp)).mono ?_
      rintro e V6 ⟨u, rfl, -, un, hE8, -⟩
      replace un := Lib.hid un
      clear hE7
      by_cases h0 : x.N = 0
      · have un0 : u.n = 0 := by rw [un.out, h0, lenL_zero]
        have z1 : (dec x.N == [48]) = true := by rw [HZ, h0]; rfl
        have z2 : (dec (x.N * 10) == [48]) = true := by rw [h0]; rfl
        have un1 : ((u.n : Int) == 0) = true := by rw [un0]; rfl
        go_wp2_with fail
        refine (wakes6_E S hE8).mono ?_
        rintro e V7 ⟨rfl, hE9⟩
        go_wp2
        go_ret
        exact ⟨rfl, hE9.1⟩
      · have un0 : 0 < u.n := by rw [un.out]; exact lenL_pos h0
        have un1 : ((u.n : Int) == 0) = false := by rw [beq_eq_false_iff_ne]; omega
        obtain ⟨c, l, hcl, hc⟩ := HH.out h0
        have hc1 : (((c.toNat : Nat) : Int) == 48) = false := by rw [beq_eq_false_iff_ne]; omega
        have hc2 : (((c.toNat : Nat) : Int) != 48) = true := by rw [bne_iff_ne]; omega
        have e0 : ((ByteArray.mk (c :: l).toArray)[0]'(by rw [str_size]; simp)).toNat = c.toNat := rfl
        rw [HT.out h0]
        go_wp2_with fail
        all_goals
          first
            | (refine (wakes6_E S hE8).mono ?_
               rintro e V7 ⟨rfl, hE9⟩
               go_wp2
               go_ret
               exact ⟨rfl, hE9.1⟩)
            | (exfalso; rename_i hA; exact absurd (show (c.toNat : Int) = 48 from hA) (by omega))
            | (exfalso; rename_i hA; exact hA (app48 (c :: l)).symm)
            | (exfalso; omega)
            | (exfalso; rw [hcl] at hlx; simp at hlx; omega)
end Go.Proofs.YtaancfhbmjkoaaaGreatDoor
