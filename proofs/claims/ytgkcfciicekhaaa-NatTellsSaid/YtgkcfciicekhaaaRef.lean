/- Contracts of the reference's functions: the document's answer for layer 1, by definition. -/
import Derived.Test.YtgkcfciicekhaaaApp
import Derived.Test.YtgkcfciicekhaaaEnv
namespace Go.Proofs.Ytgkcfciicekhaaa
open Go Go.RowKit

set_option maxHeartbeats 400000 in
theorem rlimb_any (w : World) (hi : Nat) (A : Option Addr) (n c N : Nat) (h : Rd w hi A n N) (k : Nat) :
    Calls Try.prog 30 #[.slice A n c, .int .i64 k] w fun e w' => e = .returned (.int .u64 (dig N k : Nat)) ∧ w = w' := by
  have hd := dig_lt N k
  by_cases hk : k < n
  · obtain ⟨ad, rfl, _, hc⟩ := h.at_ hk
    go_enter Try.func30, Try.ntmps30
    go_wp2
    go_ret
    exact ⟨rfl, rfl⟩
  · have h0 := Lib.hid (dig_ge h.1 (by omega : n ≤ k))
    clear hd
    go_enter Try.func30, Try.ntmps30
    go_wp2
    go_ret
    exact ⟨by rw [h0.out]; rfl, rfl⟩

theorem rTrim_end {w W' : World} {N m : Nat} {v' : Value} (hm : m = lenL N)
    (hown : W'.ownsRow w.heap.size 43 1 v' (0 + m) ([] ++ limbs N m)) (hg : (w.alloc (.cells #[] 43)).grownBy W' (some w.heap.size)) : Gives w N (.returned v') W' := by
  subst hm
  rw [Nat.zero_add, List.nil_append] at hown
  obtain ⟨A, c, rfl, h1, h2, h3⟩ := Fr.of_own hown (lt_pow_lenL N) (fun j hj => limbs_at hj)
  exact ⟨A, c, rfl, h1, h2, h3, ((Below.refl _ w).alloc (Nat.le_refl _) _).grown hg (by simp) (fun k e => by cases e; exact Nat.le_refl _)⟩

theorem limbs_read' {W : World} {A : Option Addr} {n N k : Nat} (h : Rd W W.heap.size A n N) (hk : k ≤ n) : ∀ j u, (limbs N k)[j]? = some u → ∃ ad : Addr, A = some ad ∧ (W.alloc (.cells #[] 43)).cell? (ad.add j) = some u := fun j u hu => by
  obtain ⟨hj, rfl⟩ := limbs_get hu
  obtain ⟨ad, e, hb, hc⟩ := (h.below (Below.alloc (Below.refl _ W) (Nat.le_refl _) (.cells #[] 43))).at_ (k := j) (by omega)
  exact ⟨ad, e, hc⟩

set_option maxHeartbeats 1000000 in
theorem rTrim_any (w : World) (A : Option Addr) (n c N : Nat) (h : Rd w w.heap.size A n N) (hn : n ≤ c) (hcm : c ≤ maxLen) (hb : n ≤ 35184372087808) :
    Calls Try.prog 18 #[.slice A n c] w (Gives w N) := by
  have hc : c ≤ 9223372036854775807 := by simpa [maxLen] using hcm
  obtain ⟨i0, hi, hz0, hz1, hz2⟩ := info_parts info_u32
  go_enter Try.func18, Try.ntmps18
  go_wp2
  go_loop [3] (fun i => ∃ k : Nat, k ≤ n ∧ i = .int .i64 k ∧ Hid (N < Bw ^ k)) (fun i => (intOf i).toNat)
  case atStart => exact ⟨n, Nat.le_refl _, rfl, Lib.hid h.1⟩
  case round =>
    obtain ⟨k, hk, rfl, hN⟩ := hrel
    rcases Nat.eq_zero_or_pos k with rfl | hpos
    · have h0 : N = 0 := by simpa using hN.out
      subst h0
      cases A with
      | none =>
        have hR := limbs_read' (k := 0) h (by omega)
        have HR := Lib.hid hR
        clear hR
        go_wp2_with (at_builtin; refine wpList_append_row _ rfl (.tmp 18) (.tmp 21) _ rfl w.heap.size 43 i0 (.int .u32 0) 4 Try.underlying23 hi hz0 hz1 hz2 rfl (.slice (some ⟨w.heap.size, 0, none⟩) 0 0) 0 [] rfl (World.ownsRow_lit w #[] 0 (Nat.le_refl _) (by simp) rfl) none 0 c (limbs 0 0) rfl (limbs_length _ _) HR.out limbs_one (by simp) (by omega) (by simp) ?_; intro v1 W1 hown1 hg1 _; have HE := Lib.hid (rTrim_end (by rfl) hown1 hg1); clear hown1 hg1)
        go_ret
        exact HE.out
      | some ad =>
        have hR := limbs_read' (k := 0) h (by omega)
        have HR := Lib.hid hR
        clear hR
        go_wp2_with (at_builtin; refine wpList_append_row _ rfl (.tmp 18) (.tmp 21) _ rfl w.heap.size 43 i0 (.int .u32 0) 4 Try.underlying23 hi hz0 hz1 hz2 rfl (.slice (some ⟨w.heap.size, 0, none⟩) 0 0) 0 [] rfl (World.ownsRow_lit w #[] 0 (Nat.le_refl _) (by simp) rfl) (some ad) 0 c (limbs 0 0) rfl (limbs_length _ _) HR.out limbs_one (by simp) (by omega) (by simp) ?_; intro v1 W1 hown1 hg1 _; have HE := Lib.hid (rTrim_end (by rfl) hown1 hg1); clear hown1 hg1)
        go_ret
        exact HE.out
    · obtain ⟨j, rfl⟩ : ∃ j, k = j + 1 := ⟨k - 1, by omega⟩
      obtain ⟨ad, rfl, _, hcell⟩ := h.at_ (k := j) (by omega)
      by_cases hd : dig N j = 0
      · rw [hd] at hcell
        go_wp2
        go_round
        case rel => exact ⟨j, by omega, by go_num, Lib.hid (lt_pow_pred hN.out hd)⟩
        case measure => simp [intOf]
      · have hb : ((dig N j : Int) == 0) = false := by rw [beq_eq_false_iff_ne]; omega
        have hlen := Lib.hid (lenL_eq hN.out hd)
        have hR := limbs_read' (k := j + 1) h hk
        have HR := Lib.hid hR
        clear hd hR
        go_wp2_with (at_builtin; refine wpList_append_row _ rfl (.tmp 18) (.tmp 21) _ rfl w.heap.size 43 i0 (.int .u32 0) 4 Try.underlying23 hi hz0 hz1 hz2 rfl (.slice (some ⟨w.heap.size, 0, none⟩) 0 0) 0 [] rfl (World.ownsRow_lit w #[] 0 (Nat.le_refl _) (by simp) rfl) (some ad) (j + 1) c (limbs N (j + 1)) rfl (limbs_length _ _) HR.out limbs_one (by simp only [maxLen]; omega) (by omega) (by simp) ?_; intro v1 W1 hown1 hg1 _; have HE := Lib.hid (rTrim_end hlen.out.symm hown1 hg1); clear hown1 hg1)
        go_ret
        exact HE.out

set_option maxHeartbeats 400000 in
theorem rOf_any (w : World) (N : Nat) (h : N < 18446744073709551616) :
    Calls Try.prog 20 #[.int .u64 N] w (Gives w N) := by
  have H := Lib.hid (dig_of_u64 h)
  go_enter Try.func20, Try.ntmps20
  go_wp2_with fail
  have hF : Fr (w.alloc (Obj.cells #[Value.int IntKind.u32 (↑N % 4294967296), Value.int IntKind.u32 (↑N / 4294967296)] 43)) w.heap.size (w.heap.size + 1) (some ⟨w.heap.size, 0, none⟩) 2 N :=
    Fr.lit (Nat.le_refl _) H.out.1 H.out.2
  refine (rTrim_any _ _ 2 2 N (by simpa using hF.rd) (by omega) (by simp [maxLen]) (by omega)).mono ?_
  intro e w' hgv
  obtain ⟨A, c, rfl, h1, h2, h3, h4⟩ := hgv.alloc
  go_wp2
  go_ret
  exact ⟨A, c, rfl, h1, h2, h3, h4⟩

/-- A count downwards: at -1 it is over; at place j, j + 1 are left. -/
def DownAt (P : Nat → Prop) (v : Value) : Prop := (v = .int .i64 (-1) ∧ P 0) ∨ ∃ j : Nat, j ≤ 9223372036854775805 ∧ v = .int .i64 j ∧ P (j + 1)
theorem downAt {P : Nat → Prop} (n : Nat) (hn : n ≤ 9223372036854775806) (h : P n) : DownAt P (.int .i64 ((n : Int) - 1)) := by
  rcases n with _ | n
  · exact .inl ⟨rfl, h⟩
  · exact .inr ⟨n, by omega, by simp, h⟩

set_option maxHeartbeats 1000000 in
theorem rCmp_any (w : World) (hi hi' : Nat) (A A' : Option Addr) (n n' c c' N N' : Nat) (hA : Rd w hi A n N) (hA' : Rd w hi' A' n' N') (hn : n ≤ 9223372036854775806) (hn' : n' ≤ 9223372036854775806) :
    Calls Try.prog 16 #[.slice A n c, .slice A' n' c'] w fun e w' => e = .returned (.int .i64 (cmpN N N')) ∧ w = w' := by
  have hmx : ∀ j, max n n' ≤ j → dig N j = dig N' j := fun j hj => by rw [dig_ge hA.1 (by omega), dig_ge hA'.1 (by omega)]
  have HX := Lib.hid hmx
  have HB := Lib.hid hA.1
  have HB' := Lib.hid hA'.1
  have hm2 : max n n' ≤ 9223372036854775806 := by omega
  clear hmx
  go_enter Try.func16, Try.ntmps16
  go_wp2
  all_goals
    go_loop [5] (fun i => DownAt (fun s => Hid (∀ j, s ≤ j → dig N j = dig N' j)) i) (fun i => (intOf i + 1).toNat)
    case atStart =>
      first
      | exact downAt n' hn' (Lib.hid fun j hj => HX.out j (by omega))
      | exact downAt n hn (Lib.hid fun j hj => HX.out j (by omega))
    case round =>
      rcases hrel with ⟨rfl, hP⟩ | ⟨j, hj, rfl, hP⟩
      · have HN := Lib.hid (eq_of_digs2 HB.out HB'.out (fun j => hP.out j (Nat.zero_le _)))
        go_wp2
        go_ret
        exact ⟨by rw [← HN.out, cmpN_eq]; rfl, rfl⟩
      · have e1 := rlimb_any w hi A n c N hA j
        have e2 := rlimb_any w hi' A' n' c' N' hA' j
        have h1 := dig_lt N j
        have h2 := dig_lt N' j
        have E1 := Lib.hid e1
        have E2 := Lib.hid e2
        clear e1 e2
        rcases Nat.lt_trichotomy (dig N j) (dig N' j) with hlt | heq | hgt
        · have HN := Lib.hid (cmpN_lt (lt_of_digs2 HB.out HB'.out (fun i hi => hP.out i (by omega)) hlt))
          go_wp2_with (first
            | (go_at_call 30; (with_reducible refine E1.out.mono ?_); rintro e w' ⟨rfl, rfl⟩)
            | (go_at_call 30; (with_reducible refine E2.out.mono ?_); rintro e w' ⟨rfl, rfl⟩))
          go_ret
          exact ⟨by rw [HN.out]; rfl, rfl⟩
        · have HE := Lib.hid heq
          rw [heq] at E1
          clear heq h1
          go_wp2_with (first
            | (go_at_call 30; (with_reducible refine E1.out.mono ?_); rintro e w' ⟨rfl, rfl⟩)
            | (go_at_call 30; (with_reducible refine E2.out.mono ?_); rintro e w' ⟨rfl, rfl⟩))
          go_round
          case rel => exact downAt j (by omega) (Lib.hid fun i hi => by
            rcases Nat.lt_or_ge j i with h1 | h1
            · exact hP.out i (by omega)
            · obtain rfl : i = j := by omega
              exact HE.out)
          case measure => simp [intOf]
        · have HN := Lib.hid (cmpN_gt (lt_of_digs2 HB'.out HB.out (fun i hi => (hP.out i (by omega)).symm) hgt))
          go_wp2_with (first
            | (go_at_call 30; (with_reducible refine E1.out.mono ?_); rintro e w' ⟨rfl, rfl⟩)
            | (go_at_call 30; (with_reducible refine E2.out.mono ?_); rintro e w' ⟨rfl, rfl⟩))
          go_ret
          exact ⟨by rw [HN.out]; rfl, rfl⟩

/-- What is left of N above its first s limbs. -/
def hiN (N s : Nat) : Nat := N / Bw ^ s
theorem hiN_zero (N : Nat) : hiN N 0 = N := by simp [hiN]
theorem hiN_top (N : Nat) : hiN N (lenL N) = 0 := Nat.div_eq_of_lt (lt_pow_lenL N)
theorem hiN_le (N s : Nat) : hiN N s ≤ N := Nat.div_le_self _ _
theorem shift_in {N j : Nat} : hiN N (j + 1) * 4294967296 + dig N j = hiN N j := by
  unfold dig hiN
  rw [Nat.pow_succ, ← Nat.div_div_eq_div_mul, ← Bw_eq, Nat.mul_comm]
  exact Nat.div_add_mod _ _

set_option maxHeartbeats 1000000 in
theorem rSmall_no (w : World) (A : Option Addr) (n c N : Nat) (h : Rd w w.heap.size A n N) (hn : n ≤ c) (hcm : c ≤ maxLen) (hb : n ≤ 35184372087808) (hN : ¬ N < 18446744073709551616) :
    Calls Try.prog 11 #[.slice A n c] w fun e w' => e = .returned (.tuple #[.int .u64 0, .bool false]) ∧ Below w.heap.size w w' := by
  have h2 : 2 < lenL N := by rw [← lenL_small] at hN; omega
  have hl := lenL_le.2 h.1
  clear hN
  go_enter Try.func11, Try.ntmps11
  go_wp2_with fail
  refine (rTrim_any w A n c N h hn hcm hb).mono ?_
  rintro e w' ⟨A1, c1, rfl, g1, g2, hF, hBl⟩
  go_wp2
  go_ret2
  exact ⟨rfl, hBl⟩

set_option maxHeartbeats 1000000 in
theorem rSmall_yes (w : World) (A : Option Addr) (n c N : Nat) (h : Rd w w.heap.size A n N) (hn : n ≤ c) (hcm : c ≤ maxLen) (hb : n ≤ 35184372087808) (hN : N < 18446744073709551616) :
    Calls Try.prog 11 #[.slice A n c] w fun e w' => e = .returned (.tuple #[.int .u64 N, .bool true]) ∧ Below w.heap.size w w' := by
  have h2 : lenL N ≤ 2 := lenL_small.2 hN
  have hl := lenL_le.2 h.1
  have HN := Lib.hid hN
  clear hN
  go_enter Try.func11, Try.ntmps11
  go_wp2_with fail
  refine (rTrim_any w A n c N h hn hcm hb).mono ?_
  rintro e w' ⟨A1, c1, rfl, g1, g2, hF, hBl⟩
  go_wp2
  go_loop [5, 6] (fun v i => ∃ s : Nat, s ≤ lenL N ∧ v = .int .u64 (hiN N s : Nat) ∧ DownAt (fun s' => s' = s) i) (fun _ i => (intOf i + 1).toNat)
  case atStart => exact ⟨lenL N, Nat.le_refl _, by rw [hiN_top]; rfl, downAt (lenL N) (by omega) rfl⟩
  case round =>
    obtain ⟨s, hs, rfl, hD⟩ := hrel
    rcases hD with ⟨rfl, h0⟩ | ⟨j, hj, rfl, h0⟩
    · have H0 := Lib.hid (show hiN N s = N by rw [← h0]; exact hiN_zero N)
      clear h0
      go_wp2
      go_ret2
      exact ⟨by rw [H0.out]; rfl, hBl⟩
    · subst h0
      obtain ⟨ad, rfl, _, hc⟩ := hF.rd.at_ (k := j) (by omega)
      have hsh := shift_in (N := N) (j := j)
      have hle := hiN_le N j
      have hd := dig_lt N j
      obtain ⟨q, hq⟩ : ∃ q, hiN N (j + 1) = q := ⟨_, rfl⟩
      have hN' := HN.out
      rw [hq] at hsh ⊢
      have hqb : q < 4294967296 := by omega
      have hqd : q * 4294967296 + dig N j < 18446744073709551616 := by omega
      have HSh := Lib.hid hsh
      clear hsh hq hle hN'
      go_wp2
      go_round
      case rel => exact ⟨j, by omega, by rw [← HSh.out]; go_num, downAt j (by omega) rfl⟩
      case measure => simp [intOf]
end Go.Proofs.Ytgkcfciicekhaaa
