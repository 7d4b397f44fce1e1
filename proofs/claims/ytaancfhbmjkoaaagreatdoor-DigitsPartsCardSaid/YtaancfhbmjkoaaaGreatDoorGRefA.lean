/- Contract of the reference's Trim of layer 1. -/
import Derived.Test.YtaancfhbmjkoaaaGreatDoorGNum
namespace Go.Proofs.YtaancfhbmjkoaaaGreatDoor
open Go Go.RowKit

set_option maxHeartbeats 1000000 in
theorem rTrim_any (w : World) (A : Option Addr) (n c N : Nat) (h : Rd w w.heap.size A n N) (hn : n ≤ c) (hcm : c ≤ maxLen) (hb : n ≤ 35184372087808) :
    Calls Tryz.prog 25 #[.slice A n c] w (Gives w N) := by
  have hc : c ≤ 9223372036854775807 := by simpa [maxLen] using hcm
  obtain ⟨i0, hi, hz0, hz1, hz2⟩ := info_parts info_u32
  go_enter Tryz.func25, Tryz.ntmps25
  go_wp2
  go_loop [3] (fun i => ∃ k : Nat, k ≤ n ∧ i = .int .i64 k ∧ Hid (N < Bw ^ k)) (fun i => (intOf i).toNat)
  case atStart => exact ⟨n, Nat.le_refl _, rfl, Lib.hid h.1⟩
  case round =>
    obtain ⟨k, hk, rfl, hN⟩ := hrel
    rcases Nat.eq_zero_or_pos k with rfl | hpos
    · have h0 : N = 0 := by simpa using hN.out
      subst h0
      cases A with
      | none =>
        have hR := limbs_read' (k := 0) h (by omega)
        have HR := Lib.hid hR
        clear hR
        go_wp2_with (at_builtin; refine wpList_append_row _ rfl (.tmp 18) (.tmp 21) _ rfl w.heap.size 47 i0 (.int .u32 0) 4 Tryz.underlying23 hi hz0 hz1 hz2 rfl (.slice (some ⟨w.heap.size, 0, none⟩) 0 0) 0 [] rfl (World.ownsRow_lit w #[] 0 (Nat.le_refl _) (by simp) rfl) none 0 c (limbs 0 0) rfl (limbs_length _ _) HR.out limbs_one (by simp) (by omega) (by simp) ?_; intro v1 W1 hown1 hg1 _; have HE := Lib.hid (rTrim_end (by rfl) hown1 hg1); clear hown1 hg1)
        go_ret
        exact HE.out
      | some ad =>
        have hR := limbs_read' (k := 0) h (by omega)
        have HR := Lib.hid hR
        clear hR
        go_wp2_with (at_builtin; refine wpList_append_row _ rfl (.tmp 18) (.tmp 21) _ rfl w.heap.size 47 i0 (.int .u32 0) 4 Tryz.underlying23 hi hz0 hz1 hz2 rfl (.slice (some ⟨w.heap.size, 0, none⟩) 0 0) 0 [] rfl (World.ownsRow_lit w #[] 0 (Nat.le_refl _) (by simp) rfl) (some ad) 0 c (limbs 0 0) rfl (limbs_length _ _) HR.out limbs_one (by simp) (by omega) (by simp) ?_; intro v1 W1 hown1 hg1 _; have HE := Lib.hid (rTrim_end (by rfl) hown1 hg1); clear hown1 hg1)
        go_ret
        exact HE.out
    · obtain ⟨j, rfl⟩ : ∃ j, k = j + 1 := ⟨k - 1, by omega⟩
      obtain ⟨ad, rfl, _, hcell⟩ := h.at_ (k := j) (by omega)
      by_cases hd : dig N j = 0
      · rw [hd] at hcell
        go_wp2
        go_round
        case rel => exact ⟨j, by omega, by go_num, Lib.hid (lt_pow_pred hN.out hd)⟩
        case measure => simp [intOf]
      · have hb : ((dig N j : Int) == 0) = false := by rw [beq_eq_false_iff_ne]; omega
        have hlen := Lib.hid (lenL_eq hN.out hd)
        have hR := limbs_read' (k := j + 1) h hk
        have HR := Lib.hid hR
        clear hd hR
        go_wp2_with (at_builtin; refine wpList_append_row _ rfl (.tmp 18) (.tmp 21) _ rfl w.heap.size 47 i0 (.int .u32 0) 4 Tryz.underlying23 hi hz0 hz1 hz2 rfl (.slice (some ⟨w.heap.size, 0, none⟩) 0 0) 0 [] rfl (World.ownsRow_lit w #[] 0 (Nat.le_refl _) (by simp) rfl) (some ad) (j + 1) c (limbs N (j + 1)) rfl (limbs_length _ _) HR.out limbs_one (by simp only [maxLen]; omega) (by omega) (by simp) ?_; intro v1 W1 hown1 hg1 _; have HE := Lib.hid (rTrim_end hlen.out.symm hown1 hg1); clear hown1 hg1)
        go_ret
        exact HE.out

theorem own_trim {w w1 : World} {v : Value} {n N : Nat} (hb : Below w.heap.size w w1) (hown : w1.ownsRow w.heap.size 47 1 v n (limbs N n)) (hN : N < Bw ^ n) (hn : n ≤ 35184372087808) :
    Calls Tryz.prog 25 #[v] w1 (Gives w N) := by
  obtain ⟨A, c, rfl, h1, h2, h3⟩ := Fr.of_own hown hN (fun j hj => limbs_at hj)
  exact (rTrim_any w1 A n c N h3.rd h1 h2 hn).mono fun _ _ h => h.later hb

section
variable {w W : World} {e : List Num} {x : Num}
theorem rTrim_E (h : Env w e W) (hx : x ∈ e) : Calls Tryz.prog 25 #[.slice x.A x.n x.c] W (Back w e W.heap.size x.N (fun r => .slice r.A r.n r.c)) := by
  obtain ⟨h1, h2, h3, h4⟩ := h.2 x hx
  exact (rTrim_any W _ _ _ _ h1 h2 h3 h4).mono fun _ _ hg => back_of_gives h hg (Nat.le_trans (lenL_le.2 h1.1) h4)

end
end Go.Proofs.YtaancfhbmjkoaaaGreatDoor

/- Contract of the reference's limb of layer 1. -/
namespace Go.Proofs.YtaancfhbmjkoaaaGreatDoor
open Go Go.RowKit

set_option maxHeartbeats 400000 in
theorem rlimb_any (w : World) (hi : Nat) (A : Option Addr) (n c N : Nat) (h : Rd w hi A n N) (k : Nat) :
    Calls Tryz.prog 40 #[.slice A n c, .int .i64 k] w fun e w' => e = .returned (.int .u64 (dig N k : Nat)) ∧ w = w' := by
  have hd := dig_lt N k
  by_cases hk : k < n
  · obtain ⟨ad, rfl, _, hc⟩ := h.at_ hk
    go_enter Tryz.func40, Tryz.ntmps40
    go_wp2
    go_ret
    exact ⟨rfl, rfl⟩
  · have h0 := Lib.hid (dig_ge h.1 (by omega : n ≤ k))
    clear hd
    go_enter Tryz.func40, Tryz.ntmps40
    go_wp2
    go_ret
    exact ⟨by rw [h0.out]; rfl, rfl⟩
end Go.Proofs.YtaancfhbmjkoaaaGreatDoor

/- Contract of the reference's Cmp of layer 1. -/
namespace Go.Proofs.YtaancfhbmjkoaaaGreatDoor
open Go Go.RowKit

set_option maxHeartbeats 1000000 in
theorem rCmp_any (w : World) (hi hi' : Nat) (A A' : Option Addr) (n n' c c' N N' : Nat) (hA : Rd w hi A n N) (hA' : Rd w hi' A' n' N') (hn : n ≤ 9223372036854775806) (hn' : n' ≤ 9223372036854775806) :
    Calls Tryz.prog 26 #[.slice A n c, .slice A' n' c'] w fun e w' => e = .returned (.int .i64 (cmpN N N')) ∧ w = w' := by
  have hmx : ∀ j, max n n' ≤ j → dig N j = dig N' j := fun j hj => by rw [dig_ge hA.1 (by omega), dig_ge hA'.1 (by omega)]
  have HX := Lib.hid hmx
  have HB := Lib.hid hA.1
  have HB' := Lib.hid hA'.1
  have hm2 : max n n' ≤ 9223372036854775806 := by omega
  clear hmx
  go_enter Tryz.func26, Tryz.ntmps26
  go_wp2
  all_goals
    go_loop [5] (fun i => DownAt (fun s => Hid (∀ j, s ≤ j → dig N j = dig N' j)) i) (fun i => (intOf i + 1).toNat)
    case atStart =>
      first
      | exact downAt n' hn' (Lib.hid fun j hj => HX.out j (by omega))
      | exact downAt n hn (Lib.hid fun j hj => HX.out j (by omega))
    case round =>
      rcases hrel with ⟨rfl, hP⟩ | ⟨j, hj, rfl, hP⟩
      · have HN := Lib.hid (eq_of_digs2 HB.out HB'.out (fun j => hP.out j (Nat.zero_le _)))
        go_wp2
        go_ret
        exact ⟨by rw [← HN.out, cmpN_eq]; rfl, rfl⟩
      · have e1 := rlimb_any w hi A n c N hA j
        have e2 := rlimb_any w hi' A' n' c' N' hA' j
        have h1 := dig_lt N j
        have h2 := dig_lt N' j
        have E1 := Lib.hid e1
        have E2 := Lib.hid e2
        clear e1 e2
        rcases Nat.lt_trichotomy (dig N j) (dig N' j) with hlt | heq | hgt
        · have HN := Lib.hid (cmpN_lt (lt_of_digs2 HB.out HB'.out (fun i hi => hP.out i (by omega)) hlt))
          go_wp2_with (first
            | (go_at_call 40; (with_reducible refine E1.out.mono ?_); rintro e w' ⟨rfl, rfl⟩)
            | (go_at_call 40; (with_reducible refine E2.out.mono ?_); rintro e w' ⟨rfl, rfl⟩))
          go_ret
          exact ⟨by rw [HN.out]; rfl, rfl⟩
        · have HE := Lib.hid heq
          rw [heq] at E1
          clear heq h1
          go_wp2_with (first
            | (go_at_call 40; (with_reducible refine E1.out.mono ?_); rintro e w' ⟨rfl, rfl⟩)
            | (go_at_call 40; (with_reducible refine E2.out.mono ?_); rintro e w' ⟨rfl, rfl⟩))
          go_round
          case rel => exact downAt j (by omega) (Lib.hid fun i hi => by
            rcases Nat.lt_or_ge j i with h1 | h1
            · exact hP.out i (by omega)
            · obtain rfl : i = j := by omega
              exact HE.out)
          case measure => simp [intOf]
        · have HN := Lib.hid (cmpN_gt (lt_of_digs2 HB'.out HB.out (fun i hi => (hP.out i (by omega)).symm) hgt))
          go_wp2_with (first
            | (go_at_call 40; (with_reducible refine E1.out.mono ?_); rintro e w' ⟨rfl, rfl⟩)
            | (go_at_call 40; (with_reducible refine E2.out.mono ?_); rintro e w' ⟨rfl, rfl⟩))
          go_ret
          exact ⟨by rw [HN.out]; rfl, rfl⟩

section
variable {w W : World} {e : List Num} {x y : Num}
theorem rCmp_E (h : Env w e W) (hx : x ∈ e) (hy : y ∈ e) :
    Calls Tryz.prog 26 #[.slice x.A x.n x.c, .slice y.A y.n y.c] W fun e' W' => e' = .returned (.int .i64 (cmpN x.N y.N)) ∧ Env w e W' :=
  (rCmp_any W _ _ _ _ _ _ _ _ _ _ (h.2 x hx).1 (h.2 y hy).1 (big (h.2 x hx).2.2.2) (big (h.2 y hy).2.2.2)).mono fun _ _ ⟨he, hb⟩ => ⟨he, by rw [← hb]; exact h⟩

end
end Go.Proofs.YtaancfhbmjkoaaaGreatDoor

/- Contract of the reference's sum of two of layer 1. -/
namespace Go.Proofs.YtaancfhbmjkoaaaGreatDoor
open Go Go.RowKit

set_option maxRecDepth 100000 in
set_option maxHeartbeats 2000000 in
theorem two_lt (w : World) (A A' : Option Addr) (n n' c c' N M : Nat) (hx : Rd w w.heap.size A n N) (hy : Rd w w.heap.size A' n' M) (hb : n' ≤ 100000) (hnn : n < n') :
    Calls Tryz.prog 41 #[.slice A n c, .slice A' n' c'] w (Gives w (N + M)) := by
  obtain ⟨i0, hi, hz0, hz1, hz2⟩ := info_parts info_u32
  have HX := Lib.hid hx.1
  have HY := Lib.hid hy.1
  go_enter Tryz.func41, Tryz.ntmps41
  go_wp2
  go_loopw [5, 6, 7] (fun ov cy i wr => ∃ k : Nat, k ≤ n' ∧ i = .int .i64 k ∧ cy = .int .u64 (car N M k : Nat) ∧ wr.ownsRow w.heap.size 47 1 ov k (limbs (N + M) k) ∧ Below w.heap.size w wr) (fun _ _ i _ => n' - (intOf i).toNat)
  case atStart => exact ⟨0, Nat.zero_le _, rfl, by rw [car_zero]; rfl, World.ownsRow_nil _ _ _ _, Below.refl _ _⟩
  case round =>
    rename_i ov
    obtain ⟨k, hk, rfl, rfl, hown, hB⟩ := hrel
    have hsz := hB.size
    have hcl := car_le N M k
    by_cases hlt : k < n'
    · have E1 := Lib.hid (rlimb_any wr w.heap.size A n c N (hx.below hB) k)
      have E2 := Lib.hid (rlimb_any wr w.heap.size A' n' c' M (hy.below hB) k)
      have h1 := dig_lt N k
      have h2 := dig_lt M k
      have hdc := dig_car N M k
      have h3 := dig_lt (N + M) k
      have HV1 := Lib.hid (show Value.int .u32 (((dig N k : Int) + (dig M k : Int) + (car N M k : Int)) % 4294967296) = .int .u32 (dig (N + M) k : Nat) by congr 1; omega)
      have HV2 := Lib.hid (show ((dig N k : Int) + (dig M k : Int) + (car N M k : Int)) / 4294967296 = (car N M (k + 1) : Nat) by omega)
      have HO := Lib.hid hown
      clear hdc h3 hown
      go_wp2_with (first
        | (go_at_call 40; (with_reducible refine E1.out.mono ?_); rintro e w' ⟨rfl, rfl⟩)
        | (go_at_call 40; (with_reducible refine E2.out.mono ?_); rintro e w' ⟨rfl, rfl⟩)
        | (at_builtin; refine wpList_append_row _ rfl (.tmp 27) (.tmp 30) _ rfl w.heap.size 47 i0 (.int .u32 0) 4 Tryz.underlying23 hi hz0 hz1 hz2 rfl _ k (limbs (N + M) k) rfl (HO.out.alloc _) (some ⟨wr.heap.size, 0, none⟩) 1 1 [.int .u32 (((dig N k : Int) + (dig M k : Int) + (car N M k : Int)) % 4294967296)] rfl rfl (one_read _ _ _) (oneCell_u32 _) (by simp only [maxLen]; omega) (by omega) (by simp; omega) ?_; intro v' w1 hown' hg' _; have HS := Lib.hid (own_step hB HO.out HV1.out hown' hg'); clear hown' hg'))
      go_roundw
      case rel => exact ⟨k + 1, by omega, by go_num, by rw [HV2.out], HS.out.1, HS.out.2⟩
      case measure => simp [intOf]; omega
    · obtain rfl : k = n' := by omega
      have HO := Lib.hid hown
      have HV1 := Lib.hid (show Value.int .u32 (car N M k : Nat) = .int .u32 (dig (N + M) k : Nat) by
        rw [dig_add, dig_ge (lt_pow_of HX.out (m := k) (by omega)) (Nat.le_refl _), dig_ge (lt_pow_of HY.out (m := k) (by omega)) (Nat.le_refl _), Nat.zero_add, Nat.mod_eq_of_lt (by rw [Bw_eq]; omega)])
      have hS := Lib.hid (lenL_le.1 (lenL_add (lt_pow_of HX.out (m := k) (by omega)) (lt_pow_of HY.out (m := k) (by omega))))
      clear hown
      go_wp2_with (at_builtin; refine wpList_append_row _ rfl (.tmp 34) (.tmp 37) _ rfl w.heap.size 47 i0 (.int .u32 0) 4 Tryz.underlying23 hi hz0 hz1 hz2 rfl _ k (limbs (N + M) k) rfl (HO.out.alloc _) (some ⟨wr.heap.size, 0, none⟩) 1 1 [.int .u32 (car N M k : Nat)] rfl rfl (one_read _ _ _) (oneCell_u32 _) (by simp only [maxLen]; omega) (by omega) (by simp; omega) ?_; intro v' w1 hown' hg' _; have HS := Lib.hid (own_step hB HO.out HV1.out hown' hg'); clear hown' hg')
      refine (own_trim HS.out.2 HS.out.1 hS.out (by omega)).mono ?_
      intro e w2 hgv
      obtain ⟨A2, c2, rfl, g1, g2, g3, g4⟩ := hgv
      go_wp2
      go_ret
      exact ⟨A2, c2, rfl, g1, g2, g3, g4⟩

set_option maxRecDepth 100000 in
set_option maxHeartbeats 2000000 in
theorem two_ge (w : World) (A A' : Option Addr) (n n' c c' N M : Nat) (hx : Rd w w.heap.size A n N) (hy : Rd w w.heap.size A' n' M) (hb : n ≤ 100000) (hnn : n' ≤ n) :
    Calls Tryz.prog 41 #[.slice A n c, .slice A' n' c'] w (Gives w (N + M)) := by
  obtain ⟨i0, hi, hz0, hz1, hz2⟩ := info_parts info_u32
  have HX := Lib.hid hx.1
  have HY := Lib.hid hy.1
  go_enter Tryz.func41, Tryz.ntmps41
  go_wp2
  go_loopw [5, 6, 7] (fun ov cy i wr => ∃ k : Nat, k ≤ n ∧ i = .int .i64 k ∧ cy = .int .u64 (car N M k : Nat) ∧ wr.ownsRow w.heap.size 47 1 ov k (limbs (N + M) k) ∧ Below w.heap.size w wr) (fun _ _ i _ => n - (intOf i).toNat)
  case atStart => exact ⟨0, Nat.zero_le _, rfl, by rw [car_zero]; rfl, World.ownsRow_nil _ _ _ _, Below.refl _ _⟩
  case round =>
    rename_i ov
    obtain ⟨k, hk, rfl, rfl, hown, hB⟩ := hrel
    have hsz := hB.size
    have hcl := car_le N M k
    by_cases hlt : k < n
    · have E1 := Lib.hid (rlimb_any wr w.heap.size A n c N (hx.below hB) k)
      have E2 := Lib.hid (rlimb_any wr w.heap.size A' n' c' M (hy.below hB) k)
      have h1 := dig_lt N k
      have h2 := dig_lt M k
      have hdc := dig_car N M k
      have h3 := dig_lt (N + M) k
      have HV1 := Lib.hid (show Value.int .u32 (((dig N k : Int) + (dig M k : Int) + (car N M k : Int)) % 4294967296) = .int .u32 (dig (N + M) k : Nat) by congr 1; omega)
      have HV2 := Lib.hid (show ((dig N k : Int) + (dig M k : Int) + (car N M k : Int)) / 4294967296 = (car N M (k + 1) : Nat) by omega)
      have HO := Lib.hid hown
      clear hdc h3 hown
      go_wp2_with (first
        | (go_at_call 40; (with_reducible refine E1.out.mono ?_); rintro e w' ⟨rfl, rfl⟩)
        | (go_at_call 40; (with_reducible refine E2.out.mono ?_); rintro e w' ⟨rfl, rfl⟩)
        | (at_builtin; refine wpList_append_row _ rfl (.tmp 27) (.tmp 30) _ rfl w.heap.size 47 i0 (.int .u32 0) 4 Tryz.underlying23 hi hz0 hz1 hz2 rfl _ k (limbs (N + M) k) rfl (HO.out.alloc _) (some ⟨wr.heap.size, 0, none⟩) 1 1 [.int .u32 (((dig N k : Int) + (dig M k : Int) + (car N M k : Int)) % 4294967296)] rfl rfl (one_read _ _ _) (oneCell_u32 _) (by simp only [maxLen]; omega) (by omega) (by simp; omega) ?_; intro v' w1 hown' hg' _; have HS := Lib.hid (own_step hB HO.out HV1.out hown' hg'); clear hown' hg'))
      go_roundw
      case rel => exact ⟨k + 1, by omega, by go_num, by rw [HV2.out], HS.out.1, HS.out.2⟩
      case measure => simp [intOf]; omega
    · obtain rfl : k = n := by omega
      have HO := Lib.hid hown
      have HV1 := Lib.hid (show Value.int .u32 (car N M k : Nat) = .int .u32 (dig (N + M) k : Nat) by
        rw [dig_add, dig_ge (lt_pow_of HX.out (m := k) (by omega)) (Nat.le_refl _), dig_ge (lt_pow_of HY.out (m := k) (by omega)) (Nat.le_refl _), Nat.zero_add, Nat.mod_eq_of_lt (by rw [Bw_eq]; omega)])
      have hS := Lib.hid (lenL_le.1 (lenL_add (lt_pow_of HX.out (m := k) (by omega)) (lt_pow_of HY.out (m := k) (by omega))))
      clear hown
      go_wp2_with (at_builtin; refine wpList_append_row _ rfl (.tmp 34) (.tmp 37) _ rfl w.heap.size 47 i0 (.int .u32 0) 4 Tryz.underlying23 hi hz0 hz1 hz2 rfl _ k (limbs (N + M) k) rfl (HO.out.alloc _) (some ⟨wr.heap.size, 0, none⟩) 1 1 [.int .u32 (car N M k : Nat)] rfl rfl (one_read _ _ _) (oneCell_u32 _) (by simp only [maxLen]; omega) (by omega) (by simp; omega) ?_; intro v' w1 hown' hg' _; have HS := Lib.hid (own_step hB HO.out HV1.out hown' hg'); clear hown' hg')
      refine (own_trim HS.out.2 HS.out.1 hS.out (by omega)).mono ?_
      intro e w2 hgv
      obtain ⟨A2, c2, rfl, g1, g2, g3, g4⟩ := hgv
      go_wp2
      go_ret
      exact ⟨A2, c2, rfl, g1, g2, g3, g4⟩

theorem two_any (w : World) (A A' : Option Addr) (n n' c c' N M : Nat) (hx : Rd w w.heap.size A n N) (hy : Rd w w.heap.size A' n' M) (hb : n ≤ 100000) (hb' : n' ≤ 100000) :
    Calls Tryz.prog 41 #[.slice A n c, .slice A' n' c'] w (Gives w (N + M)) := by
  rcases Nat.lt_or_ge n n' with h | h
  · exact two_lt w A A' n n' c c' N M hx hy hb' h
  · exact two_ge w A A' n n' c c' N M hx hy hb h
end Go.Proofs.YtaancfhbmjkoaaaGreatDoor

/- Contract of the reference's Add of layer 1. -/
namespace Go.Proofs.YtaancfhbmjkoaaaGreatDoor
open Go Go.RowKit

set_option maxRecDepth 100000 in
set_option maxHeartbeats 1000000 in
theorem rAdd_any (w : World) (A : Option Addr) (c : Nat) (l : List Num) (h : Rds w w.heap.size A l) (hl : l.length ≤ 100000000000000) (hb : ∀ x ∈ l, x.n ≤ 1000) (hs : lenL (sumN l) ≤ 1000) :
    Calls Tryz.prog 28 #[.slice A l.length c] w (Gives w (sumN l)) := by
  have HS := Lib.hid hs
  clear hs
  go_enter Tryz.func28, Tryz.ntmps28
  go_wp2
  go_loopw [3, 4] (fun ov i wr => ∃ k : Nat, k ≤ l.length ∧ i = .int .i64 k ∧ Below w.heap.size w wr ∧ ∃ r : Num, ov = .slice r.A r.n r.c ∧ r.n ≤ 1000 ∧ Hid (r.N = sumAt l k) ∧ Hid (r.ok wr wr.heap.size)) (fun _ i _ => l.length - (intOf i).toNat)
  case atStart => exact ⟨0, Nat.zero_le _, rfl, Below.refl _ _, ⟨none, 0, 0, 0⟩, rfl, Nat.zero_le _, Lib.hid rfl, Lib.hid ⟨Rd.none_, Nat.le_refl _, Nat.zero_le _, Nat.zero_le _⟩⟩
  case round =>
    obtain ⟨k, hk, rfl, hB, ⟨RA, Rn, Rc, RN⟩, rfl, hrn, hrN, hro⟩ := hrel
    have hrn' : Rn ≤ 1000 := hrn
    by_cases hlt : k < l.length
    · obtain ⟨⟨ad, rfl, hadb, hc⟩, hr, hr1, hr2, hr3⟩ := (h.below hB) k hlt
      have HN := Lib.hid (show RN + l[k].N = sumAt l (k + 1) by rw [sumAt_succ hlt]; have := hrN.out; simp only at this; omega)
      have hln := hb _ (List.getElem_mem hlt)
      have E := Lib.hid (two_any wr RA l[k].A Rn l[k].n Rc l[k].c RN l[k].N hro.out.1 (hr.more hB.size) (by omega) (by omega))
      have HL := Lib.hid (show lenL (sumAt l (k + 1)) ≤ 1000 from Nat.le_trans (lenL_mono (sumAt_le l _)) HS.out)
      clear hr hr1 hr2 hr3
      go_wp2_with fail
      refine E.out.mono ?_
      rw [HN.out]
      rintro e w' ⟨A2, c2, rfl, g1, g2, g3, g4⟩
      have hG := Lib.hid (g3.ok g1 g2 (by have := HL.out; omega))
      have hB' := hB.trans (g4.mono hB.size)
      clear g1 g2 g3 g4
      go_wp2
      go_roundw
      case rel => exact ⟨k + 1, by omega, by go_num, hB', ⟨A2, _, c2, sumAt l (k + 1)⟩, rfl, HL.out, Lib.hid rfl, hG⟩
      case measure => simp [intOf]; omega
    · obtain rfl : k = l.length := by omega
      have HN := Lib.hid (show RN = sumN l by have := hrN.out; rw [sumAt_all] at this; exact this)
      have E := Lib.hid (rTrim_any wr RA Rn Rc RN hro.out.1 hro.out.2.1 hro.out.2.2.1 hro.out.2.2.2)
      go_wp2_with fail
      refine E.out.mono ?_
      rw [HN.out]
      intro e w2 hg
      obtain ⟨A2, c2, rfl, g1, g2, g3, g4⟩ := hg.later hB
      go_wp2
      go_ret
      exact ⟨A2, c2, rfl, g1, g2, g3, g4⟩
end Go.Proofs.YtaancfhbmjkoaaaGreatDoor

/- The reference's sum of two numbers, over numbers at hand. -/
namespace Go.Proofs.YtaancfhbmjkoaaaGreatDoor
open Go Go.RowKit

section
variable {w W : World} {e : List Num} {x y z : Num}
theorem rAdd2_E {g : Nat} (h : Env w e W) (hx : x ∈ e) (hy : y ∈ e) (hg : W.heap.size = g) (bx : x.n ≤ 900) (by' : y.n ≤ 900) :
    Calls Tryz.prog 28 #[.slice (some ⟨g, 0, none⟩) 2 2] (W.alloc (.cells #[.slice x.A x.n x.c, .slice y.A y.n y.c] 23)) (Back w e W.heap.size (x.N + y.N) (fun r => .slice r.A r.n r.c)) := by
  subst hg
  have hlen := sum_len h hx hy (b := 900) bx by'
  have hS : sumN [x, y] = x.N + y.N := by simp [sumN]
  refine (rAdd_any _ _ 2 [x, y] (Rds.two (h.2 x hx) (h.2 y hy)) (by simp) (by
    intro u hu
    simp only [List.mem_cons, List.not_mem_nil, or_false] at hu
    rcases hu with rfl | rfl <;> omega) (by rw [hS]; omega)).mono fun e w' hg => ?_
  rw [hS] at hg
  exact back_of_gives h hg.alloc (by omega)
end
end Go.Proofs.YtaancfhbmjkoaaaGreatDoor
