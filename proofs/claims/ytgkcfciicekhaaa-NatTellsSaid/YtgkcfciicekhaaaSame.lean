/- Contracts of the reference's Same and Great, and of the law's 'same'. -/
import Derived.Test.YtgkcfciicekhaaaAdd
namespace Go.Proofs.Ytgkcfciicekhaaa
open Go Go.RowKit

def sameB (n n' N M : Nat) : Bool := decide (n = n' ∧ N = M)

theorem digs_all {n N M : Nat} (hN : N < Bw ^ n) (hM : M < Bw ^ n) (h : ∀ j, j < n → dig N j = dig M j) : N = M := eq_of_digs hN hM h

theorem below_drewN {w W : World} {B : Nat} (h : Below B w W) (q : Nat) : Below B w (W.drewN q) := ⟨h.os, h.tape, h.output, h.size, h.block⟩

set_option maxHeartbeats 1000000 in
theorem Same_any (w : World) (hi hi' : Nat) (A A' : Option Addr) (n n' c c' N M : Nat) (h : Rd w hi A n N) (h' : Rd w hi' A' n' M) (hn : n ≤ 9223372036854775806) :
    Calls Try.prog 31 #[.slice A n c, .slice A' n' c'] w fun e w' => e = .returned (.bool (sameB n n' N M)) ∧ Below w.heap.size w w' := by
  by_cases hnn : n = n'
  · subst hnn
    have hN := Lib.hid h.1
    have hM := Lib.hid h'.1
    go_enter Try.func31, Try.ntmps31
    go_wp2
    go_loopw [5] (fun i wr => ∃ k : Nat, k ≤ n ∧ i = .int .i64 k ∧ Hid (∀ j, j < k → dig N j = dig M j) ∧ Below w.heap.size w wr ∧ Rd wr hi A n N ∧ Rd wr hi' A' n M) (fun i _ => n - (intOf i).toNat)
    case atStart => exact ⟨0, Nat.zero_le _, rfl, Lib.hid (fun j hj => by omega), Below.refl _ _, h, h'⟩
    case round =>
      obtain ⟨k, hk, rfl, hj, hB, r1, r2⟩ := hrel
      by_cases hlt : k < n
      · obtain ⟨ad, rfl, _, hc⟩ := r1.at_ hlt
        obtain ⟨ad', rfl, _, hc'⟩ := r2.at_ hlt
        by_cases hd : dig N k = dig M k
        · have HD := Lib.hid hd
          rw [hd] at hc
          clear hd
          go_wp2
          go_quiet (fail)
          go_wp2
          go_roundw
          case rel => exact ⟨k + 1, by omega, by go_num, Lib.hid (fun j h1 => by
            rcases Nat.lt_or_ge j k with h2 | h2
            · exact hj.out j h2
            · obtain rfl : j = k := by omega
              exact HD.out), below_drewN hB _, r1, r2⟩
          case measure => simp [intOf]; omega
        · have hF := Lib.hid (show sameB n n N M = false by
            simp only [sameB, decide_eq_false_iff_not, true_and]
            exact fun e => hd (by rw [e]))
          have hb : ((dig N k : Int) == (dig M k : Int)) = false := by rw [beq_eq_false_iff_ne]; omega
          have hb' : ((dig N k : Int) != (dig M k : Int)) = true := by rw [bne_iff_ne]; omega
          clear hd
          go_wp2
          go_quiet (fail)
          go_wp2
          go_ret
          exact ⟨by rw [hF.out]; rfl, below_drewN hB _⟩
      · obtain rfl : k = n := by omega
        have hT := Lib.hid (show sameB k k N M = true by
          simp only [sameB, decide_eq_true_eq, true_and]
          exact digs_all hN.out hM.out hj.out)
        go_wp2
        go_ret
        exact ⟨by rw [hT.out]; rfl, hB⟩
  · have hF := Lib.hid (show sameB n n' N M = false by simp [sameB, hnn])
    have hb : ((n : Int) == (n' : Int)) = false := by rw [beq_eq_false_iff_ne]; omega
    have hb' : ((n : Int) != (n' : Int)) = true := by rw [bne_iff_ne]; omega
    clear hnn
    go_enter Try.func31, Try.ntmps31
    go_wp2
    go_ret
    exact ⟨by rw [hF.out]; rfl, Below.refl _ _⟩

set_option maxHeartbeats 400000 in
theorem same_any (w : World) (hi hi' : Nat) (A A' : Option Addr) (n n' c c' N M : Nat) (h : Rd w hi A n N) (h' : Rd w hi' A' n' M) (hn : n ≤ 9223372036854775806) :
    Calls Try.prog 14 #[.slice A n c, .slice A' n' c'] w fun e w' => e = .returned (.bool (sameB n n' N M)) ∧ Below w.heap.size w w' := by
  go_enter Try.func14, Try.ntmps14
  go_wp2_with (go_at_call 31; refine (Same_any w hi hi' A A' n n' c c' N M h h' hn).mono ?_; rintro e w' ⟨rfl, hb⟩)
  go_ret
  exact ⟨rfl, hb⟩

set_option maxHeartbeats 1000000 in
theorem Great_any (w : World) (hi : Nat) (A : Option Addr) (c : Nat) (l : List Num) (h : Rds w hi A l) (hl : l.length ≤ 100000000000000) :
    Calls Try.prog 8 #[.slice A l.length c] w fun e w' => e = .returned (.bool (greatB l)) ∧ w = w' := by
  go_enter Try.func8, Try.ntmps8
  go_wp2
  go_loop [3, 4] (fun m i => ∃ k : Nat, k ≤ l.length ∧ k ≤ 101 ∧ i = .int .i64 k ∧ m = .int .i64 (cnt l k : Nat)) (fun _ i => 101 - (intOf i).toNat)
  case atStart => exact ⟨0, Nat.zero_le _, by omega, rfl, rfl⟩
  case round =>
    obtain ⟨k, hk, hk2, rfl, rfl⟩ := hrel
    have hcb := cnt_le l k
    by_cases hlt : k < l.length ∧ k ≤ 100
    · obtain ⟨h1, h2⟩ := hlt
      obtain ⟨⟨ad, rfl, _, hc⟩, hr, hr1, hr2, hr3⟩ := h k h1
      have HT := Lib.hid (cnt_succ h1)
      go_wp2
      all_goals
        go_round
        case rel => exact ⟨k + 1, by omega, by omega, by go_num, by rw [HT.out]; go_num⟩
        case measure => simp [intOf]; omega
    · have hend : (k = l.length ∨ (k < l.length ∧ k = 101)) := by omega
      have hmin : min l.length 101 = k := by omega
      clear hlt
      by_cases hbig : 100 < l.length
      · have HG := Lib.hid (show greatB l = true by simp [greatB, hbig])
        rcases hend with h1 | ⟨h1, h2⟩
        · clear hmin
          obtain rfl : k = l.length := h1
          go_wp2
          all_goals (go_ret; exact ⟨by rw [HG.out]; rfl, rfl⟩)
        · have h3 : 100 < k := by omega
          clear h2 hmin
          go_wp2
          all_goals (go_ret; exact ⟨by rw [HG.out]; rfl, rfl⟩)
      · obtain rfl : k = l.length := by omega
        have HG := Lib.hid (show (decide (100 < (l.length : Int)) || decide (600 < (cnt l l.length : Int))) = greatB l by
          simp only [greatB, hmin]
          congr 1
          · exact decide_eq_decide.2 (by omega)
          · exact decide_eq_decide.2 (by omega))
        clear hend hmin
        go_wp2
        all_goals (go_ret; exact ⟨ret_bool HG.out, rfl⟩)
end Go.Proofs.Ytgkcfciicekhaaa
