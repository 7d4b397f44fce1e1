/- Contract of the reference's Trim of layer 1. -/
import Derived.Test.YtdajbmjknilmiaaGreatDoorGNum
namespace Go.Proofs.YtdajbmjknilmiaaGreatDoor
open Go Go.RowKit

set_option maxHeartbeats 1000000 in
theorem rTrim_any (w : World) (A : Option Addr) (n c N : Nat) (h : Rd w w.heap.size A n N) (hn : n ≤ c) (hcm : c ≤ maxLen) (hb : n ≤ 35184372087808) :
    Calls Tryz.prog 40 #[.slice A n c] w (Gives w N) := by
  have hc : c ≤ 9223372036854775807 := by simpa [maxLen] using hcm
  obtain ⟨i0, hi, hz0, hz1, hz2⟩ := info_parts info_u32
  go_enter Tryz.func40, Tryz.ntmps40
  go_wp2
  go_loop [3] (fun i => ∃ k : Nat, k ≤ n ∧ i = .int .i64 k ∧ Hid (N < Bw ^ k)) (fun i => (intOf i).toNat)
  case atStart => exact ⟨n, Nat.le_refl _, rfl, Lib.hid h.1⟩
  case round =>
    obtain ⟨k, hk, rfl, hN⟩ := hrel
    rcases Nat.eq_zero_or_pos k with rfl | hpos
    · have h0 : N = 0 := by simpa using hN.out
      subst h0
      cases A with
      | none =>
        have hR := limbs_read' (k := 0) h (by omega)
        have HR := Lib.hid hR
        clear hR
        go_wp2_with (at_builtin; refine wpList_append_row _ rfl (.tmp 18) (.tmp 21) _ rfl w.heap.size 52 i0 (.int .u32 0) 4 Tryz.underlying23 hi hz0 hz1 hz2 rfl (.slice (some ⟨w.heap.size, 0, none⟩) 0 0) 0 [] rfl (World.ownsRow_lit w #[] 0 (Nat.le_refl _) (by simp) rfl) none 0 c (limbs 0 0) rfl (limbs_length _ _) HR.out limbs_one (by simp) (by omega) (by simp) ?_; intro v1 W1 hown1 hg1 _; have HE := Lib.hid (rTrim_end (by rfl) hown1 hg1); clear hown1 hg1)
        go_ret
        exact HE.out
      | some ad =>
        have hR := limbs_read' (k := 0) h (by omega)
        have HR := Lib.hid hR
        clear hR
        go_wp2_with (at_builtin; refine wpList_append_row _ rfl (.tmp 18) (.tmp 21) _ rfl w.heap.size 52 i0 (.int .u32 0) 4 Tryz.underlying23 hi hz0 hz1 hz2 rfl (.slice (some ⟨w.heap.size, 0, none⟩) 0 0) 0 [] rfl (World.ownsRow_lit w #[] 0 (Nat.le_refl _) (by simp) rfl) (some ad) 0 c (limbs 0 0) rfl (limbs_length _ _) HR.out limbs_one (by simp) (by omega) (by simp) ?_; intro v1 W1 hown1 hg1 _; have HE := Lib.hid (rTrim_end (by rfl) hown1 hg1); clear hown1 hg1)
        go_ret
        exact HE.out
    · obtain ⟨j, rfl⟩ : ∃ j, k = j + 1 := ⟨k - 1, by omega⟩
      obtain ⟨ad, rfl, _, hcell⟩ := h.at_ (k := j) (by omega)
      by_cases hd : dig N j = 0
      · rw [hd] at hcell
        go_wp2
        go_round
        case rel => exact ⟨j, by omega, by go_num, Lib.hid (lt_pow_pred hN.out hd)⟩
        case measure => simp [intOf]
      · have hb : ((dig N j : Int) == 0) = false := by rw [beq_eq_false_iff_ne]; omega
        have hlen := Lib.hid (lenL_eq hN.out hd)
        have hR := limbs_read' (k := j + 1) h hk
        have HR := Lib.hid hR
        clear hd hR
        go_wp2_with (at_builtin; refine wpList_append_row _ rfl (.tmp 18) (.tmp 21) _ rfl w.heap.size 52 i0 (.int .u32 0) 4 Tryz.underlying23 hi hz0 hz1 hz2 rfl (.slice (some ⟨w.heap.size, 0, none⟩) 0 0) 0 [] rfl (World.ownsRow_lit w #[] 0 (Nat.le_refl _) (by simp) rfl) (some ad) (j + 1) c (limbs N (j + 1)) rfl (limbs_length _ _) HR.out limbs_one (by simp only [maxLen]; omega) (by omega) (by simp) ?_; intro v1 W1 hown1 hg1 _; have HE := Lib.hid (rTrim_end hlen.out.symm hown1 hg1); clear hown1 hg1)
        go_ret
        exact HE.out

section
variable {w W : World} {e : List Num} {x : Num}
end
end Go.Proofs.YtdajbmjknilmiaaGreatDoor

/- Contract of the reference's limb of layer 1. -/
namespace Go.Proofs.YtdajbmjknilmiaaGreatDoor
open Go Go.RowKit

end Go.Proofs.YtdajbmjknilmiaaGreatDoor

/- Contract of the reference's sum of two of layer 1. -/
namespace Go.Proofs.YtdajbmjknilmiaaGreatDoor
open Go Go.RowKit

end Go.Proofs.YtdajbmjknilmiaaGreatDoor

/- Contract of the reference's Add of layer 1. -/
namespace Go.Proofs.YtdajbmjknilmiaaGreatDoor
open Go Go.RowKit

end Go.Proofs.YtdajbmjknilmiaaGreatDoor

/- The reference's sum of two numbers, over numbers at hand. -/
namespace Go.Proofs.YtdajbmjknilmiaaGreatDoor
open Go Go.RowKit

section
variable {w W : World} {e : List Num} {x y z : Num}
end
end Go.Proofs.YtdajbmjknilmiaaGreatDoor

/- Contract of the reference's Cmp of layer 1. -/
namespace Go.Proofs.YtdajbmjknilmiaaGreatDoor
open Go Go.RowKit

section
variable {w W : World} {e : List Num} {x y : Num}
end
end Go.Proofs.YtdajbmjknilmiaaGreatDoor

/- Contract of straitref01.Same: limb by limb the same? -/
namespace Go.Proofs.YtdajbmjknilmiaaGreatDoor
open Go Go.RowKit

set_option maxHeartbeats 1000000 in
theorem rSame_any (w : World) (hi hi' : Nat) (A A' : Option Addr) (n n' c c' N M : Nat) (h : Rd w hi A n N) (h' : Rd w hi' A' n' M) (hn : n ≤ 9223372036854775806) :
    Calls Tryz.prog 43 #[.slice A n c, .slice A' n' c'] w fun e w' => e = .returned (.bool (sameB n n' N M)) ∧ Below w.heap.size w w' := by
  by_cases hnn : n = n'
  · subst hnn
    have hN := Lib.hid h.1
    have hM := Lib.hid h'.1
    go_enter Tryz.func43, Tryz.ntmps43
    go_wp2
    go_loopw [5] (fun i wr => ∃ k : Nat, k ≤ n ∧ i = .int .i64 k ∧ Hid (∀ j, j < k → dig N j = dig M j) ∧ Below w.heap.size w wr ∧ Rd wr hi A n N ∧ Rd wr hi' A' n M) (fun i _ => n - (intOf i).toNat)
    case atStart => exact ⟨0, Nat.zero_le _, rfl, Lib.hid (fun j hj => by omega), Below.refl _ _, h, h'⟩
    case round =>
      obtain ⟨k, hk, rfl, hj, hB, r1, r2⟩ := hrel
      by_cases hlt : k < n
      · obtain ⟨ad, rfl, _, hc⟩ := r1.at_ hlt
        obtain ⟨ad', rfl, _, hc'⟩ := r2.at_ hlt
        by_cases hd : dig N k = dig M k
        · have HD := Lib.hid hd
          rw [hd] at hc
          clear hd
          go_wp2
          go_quiet (fail)
          go_wp2
          go_roundw
          case rel => exact ⟨k + 1, by omega, by go_num, Lib.hid (fun j h1 => by
            rcases Nat.lt_or_ge j k with h2 | h2
            · exact hj.out j h2
            · obtain rfl : j = k := by omega
              exact HD.out), below_drewN hB _, r1, r2⟩
          case measure => simp [intOf]; omega
        · have hF := Lib.hid (show sameB n n N M = false by
            simp only [sameB, decide_eq_false_iff_not, true_and]
            exact fun e => hd (by rw [e]))
          have hb : ((dig N k : Int) == (dig M k : Int)) = false := by rw [beq_eq_false_iff_ne]; omega
          have hb' : ((dig N k : Int) != (dig M k : Int)) = true := by rw [bne_iff_ne]; omega
          clear hd
          go_wp2
          go_quiet (fail)
          go_wp2
          go_ret
          exact ⟨by rw [hF.out]; rfl, below_drewN hB _⟩
      · obtain rfl : k = n := by omega
        have hT := Lib.hid (show sameB k k N M = true by
          simp only [sameB, decide_eq_true_eq, true_and]
          exact digs_all hN.out hM.out hj.out)
        go_wp2
        go_ret
        exact ⟨by rw [hT.out]; rfl, hB⟩
  · have hF := Lib.hid (show sameB n n' N M = false by simp [sameB, hnn])
    have hb : ((n : Int) == (n' : Int)) = false := by rw [beq_eq_false_iff_ne]; omega
    have hb' : ((n : Int) != (n' : Int)) = true := by rw [bne_iff_ne]; omega
    clear hnn
    go_enter Tryz.func43, Tryz.ntmps43
    go_wp2
    go_ret
    exact ⟨by rw [hF.out]; rfl, Below.refl _ _⟩

end Go.Proofs.YtdajbmjknilmiaaGreatDoor
