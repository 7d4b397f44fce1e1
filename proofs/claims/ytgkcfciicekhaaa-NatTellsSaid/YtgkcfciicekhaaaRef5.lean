/- Contracts of the reference's Least. -/
import Derived.Test.YtgkcfciicekhaaaRef2
namespace Go.Proofs.Ytgkcfciicekhaaa
open Go Go.RowKit

set_option maxHeartbeats 1000000 in
theorem rLeast_any (w : World) (A : Option Addr) (c : Nat) (l : List Num) (h : Rds w w.heap.size A l) (hl : l.length ≤ 100000000000000) :
    Calls Try.prog 24 #[.slice A l.length c] w fun e w' => e = .returned (.int .i64 (leastV l l.length)) ∧ Below w.heap.size w w' := by
  go_enter Try.func24, Try.ntmps24
  go_wp2
  go_loopw [3, 4] (fun m i wr => ∃ k : Nat, k ≤ l.length ∧ i = .int .i64 k ∧ m = .int .i64 (leastV l k) ∧ Below w.heap.size w wr) (fun _ i _ => l.length - (intOf i).toNat)
  case atStart => exact ⟨0, Nat.zero_le _, rfl, rfl, Below.refl _ _⟩
  case round =>
    obtain ⟨k, hk, rfl, rfl, hB⟩ := hrel
    by_cases hlt : k < l.length
    · have h2 := h.below hB
      obtain ⟨⟨ad, rfl, hadb, hc⟩, hr, hr1, hr2, hr3⟩ := h2 k hlt
      rcases Nat.eq_zero_or_pos k with h0 | hk0
      · have HV := Lib.hid (show leastV l k = -1 by rw [h0]; rfl)
        have HW := Lib.hid (show leastV l (k + 1) = k by rw [h0]; rfl)
        rw [HV.out]
        clear h0
        go_wp2
        go_quiet (fail)
        go_wp2
        go_roundw
        case rel => exact ⟨k + 1, by omega, by go_num, by rw [HW.out], below_drewN hB _⟩
        case measure => simp [intOf]; omega
      · obtain ⟨j, hj⟩ : ∃ j, leastI l k = j := ⟨_, rfl⟩
        have hjk : j < k := by
          obtain ⟨k', rfl⟩ : ∃ k', k = k' + 1 := ⟨k - 1, by omega⟩
          have := leastI_lt l k'
          omega
        have hjl : j < l.length := by omega
        obtain ⟨⟨ad', e', hadb', hc'⟩, hr', hr1', hr2', hr3'⟩ := h2 j (by omega)
        cases e'
        have hC : ∀ q, Calls Try.prog 16 #[.slice l[k].A l[k].n l[k].c, .slice l[j].A l[j].n l[j].c] (wr.drewN q) fun e w' => e = .returned (.int .i64 (cmpN l[k].N l[j].N)) ∧ (wr.drewN q) = w' := fun q =>
          rCmp_any (wr.drewN q) w.heap.size w.heap.size _ _ _ _ _ _ _ _ (hr.below (below_drewN (Below.refl _ wr) q)) (hr'.below (below_drewN (Below.refl _ wr) q)) (by omega) (by omega)
        have HV := Lib.hid (leastV_pos l hk0)
        have HJ := Lib.hid hj
        rw [HV.out, HJ.out]
        clear hj
        by_cases hcm : l[k].N < l[j].N
        · have HN := Lib.hid (leastI_new hk0 hlt (by rw [HJ.out]; omega) (by simp only [HJ.out]; exact hcm))
          rw [cmpN_lt hcm] at hC
          have HC := Lib.hid hC
          clear hC hcm
          go_wp2
          go_quiet ((go_at_call 16; exact quiet_same (HC.out _)))
          go_wp2
          go_roundw
          case rel => exact ⟨k + 1, by omega, by go_num, by rw [leastV_succ, HN.out], below_drewN hB _⟩
          case measure => simp [intOf]; omega
        · have HN := Lib.hid (leastI_old hk0 hlt (by rw [HJ.out]; omega) (by simp only [HJ.out]; exact hcm))
          have hcn : 0 ≤ cmpN l[k].N l[j].N := by unfold cmpN; rw [if_neg hcm]; split <;> omega
          obtain ⟨r, hr0⟩ : ∃ r, cmpN l[k].N l[j].N = r := ⟨_, rfl⟩
          rw [hr0] at hC hcn
          have HC := Lib.hid hC
          clear hC hcm hr0
          go_wp2
          go_quiet ((go_at_call 16; exact quiet_same (HC.out _)))
          go_wp2
          go_roundw
          case rel => exact ⟨k + 1, by omega, by go_num, by rw [leastV_succ, HN.out, HJ.out], below_drewN hB _⟩
          case measure => simp [intOf]; omega
    · obtain rfl : k = l.length := by omega
      go_wp2
      go_ret
      exact ⟨rfl, hB⟩
end Go.Proofs.Ytgkcfciicekhaaa
