/- Contract of straitref04.Same: limb by limb the same? -/
import Derived.Test.YtaancfhbmjkoaaaGreatDoorGNum
namespace Go.Proofs.YtaancfhbmjkoaaaGreatDoor
open Go Go.RowKit

set_option maxHeartbeats 1000000 in
theorem gSame_any (w : World) (hi hi' : Nat) (A A' : Option Addr) (n n' c c' N M : Nat) (h : Rd w hi A n N) (h' : Rd w hi' A' n' M) (hn : n ≤ 9223372036854775806) :
    Calls Tryz.prog 14 #[.slice A n c, .slice A' n' c'] w fun e w' => e = .returned (.bool (sameB n n' N M)) ∧ Below w.heap.size w w' := by
  by_cases hnn : n = n'
  · subst hnn
    have hN := Lib.hid h.1
    have hM := Lib.hid h'.1
    go_enter Tryz.func14, Tryz.ntmps14
    go_wp2
    go_loopw [5] (fun i wr => ∃ k : Nat, k ≤ n ∧ i = .int .i64 k ∧ Hid (∀ j, j < k → dig N j = dig M j) ∧ Below w.heap.size w wr ∧ Rd wr hi A n N ∧ Rd wr hi' A' n M) (fun i _ => n - (intOf i).toNat)
    case atStart => exact ⟨0, Nat.zero_le _, rfl, Lib.hid (fun j hj => by omega), Below.refl _ _, h, h'⟩
    case round =>
      obtain ⟨k, hk, rfl, hj, hB, r1, r2⟩ := hrel
      by_cases hlt : k < n
      · obtain ⟨ad, rfl, _, hc⟩ := r1.at_ hlt
        obtain ⟨ad', rfl, _, hc'⟩ := r2.at_ hlt
        by_cases hd : dig N k = dig M k
        · have HD := Lib.hid hd
          rw [hd] at hc
          clear hd
          go_wp2
          go_quiet (fail)
          go_wp2
          go_roundw
          case rel => exact ⟨k + 1, by omega, by go_num, Lib.hid (fun j h1 => by
            rcases Nat.lt_or_ge j k with h2 | h2
            · exact hj.out j h2
            · obtain rfl : j = k := by omega
              exact HD.out), below_drewN hB _, r1, r2⟩
          case measure => simp [intOf]; omega
        · have hF := Lib.hid (show sameB n n N M = false by
            simp only [sameB, decide_eq_false_iff_not, true_and]
            exact fun e => hd (by rw [e]))
          have hb : ((dig N k : Int) == (dig M k : Int)) = false := by rw [beq_eq_false_iff_ne]; omega
          have hb' : ((dig N k : Int) != (dig M k : Int)) = true := by rw [bne_iff_ne]; omega
          clear hd
          go_wp2
          go_quiet (fail)
          go_wp2
          go_ret
          exact ⟨by rw [hF.out]; rfl, below_drewN hB _⟩
      · obtain rfl : k = n := by omega
        have hT := Lib.hid (show sameB k k N M = true by
          simp only [sameB, decide_eq_true_eq, true_and]
          exact digs_all hN.out hM.out hj.out)
        go_wp2
        go_ret
        exact ⟨by rw [hT.out]; rfl, hB⟩
  · have hF := Lib.hid (show sameB n n' N M = false by simp [sameB, hnn])
    have hb : ((n : Int) == (n' : Int)) = false := by rw [beq_eq_false_iff_ne]; omega
    have hb' : ((n : Int) != (n' : Int)) = true := by rw [bne_iff_ne]; omega
    clear hnn
    go_enter Tryz.func14, Tryz.ntmps14
    go_wp2
    go_ret
    exact ⟨by rw [hF.out]; rfl, Below.refl _ _⟩

theorem gSame_E {w W : World} {l : List Num} {x y : Num} (h : Env w l W) (hx : x ∈ l) (hy : y ∈ l) :
    Calls Tryz.prog 14 #[.slice x.A x.n x.c, .slice y.A y.n y.c] W fun e W' => e = .returned (.bool (sameB x.n y.n x.N y.N)) ∧ Env w l W' :=
  (gSame_any W _ _ _ _ _ _ _ _ _ _ (h.2 x hx).1 (h.2 y hy).1 (big (h.2 x hx).2.2.2)).mono fun _ _ ⟨he, hb⟩ => ⟨he, h.step hb⟩
end Go.Proofs.YtaancfhbmjkoaaaGreatDoor
