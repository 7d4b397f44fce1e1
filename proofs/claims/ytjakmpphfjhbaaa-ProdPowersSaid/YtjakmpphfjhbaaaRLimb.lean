/- Contract of the reference's limb of layer 1. -/
import Derived.Test.YtjakmpphfjhbaaaBase
namespace Go.Proofs.Ytjakmpphfjhbaaa
open Go Go.RowKit

set_option maxHeartbeats 400000 in
theorem rlimb_any (w : World) (hi : Nat) (A : Option Addr) (n c N : Nat) (h : Rd w hi A n N) (k : Nat) :
    Calls Try.prog 43 #[.slice A n c, .int .i64 k] w fun e w' => e = .returned (.int .u64 (dig N k : Nat)) ∧ w = w' := by
  have hd := dig_lt N k
  by_cases hk : k < n
  · obtain ⟨ad, rfl, _, hc⟩ := h.at_ hk
    go_enter Try.func43, Try.ntmps43
    go_wp2
    go_ret
    exact ⟨rfl, rfl⟩
  · have h0 := Lib.hid (dig_ge h.1 (by omega : n ≤ k))
    clear hd
    go_enter Try.func43, Try.ntmps43
    go_wp2
    go_ret
    exact ⟨by rw [h0.out]; rfl, rfl⟩
end Go.Proofs.Ytjakmpphfjhbaaa
