/- The document's functions of layers 1 to 5 that rationals lean on, told of values. -/
import Derived.Test.YtdajbmjknilmiaaGreatDoorGRatF
import Derived.Test.YtdajbmjknilmiaaGreatDoorGRefA
import Derived.Test.YtdajbmjknilmiaaGreatDoorGRefB
import Derived.Test.YtdajbmjknilmiaaGreatDoorGRefC
import Derived.Test.YtdajbmjknilmiaaGreatDoorGRefE
import Derived.Test.YtdajbmjknilmiaaGreatDoorGRefF
import Derived.Test.YtdajbmjknilmiaaGreatDoorGRefG
namespace Go.Proofs.YtdajbmjknilmiaaGreatDoor
open Go Go.RowKit
variable {v v' : Value} {V : World} {K K' N M : Nat} {Z Z' : Int}

theorem pow_le {K K' : Nat} (h : K ≤ K') : Bw ^ K ≤ Bw ^ K' := Nat.pow_le_pow_right Bw_pos h
theorem upq_lt {k : Nat} (h : N < Bw ^ K) : N * 2 ^ k < Bw ^ (K + k / 32 + 1) := by
  have h1 : 2 ^ k ≤ Bw ^ (k / 32 + 1) := by
    have e : Bw = 2 ^ 32 := by rw [Bw_eq]
    rw [e, ← Nat.pow_mul]
    exact Nat.pow_le_pow_right (by omega) (by omega)
  have h2 : 0 < 2 ^ k := Nat.pow_pos (by omega)
  calc N * 2 ^ k < Bw ^ K * 2 ^ k := Nat.mul_lt_mul_of_pos_right h h2
    _ ≤ Bw ^ K * Bw ^ (k / 32 + 1) := Nat.mul_le_mul_left _ h1
    _ = _ := by rw [← Nat.pow_add, Nat.add_assoc]
theorem twoq_lt {A B M : Nat} (h : A < Bw ^ M) (h' : B < Bw ^ M) : A + B < Bw ^ (M + 1) := by
  rw [Nat.pow_succ, Bw_eq] at *; omega
theorem c5Of {n : Int} (hn : -9223372036854775808 ≤ n ∧ n ≤ 9223372036854775807) : Calls Tryz.prog 48 #[.int .i64 n] V (Gives1 V (ZT 2 n)) := by
  refine gz (rOf5_E (e := []) (Env.start (by simp)) hn) ?_
  rw [show Bw ^ 2 = 18446744073709551616 by rw [Bw_eq]]
  omega
theorem zrow2 (h : ZRow K [Z, Z'] v V) : ∃ (A : Option Addr) (c : Nat) (p p' : Bool × Num), v = .slice A 2 c ∧ ZRds V V.heap.size A [p, p'] ∧ zP p = Z ∧ zP p' = Z' ∧ p.2.n ≤ K ∧ p'.2.n ≤ K ∧ (zP p).natAbs < Bw ^ K ∧ (zP p').natAbs < Bw ^ K := by
  obtain ⟨A, c, ps, rfl, hR, hm, hb, hl, hc⟩ := h
  rcases ps with _ | ⟨p, _ | ⟨p', _ | ⟨p'', ps⟩⟩⟩
  · simp at hm
  · simp at hm
  · simp only [List.map_cons, List.map_nil, List.cons.injEq, and_true] at hm
    have o1 := (hR 0 (by simp)).2
    have o2 := (hR 1 (by simp)).2
    exact ⟨A, c, p, p', rfl, hR, hm.1, hm.2, hb p (by simp), hb p' (by simp), by rw [zP, zOf_abs]; exact lt_pow_of o1.1.1 (hb p (by simp)), by rw [zP, zOf_abs]; exact lt_pow_of o2.1.1 (hb p' (by simp))⟩
  · simp at hm
end Go.Proofs.YtdajbmjknilmiaaGreatDoor
