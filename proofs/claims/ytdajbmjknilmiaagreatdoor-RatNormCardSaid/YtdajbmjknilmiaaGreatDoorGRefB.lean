/- Contract of the reference's Sub of layer 1. -/
import Derived.Test.YtdajbmjknilmiaaGreatDoorGRefA
import Derived.Test.YtdajbmjknilmiaaGreatDoorGNum
namespace Go.Proofs.YtdajbmjknilmiaaGreatDoor
open Go Go.RowKit

end Go.Proofs.YtdajbmjknilmiaaGreatDoor

/- The reference's difference, over numbers at hand. -/
namespace Go.Proofs.YtdajbmjknilmiaaGreatDoor
open Go Go.RowKit

end Go.Proofs.YtdajbmjknilmiaaGreatDoor

/- Contract of the reference's product of layer 2: limb times limb, with what is carried. -/
namespace Go.Proofs.YtdajbmjknilmiaaGreatDoor
open Go Go.RowKit

theorem own_read {w wr : World} {n c O : Nat} (hB : Below w.heap.size w wr) (hsz : w.heap.size < wr.heap.size) (hb : Buf wr w.heap.size n O) (hO : O < Bw ^ n) (hn : n ≤ c) (hc : c ≤ maxLen) (hn' : n ≤ 35184372087808) :
    Calls Tryz.prog 40 #[.slice (some ⟨w.heap.size, 0, none⟩) n c] wr (Gives w O) :=
  (rTrim_any wr _ n c O (hb.rd hO (fun _ => hsz)) hn hc hn').mono fun _ _ hg => hg.later hB

set_option maxRecDepth 100000 in
set_option maxHeartbeats 4000000 in
theorem rMul_any (w : World) (A A' : Option Addr) (n n' c c' N M : Nat) (h : Rd w w.heap.size A n N) (h' : Rd w w.heap.size A' n' M) (hn : n ≤ 1000000) (hn' : n' ≤ 1000000) :
    Calls Tryz.prog 44 #[.slice A n c, .slice A' n' c'] w (Gives w (N * M)) := by
  obtain ⟨w1, hmk, hF1, hb1, hs1⟩ := made_any w (n + n') (by omega)
  rw [show (((n + n' : Nat)) : Int) = (n : Int) + (n' : Int) from by omega] at hmk
  have HB := Lib.hid (Buf.of_fr hF1)
  have HS1 := Lib.hid hs1
  have HX := Lib.hid h.1
  have HY := Lib.hid h'.1
  clear hF1 hs1
  go_enter Tryz.func44, Tryz.ntmps44
  go_wp2
  clear hmk
  go_loopw [6] (fun i wr => ∃ k : Nat, k ≤ n ∧ i = .int .i64 k ∧ Below w.heap.size w wr ∧ w.heap.size < wr.heap.size ∧ Hid (∃ O, Buf wr w.heap.size (n + n') O ∧ O < Bw ^ (k + n') ∧ O = N % Bw ^ k * M)) (fun i _ => n - (intOf i).toNat)
  case atStart => exact ⟨0, Nat.zero_le _, rfl, hb1, by have := HS1.out; omega, Lib.hid ⟨0, HB.out, pow_pos_Bw _, by simp [Nat.mod_one]⟩⟩
  case round =>
    obtain ⟨k, hk, rfl, hB, hsz, hO⟩ := hrel
    by_cases hlt : k < n
    · obtain ⟨ad, rfl, hadb, hcw⟩ := h.at_ hlt
      go_wp2
      go_loopw [7, 8] (fun ov kk wi => ∃ j v : Nat, j ≤ n' ∧ kk = .int .i64 j ∧ ov = .int .u64 v ∧ v < 4294967296 ∧ Below w.heap.size w wi ∧ w.heap.size < wi.heap.size ∧ Hid (∃ O, Buf wi w.heap.size (n + n') O ∧ O < Bw ^ (k + n') ∧ O + v * Bw ^ (k + j) = N % Bw ^ k * M + dig N k * Bw ^ k * (M % Bw ^ j))) (fun _ kk _ => n' - (intOf kk).toNat)
      case atStart =>
        obtain ⟨O, o1, o2, o3⟩ := hO.out
        exact ⟨0, 0, Nat.zero_le _, rfl, rfl, by omega, hB, hsz, Lib.hid ⟨O, o1, o2, by rw [o3]; simp [Nat.mod_one]⟩⟩
      case round =>
        obtain ⟨j, v, hj, rfl, rfl, hv, hBi, hszi, hOi⟩ := hrel
        obtain ⟨O, o1, o2, o3⟩ := hOi.out
        by_cases hjt : j < n'
        · obtain ⟨ad', rfl, hadb', hcw'⟩ := h'.at_ hjt
          obtain ⟨p, hp⟩ : ∃ p, p = k + j := ⟨_, rfl⟩
          have hidx : (k : Int) + (j : Int) = (p : Int) := by omega
          have hpl : p < n + n' := by omega
          have hc1 := (hBi.cell (p := ad.add k) (by rw [add_block]; exact hadb)).trans hcw
          have hc2 := (hBi.cell (p := ad'.add j) (by rw [add_block]; exact hadb')).trans hcw'
          obtain ⟨hc3, hc4⟩ := o1 p hpl
          have d1 := dig_lt N k
          have d2 := dig_lt M j
          have d3 := dig_lt O p
          have dm : dig N k * dig M j ≤ 4294967295 * 4294967295 := Nat.mul_le_mul (by omega) (by omega)
          obtain ⟨x, hx⟩ : ∃ x, x = dig N k * dig M j + dig O p + v := ⟨_, rfl⟩
          have hxi : ((dig N k : Int) * (dig M j : Int) + (dig O p : Int) + (v : Int)) = (x : Int) := by rw [hx]; simp
          have hxb : x < 18446744073709551616 := by omega
          have hm0 : 0 ≤ (dig N k : Int) * (dig M j : Int) := by rw [← Int.natCast_mul]; omega
          have hm1 : (dig N k : Int) * (dig M j : Int) ≤ 18446744065119617025 := by rw [← Int.natCast_mul]; omega
          have hv' : x / 4294967296 < 4294967296 := by omega
          have HP := Lib.hid hp
          have HX0 := Lib.hid hx
          have HXI := Lib.hid hxi
          have O1 := Lib.hid o1
          have O2 := Lib.hid o2
          have O3 := Lib.hid o3
          clear hp hx hxi dm o1 o2 o3 hcw hcw'
          go_wp2
          go_quiet (fail)
          obtain ⟨O', b1, b2, b3⟩ := (O1.out.drew nq).set (p := p) (x := x % 4294967296) O2.out (by have := HP.out; omega) (Nat.mod_lt _ (by omega))
          have HV1 := Lib.hid (show Value.int .u32 (((dig N k : Int) * (dig M j : Int) + (dig O p : Int) + (v : Int)) % 4294967296) = .int .u32 (x % 4294967296 : Nat) by rw [HXI.out]; rfl)
          have HV2 := Lib.hid (show Value.int .u64 (((dig N k : Int) * (dig M j : Int) + (dig O p : Int) + (v : Int)) / 4294967296) = .int .u64 (x / 4294967296 : Nat) by rw [HXI.out]; rfl)
          have HN := Lib.hid (mul_step HX0.out b3 HP.out (by rw [HP.out]; exact O3.out))
          rw [← HV1.out] at b1
          have HB1 := Lib.hid b1
          have HB2 := Lib.hid b2
          have HBn := Lib.hid ((below_drewN hBi nq).setCell (p := ⟨w.heap.size, p, none⟩) (Nat.le_refl _) (.int .u32 (((dig N k : Int) * (dig M j : Int) + (dig O p : Int) + (v : Int)) % 4294967296)))
          clear b1 b2 b3
          go_wp2
          go_roundw
          case rel => exact ⟨j + 1, x / 4294967296, by omega, by go_num, HV2.out, hv', HBn.out, by simp; omega, Lib.hid ⟨O', HB1.out, HB2.out, by have := HN.out; rwa [HP.out] at this⟩⟩
          case measure => simp [intOf]; omega
        · obtain rfl : j = n' := by omega
          obtain ⟨p, hp⟩ : ∃ p, p = k + j := ⟨_, rfl⟩
          have hidx : (k : Int) + (j : Int) = (p : Int) := by omega
          have hpl : p < n + j := by omega
          obtain ⟨hc3, hc4⟩ := o1 p hpl
          obtain ⟨O', b1, b2, b3⟩ := o1.set (m := k + 1 + j) (p := p) (x := v) (lt_pow_of o2 (by omega)) (by omega) hv
          have HV1 := Lib.hid (show Value.int .u32 ((v : Int) % 4294967296) = .int .u32 (v : Nat) by congr 1; omega)
          have HN := Lib.hid (mul_row b3 (by rw [hp]; exact o2) HY.out (by rw [hp]; exact o3))
          have HB1 := Lib.hid b1
          have HB2 := Lib.hid b2
          have hBn := hBi.setCell (p := ⟨w.heap.size, p, none⟩) (Nat.le_refl _) (.int .u32 (v : Nat))
          have HBn := Lib.hid hBn
          clear hp b1 b2 b3 o1 o2 o3 hBn hcw
          go_wp2
          go_roundw
          case rel => exact ⟨k + 1, by omega, by go_num, HBn.out, by simp; omega, Lib.hid ⟨O', HB1.out, HB2.out, HN.out⟩⟩
          case measure => simp [intOf]; omega
    · obtain rfl : k = n := by omega
      obtain ⟨O, hb, hlO, hOe⟩ := hO.out
      rw [mod_full HX.out] at hOe
      have E := Lib.hid (own_read (c := k + n') hB hsz hb hlO (Nat.le_refl _) (by simp only [maxLen]; omega) (by omega))
      rw [hOe] at E
      clear hb hlO hOe
      go_wp2_with fail
      refine E.out.mono ?_
      rintro e w2 ⟨A2, c2, rfl, g1, g2, g3, g4⟩
      go_wp2
      go_ret
      exact ⟨A2, c2, rfl, g1, g2, g3, g4⟩
end Go.Proofs.YtdajbmjknilmiaaGreatDoor

/- The reference's product of layer 2, over numbers at hand. -/
namespace Go.Proofs.YtdajbmjknilmiaaGreatDoor
open Go Go.RowKit

section
variable {w W : World} {e : List Num} {x y : Num}
theorem rMul_E (h : Env w e W) (hx : x ∈ e) (hy : y ∈ e) (bx : x.n ≤ 100000) (by' : y.n ≤ 100000) :
    Calls Tryz.prog 44 #[.slice x.A x.n x.c, .slice y.A y.n y.c] W (Back w e W.heap.size (x.N * y.N) (fun r => .slice r.A r.n r.c)) :=
  (rMul_any W _ _ _ _ _ _ _ _ (h.2 x hx).1 (h.2 y hy).1 (by omega) (by omega)).mono fun _ _ hg => back_of_gives h hg (Nat.le_trans (mul_len (h.2 x hx).1.1 (h.2 y hy).1.1) (by omega))
end
end Go.Proofs.YtdajbmjknilmiaaGreatDoor
