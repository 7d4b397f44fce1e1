/- Contract of the reference's Norm of layer 5. -/
import Derived.Test.YtdajbmjknilmiaaGreatDoorGSintA
import Derived.Test.YtdajbmjknilmiaaGreatDoorGRefA
import Derived.Test.YtdajbmjknilmiaaGreatDoorGRefH
namespace Go.Proofs.YtdajbmjknilmiaaGreatDoor
open Go Go.RowKit

end Go.Proofs.YtdajbmjknilmiaaGreatDoor

/- Contract of the reference's Of of layer 5. -/
namespace Go.Proofs.YtdajbmjknilmiaaGreatDoor
open Go Go.RowKit

theorem len_u64 {N : Nat} (h : N < 18446744073709551616) : lenL N ≤ 2 := lenL_small.2 h

set_option maxRecDepth 100000 in
set_option maxHeartbeats 1000000 in
theorem rOf5_E {w W : World} {e : List Num} {n : Int} (h : Env w e W) (hn : -9223372036854775808 ≤ n ∧ n ≤ 9223372036854775807) :
    Calls Tryz.prog 48 #[.int .i64 n] W (Zs w e n) := by
  obtain ⟨n1, n2⟩ := hn
  obtain ⟨N, hN⟩ : ∃ N, n.natAbs = N := ⟨_, rfl⟩
  have hNb : N < 18446744073709551616 := by omega
  have E := Lib.hid (rOf_any (W.alloc (.cells #[.bool false, .slice none 0 0] 25)) N hNb)
  have B1 := Lib.hid (Box2.new W 25 (.bool false) (.slice none 0 0))
  have hsz : (W.alloc (.cells #[.bool false, .slice none 0 0] 25)).heap.size = W.heap.size + 1 := by simp
  have hbl : ∀ W1, Below (W.heap.size + 1) (W.alloc (.cells #[.bool false, .slice none 0 0] 25)) W1 → Below W.heap.size W W1 := fun W1 hb => ((Below.refl _ W).alloc (Nat.le_refl _) _).trans (hb.mono (by omega))
  have hl := len_u64 hNb
  have FN := Lib.hid (fun (A : Option Addr) (c : Nat) (W1 : World) (b' : Bool) (hb : b' = decide (n < 0)) (g1 : lenL N ≤ c) (g2 : c ≤ maxLen) (g3 : Hid (Fr W1 (W.heap.size + 1) W1.heap.size A (lenL N) N)) (g4 : Below (W.heap.size + 1) (W.alloc (.cells #[.bool false, .slice none 0 0] 25)) W1) =>
    (show Zs w e n (.returned (.agg #[.bool b', .slice A (lenL N) c])) ((W1.setCell ⟨W.heap.size, 0, none⟩ (.bool b')).setCell ⟨W.heap.size, 1, none⟩ (.slice A (lenL N) c)) from
      ⟨⟨A, lenL N, c, N⟩, by rw [hb], hN.symm, by rw [hN], h.put2 (r := ⟨A, lenL N, c, N⟩) (hbl W1 g4) g3.out ⟨g1, g2, by show lenL N ≤ _; omega⟩ (by omega) (by omega) _ _⟩))
  clear h hbl
  by_cases h0 : n < 0
  · have e1 : -(n + 1) + 1 = (N : Int) := by omega
    have hd : decide (n < 0) = true := by simp [h0]
    go_enter Tryz.func48, Tryz.ntmps48
    go_wp2_with fail
    refine E.out.mono ?_
    rintro e1 W1 ⟨A, c, rfl, g1, g2, g3, g4⟩
    rw [hsz] at g3 g4
    obtain ⟨c3, c4, c5, c6⟩ := (B1.out.below g4 (by omega)).cells
    have G3 := Lib.hid g3
    have HD := Lib.hid hd.symm
    clear g3 hd
    go_wp2
    refine bodyPost_ret (ret_box2 ((B1.out.below g4 (by omega)).set (.bool true) (.slice A (lenL N) c)) rfl rfl) rfl ?_
    exact FN.out A c W1 true HD.out g1 g2 G3 g4
  · have e1 : n = (N : Int) := by omega
    have HD := Lib.hid (show false = decide (n < 0) by simp; omega)
    subst e1
    go_enter Tryz.func48, Tryz.ntmps48
    go_wp2_with fail
    refine E.out.mono ?_
    rintro e1 W1 ⟨A, c, rfl, g1, g2, g3, g4⟩
    rw [hsz] at g3 g4
    obtain ⟨c3, c4, c5, c6⟩ := (B1.out.below g4 (by omega)).cells
    have G3 := Lib.hid g3
    clear g3
    go_wp2
    refine bodyPost_ret (ret_box2 ((B1.out.below g4 (by omega)).set (.bool false) (.slice A (lenL N) c)) rfl rfl) rfl ?_
    exact FN.out A c W1 false HD.out g1 g2 G3 g4
end Go.Proofs.YtdajbmjknilmiaaGreatDoor
