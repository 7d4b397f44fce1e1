/- Contract of package prod's Mul: a closure that calls itself, over rows, pieces and halves. -/
import Derived.Laws.EntriesVeiled
import Derived.Test.YtdajbmjknilmiaaGreatDoorGProdD
namespace Go.Proofs.YtdajbmjknilmiaaGreatDoor
open Go Go.RowKit

/-- How the three ways part. -/
theorem not_two {a b : Nat} (h : ¬ 2 * b ≤ a) : a < 2 * b := by omega

set_option maxRecDepth 100000 in
set_option maxHeartbeats 4000000 in
theorem mul1_sorted (bx m : Nat) (HP : ProdAt bx m) (w : World) (A A' : Option Addr) (n n' N M : Nat) (hbx : Boxed w bx 53 (.func (.func 114) #[] #[.pointer (some ⟨bx, 0, none⟩)]))
    (h : Rd w w.heap.size A n N) (h' : Rd w w.heap.size A' n' M) (hn : n ≤ 1000000000000) (hn' : n' ≤ 1000000000000) (hle : n' ≤ n) (hm : n + n' ≤ m) :
    (n' < 80 → Calls Tryz.prog 115 #[.slice A n n, .slice A' n' n'] w (Gives w (N * M))) ∧
    (80 ≤ n' → 2 * n' ≤ n → Calls Tryz.prog 116 #[.slice A n n, .slice A' n' n', .func (.func 114) #[] #[.pointer (some ⟨bx, 0, none⟩)]] w (Gives w (N * M))) ∧
    (80 ≤ n' → n < 2 * n' → Calls Tryz.prog 117 #[.slice A n n, .slice A' n' n', .func (.func 114) #[] #[.pointer (some ⟨bx, 0, none⟩)]] w (Gives w (N * M))) :=
  ⟨fun _ => byRows_any A A' n n' n n' N M w hn hn' h h',
   fun h1 h2 => byPieces_any bx m HP A A' n n' n n' N M w hbx hn hn' (by omega) (by omega) h h' (Nat.le_refl _) (by omega) (Nat.le_refl _) (by omega),
   fun h1 h2 => byHalves_any bx m HP A A' n n' n n' N M w hbx hn (by omega) hle h2 (by omega) h h' (Nat.le_refl _) (by omega) (Nat.le_refl _) (by omega)⟩

set_option maxRecDepth 100000 in
set_option maxHeartbeats 4000000 in
theorem mul1_step (bx m : Nat) (HP : ProdAt bx m) : ProdAt bx (m + 1) := by
  intro w A A' n n' c c' N M hbx h h' hnc hcb hnc' hcb' hn hn' hm
  have E1 := Lib.hid (pcut_any w _ A n c N h hnc hcb)
  have E2 := Lib.hid (pcut_any w _ A' n' c' M h' hnc' hcb')
  have l1 := lenL_le.2 h.1
  have l2 := lenL_le.2 h'.1
  have hcb0 := hbx.cell
  have S1 := Lib.hid (fun hle => mul1_sorted bx m HP w (cutA N A) (cutA M A') (lenL N) (lenL M) N M hbx h.cut h'.cut (by omega) (by omega) hle (by omega))
  have S2 := Lib.hid (fun hle => mul1_sorted bx m HP w (cutA M A') (cutA N A) (lenL M) (lenL N) M N hbx h'.cut h.cut (by omega) (by omega) hle (by omega))
  rw [Nat.mul_comm M N] at S2
  obtain ⟨a, ha⟩ : ∃ a, lenL N = a := ⟨_, rfl⟩
  obtain ⟨b, hb⟩ : ∃ b, lenL M = b := ⟨_, rfl⟩
  obtain ⟨B, hB⟩ : ∃ B, cutA N A = B := ⟨_, rfl⟩
  obtain ⟨B', hB'⟩ : ∃ B', cutA M A' = B' := ⟨_, rfl⟩
  rw [ha, hb, hB, hB'] at S1 S2
  rw [ha, hB] at E1
  rw [hb, hB'] at E2
  have hab : a ≤ 1000000000000 := by omega
  have hbb : b ≤ 1000000000000 := by omega
  clear ha hb hB hB' h h' hbx l1 l2 hm
  by_cases hlt : a < b
  · obtain ⟨T1, T2, T3⟩ := S2.out (by omega)
    by_cases h80 : a < 80
    · have T := Lib.hid (T1 h80)
      clear T1 T2 T3 S1 S2
      go_enter Tryz.func114, Tryz.ntmps114
      go_wp2_with (first
        | (go_at_call 108; (with_reducible refine E1.out.mono ?_); rintro e w' ⟨rfl, rfl⟩)
        | (go_at_call 108; (with_reducible refine E2.out.mono ?_); rintro e w' ⟨rfl, rfl⟩))
      refine T.out.mono ?_
      rintro e w' ⟨A2, c2, rfl, g1, g2, g3, g4⟩
      go_wp2
      go_ret
      exact ⟨A2, c2, rfl, g1, g2, g3, g4⟩
    · by_cases h2 : 2 * a ≤ b
      · have T := Lib.hid (T2 (by omega) h2)
        clear T1 T2 T3 S1 S2
        go_enter Tryz.func114, Tryz.ntmps114
        go_wp2_with (first
          | (go_at_call 108; (with_reducible refine E1.out.mono ?_); rintro e w' ⟨rfl, rfl⟩)
          | (go_at_call 108; (with_reducible refine E2.out.mono ?_); rintro e w' ⟨rfl, rfl⟩))
        refine T.out.mono ?_
        rintro e w' ⟨A2, c2, rfl, g1, g2, g3, g4⟩
        go_wp2
        go_ret
        exact ⟨A2, c2, rfl, g1, g2, g3, g4⟩
      · have T := Lib.hid (T3 (by omega) (not_two h2))
        clear T1 T2 T3 S1 S2
        go_enter Tryz.func114, Tryz.ntmps114
        go_wp2_with (first
          | (go_at_call 108; (with_reducible refine E1.out.mono ?_); rintro e w' ⟨rfl, rfl⟩)
          | (go_at_call 108; (with_reducible refine E2.out.mono ?_); rintro e w' ⟨rfl, rfl⟩))
        refine T.out.mono ?_
        rintro e w' ⟨A2, c2, rfl, g1, g2, g3, g4⟩
        go_wp2
        go_ret
        exact ⟨A2, c2, rfl, g1, g2, g3, g4⟩
  · obtain ⟨T1, T2, T3⟩ := S1.out (by omega)
    by_cases h80 : b < 80
    · have T := Lib.hid (T1 h80)
      clear T1 T2 T3 S1 S2
      go_enter Tryz.func114, Tryz.ntmps114
      go_wp2_with (first
        | (go_at_call 108; (with_reducible refine E1.out.mono ?_); rintro e w' ⟨rfl, rfl⟩)
        | (go_at_call 108; (with_reducible refine E2.out.mono ?_); rintro e w' ⟨rfl, rfl⟩))
      refine T.out.mono ?_
      rintro e w' ⟨A2, c2, rfl, g1, g2, g3, g4⟩
      go_wp2
      go_ret
      exact ⟨A2, c2, rfl, g1, g2, g3, g4⟩
    · by_cases h2 : 2 * b ≤ a
      · have T := Lib.hid (T2 (by omega) h2)
        clear T1 T2 T3 S1 S2
        go_enter Tryz.func114, Tryz.ntmps114
        go_wp2_with (first
          | (go_at_call 108; (with_reducible refine E1.out.mono ?_); rintro e w' ⟨rfl, rfl⟩)
          | (go_at_call 108; (with_reducible refine E2.out.mono ?_); rintro e w' ⟨rfl, rfl⟩))
        refine T.out.mono ?_
        rintro e w' ⟨A2, c2, rfl, g1, g2, g3, g4⟩
        go_wp2
        go_ret
        exact ⟨A2, c2, rfl, g1, g2, g3, g4⟩
      · have T := Lib.hid (T3 (by omega) (not_two h2))
        clear T1 T2 T3 S1 S2
        go_enter Tryz.func114, Tryz.ntmps114
        go_wp2_with (first
          | (go_at_call 108; (with_reducible refine E1.out.mono ?_); rintro e w' ⟨rfl, rfl⟩)
          | (go_at_call 108; (with_reducible refine E2.out.mono ?_); rintro e w' ⟨rfl, rfl⟩))
        refine T.out.mono ?_
        rintro e w' ⟨A2, c2, rfl, g1, g2, g3, g4⟩
        go_wp2
        go_ret
        exact ⟨A2, c2, rfl, g1, g2, g3, g4⟩

/-- The closure, whatever the numbers are. -/
theorem prodAt_all' (bx m : Nat) : ProdAt bx m := by
  induction m with
  | zero => intro w A A' n n' c c' N M _ _ _ _ _ _ _ _ _ h; omega
  | succ m ih => exact mul1_step bx m ih

set_option maxHeartbeats 1000000 in
theorem pMul_any (w : World) (A A' : Option Addr) (n n' c c' N M : Nat) (h : Rd w w.heap.size A n N) (h' : Rd w w.heap.size A' n' M) (hnc : n ≤ c) (hcb : c ≤ maxLen) (hnc' : n' ≤ c') (hcb' : c' ≤ maxLen) (hn : n ≤ 1000000000000) (hn' : n' ≤ 1000000000000) :
    Calls Tryz.prog 88 #[.slice A n c, .slice A' n' c'] w (Gives w (N * M)) := by
  have hcb : c ≤ 9223372036854775807 := by simpa [maxLen] using hcb
  have hcb' : c' ≤ 9223372036854775807 := by simpa [maxLen] using hcb'
  have bx := Boxed.new w 53 (.func (.func 114) #[] #[.pointer (some ⟨w.heap.size, 0, none⟩)])
  have hB : Below w.heap.size w (w.alloc (.cells #[.func (.func 114) #[] #[.pointer (some ⟨w.heap.size, 0, none⟩)]] 53)) := (Below.refl _ w).alloc (Nat.le_refl _) _
  have E := Lib.hid (prodAt_all' w.heap.size (lenL N + lenL M + 1) _ A A' n n' c c' N M bx ((h.below hB).more hB.size) ((h'.below hB).more hB.size) hnc hcb hnc' hcb' hn hn' (by omega))
  go_enter Tryz.func88, Tryz.ntmps88
  go_wp2_with fail
  refine E.out.mono ?_
  intro e w' hg
  obtain ⟨A2, c2, rfl, g1, g2, g3, g4⟩ := hg.alloc
  go_wp2
  go_ret
  exact ⟨A2, c2, rfl, g1, g2, g3, g4⟩
end Go.Proofs.YtdajbmjknilmiaaGreatDoor

/- Contracts of package prod's All (a closure that calls itself on halves of a list) and By. Written by tools/mk_pall.py. -/
namespace Go.Proofs.YtdajbmjknilmiaaGreatDoor
open Go Go.RowKit

end Go.Proofs.YtdajbmjknilmiaaGreatDoor
