/- Contract of nat.Cmp: limbs of both numbers come from the highest place on, by a range over a function; the first place where they part is left by a label. -/
import Derived.Shelf.Abstract
import Derived.Shelf.RegionOpen
import Derived.OwnWalkIn
import Derived.TacticsInMore
import Derived.LoopNIn
import Derived.LoopIn
import Derived.Sort.QuietIn
import Derived.Test.YtjakmpphfjhbaaaRange
import Derived.Test.YtjakmpphfjhbaaaNNat
namespace Go.Proofs.Ytjakmpphfjhbaaa
open Go Go.RowKit
attribute [local go_sem] Oper.semAt_some

set_option maxHeartbeats 1000000 in
theorem downwards_in (A A' : Option Addr) (n n' c c' : Nat) (w : World) :
    CallsIn Fence.wide 0 Try.prog 65 #[.slice A n c, .slice A' n' c'] w fun e w' =>
      e = .returned (.func (.func 66) #[] #[.pointer (some ⟨w.heap.size, 0, none⟩), .pointer (some ⟨w.heap.size + 1, 0, none⟩)]) ∧ w' = (w.alloc (.cells #[.slice A n c] 23)).alloc (.cells #[.slice A' n' c'] 23) := by
  refine callsIn_wide.2 ?_
  go_enter Try.func65, Try.ntmps65
  go_wp2
  go_ret
  exact ⟨rfl, rfl⟩

/-- Between two rounds: the boxes of both numbers, and the numbers. -/
def Both (g : Nat) (A A' : Option Addr) (n n' c c' N N' : Nat) (W : World) : Prop :=
  (W.cell? ⟨g, 0, none⟩ = some (.slice A n c) ∧ W.cell? ⟨g + 1, 0, none⟩ = some (.slice A' n' c')) ∧ Rd W g A n N ∧ Rd W g A' n' N'

theorem startAt {J : Nat → World → Prop} {W : World} (n : Nat) (hn : n ≤ 9223372036854775806) (h : J n W) :
    (Value.int .i64 ((n : Int) - 1) = .int .i64 (-1) ∧ J 0 W) ∨ ∃ j : Nat, j ≤ 9223372036854775805 ∧ Value.int .i64 ((n : Int) - 1) = .int .i64 j ∧ J (j + 1) W := by
  rcases n with _ | n
  · exact .inl ⟨rfl, h⟩
  · exact .inr ⟨n, by omega, by simp, h⟩

set_option maxRecDepth 100000 in
set_option maxHeartbeats 1000000 in
/-- The iterator of 'downwards': the state is how many places are left; each place down to the first that the caller ends at. -/
theorem downwards1_tells (g : Nat) (A A' : Option Addr) (n n' c c' N N' : Nat) (hn : n ≤ 9223372036854775806) (hn' : n' ≤ 9223372036854775806) (I : Nat → World → Prop) (hI : ∀ s W, I s W → Both g A A' n n' c c' N N' W) (F : Fence) (hF : F = Fence.wide) :
    Tells F 9 Try.prog 66 #[.pointer (some ⟨g, 0, none⟩), .pointer (some ⟨g + 1, 0, none⟩)] (fun x : Nat × Nat => #[.int .u32 (x.1 : Nat), .int .u32 (x.2 : Nat)])
      (fun s x => 0 < s ∧ x = (dig N (s - 1), dig N' (s - 1))) (fun s _ => s - 1) (max n n') (fun s => s = 0) (fun _ => True) I := by
  subst hF
  intro l J Jx W hJI hJ hJx hY h0
  have hmax : max n n' ≤ 9223372036854775806 := by omega
  obtain ⟨⟨hb1, hb2⟩, _, _⟩ := hI _ _ (hJI _ _ h0)
  refine callsIn_of_wp Try.func66 rfl trivial ?_ rfl
  simp only [Try.ntmps66, List.size_toArray, List.length_cons, List.length_nil, Nat.reduceAdd, Nat.reduceSub, Array.replicate_succ, Array.replicate_zero, List.push_toArray, List.append_toArray, List.nil_append, List.cons_append]
  gi_wp2
  all_goals
    gi_loopw [4] (fun i wr => (i = .int .i64 (-1) ∧ J 0 wr) ∨ ∃ j : Nat, j ≤ 9223372036854775805 ∧ i = .int .i64 j ∧ J (j + 1) wr) (fun i _ => (intOf i + 1).toNat)
    case atStart =>
      first
      | exact startAt n' hn' (by rwa [Nat.max_eq_right (by omega)] at h0)
      | exact startAt n hn (by rwa [Nat.max_eq_left (by omega)] at h0)
    case round =>
      rcases hrel with ⟨rfl, hJs⟩ | ⟨j, hj, rfl, hJs⟩
      · gi_wp2
        go_end0
        exact ⟨⟨_, rfl⟩, .inl ⟨0, rfl, hJs⟩⟩
      · obtain ⟨⟨hc1, hc2⟩, r1, r2⟩ := hI _ _ (hJI _ _ hJs)
        replace r1 : Rd wr.drew g A n N := r1
        replace r2 : Rd wr.drew g A' n' N' := r2
        obtain ⟨fn, tmps, assign, body, hy, hR⟩ := hY _ (dig N j, dig N' j) wr.drew (hJ _ _ _ hJs (grown_drew _ _)) ⟨by omega, by simp⟩
        dsimp only at hy
        gi_wp2
        gi_region_with (first
          | (refine ⟨trivial, ?_⟩; gi_at_call 64; (with_reducible refine (callsIn_wide.2 (limbAt_any _ _ A n c _ r1 _ (by omega))).mono ?_); rintro e w' ⟨rfl, rfl⟩; rw [Int.toNat_natCast])
          | (refine ⟨trivial, ?_⟩; gi_at_call 64; (with_reducible refine (callsIn_wide.2 (limbAt_any _ _ A' n' c' _ r2 _ (by omega))).mono ?_); rintro e w' ⟨rfl, rfl⟩; rw [Int.toNat_natCast])
          | (refine hR.mono ?_; rintro e W3 ⟨b, rfl, hb1, hb2⟩))
        all_goals
          have g1 := Lib.hid hb1
          have g2 := Lib.hid hb2
          clear hb1 hb2
          cases b
          · gi_wp2
            refine bodyPost_ret (results_none rfl _ _ _) rfl ?_
            exact ⟨⟨_, rfl⟩, .inr ⟨_, by first | exact g2.out rfl | exact g2.out trivial⟩⟩
          · gi_wp2
            go_roundw
            case rel => exact startAt j (by omega) (g1.out rfl)
            case measure => simp [intOf]
end Go.Proofs.Ytjakmpphfjhbaaa
