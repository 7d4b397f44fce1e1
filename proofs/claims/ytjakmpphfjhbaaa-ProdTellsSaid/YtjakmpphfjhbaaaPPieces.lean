/- Contract of package prod's pieces: pieces of a number with their places come by a range over a function. -/
import Derived.Shelf.Abstract
import Derived.Shelf.RegionOpen
import Derived.OwnWalkIn
import Derived.TacticsInMore
import Derived.LoopNIn
import Derived.LoopIn
import Derived.Sort.QuietIn
import Derived.Test.YtjakmpphfjhbaaaRange
import Derived.Test.YtjakmpphfjhbaaaPCut
import Derived.Test.YtjakmpphfjhbaaaPLimbs
namespace Go.Proofs.Ytjakmpphfjhbaaa
open Go Go.RowKit
attribute [local go_sem] Oper.semAt_some

set_option maxHeartbeats 1000000 in
theorem pieces_in (A : Option Addr) (n c m : Nat) (w : World) :
    CallsIn Fence.wide 0 Try.prog 46 #[.slice A n c, .int .i64 m] w fun e w' =>
      e = .returned (.func (.func 53) #[] #[.pointer (some ⟨w.heap.size, 0, none⟩), .pointer (some ⟨w.heap.size + 1, 0, none⟩)]) ∧ w' = (w.alloc (.cells #[.slice A n c] 23)).alloc (.cells #[.int .i64 m] 3) := by
  refine callsIn_wide.2 ?_
  go_enter Try.func46, Try.ntmps46
  go_wp2
  go_ret
  exact ⟨rfl, rfl⟩

/-- The piece from place s on. -/
def pieceV (A : Option Addr) (n c m s : Nat) : Value := .slice (A.map fun ad => ad.add s) (min (s + m) n - s) (c - s)

set_option maxRecDepth 100000 in
set_option maxHeartbeats 2000000 in
theorem pieces1_tells (b hi : Nat) (A : Option Addr) (n c m M : Nat) (hn : n ≤ 1000000000000) (hm : m ≤ 1000000000000) (hm0 : 0 < m) (hnc : n ≤ c) (hc : c ≤ 9223372036854775807) (I : Nat → World → Prop) (hI : ∀ s W, I s W → Src b hi A n c M W ∧ W.cell? ⟨b + 1, 0, none⟩ = some (.int .i64 m)) (F : Fence) (hF : F = Fence.wide) :
    Tells F 9 Try.prog 53 #[.pointer (some ⟨b, 0, none⟩), .pointer (some ⟨b + 1, 0, none⟩)] (fun x : Nat => #[.int .i64 (x : Nat), pieceV A n c m x])
      (fun s x => x = s ∧ s < n) (fun s _ => s + m) 0 (fun s => n ≤ s) (fun _ => True) I := by
  subst hF
  intro l J Jx W hJI hJ hJx hY h0
  obtain ⟨⟨hb1, _⟩, hb2⟩ := hI _ _ (hJI _ _ h0)
  refine callsIn_of_wp Try.func53 rfl trivial ?_ rfl
  simp only [Try.ntmps53, List.size_toArray, List.length_cons, List.length_nil, Nat.reduceAdd, Nat.reduceSub, Array.replicate_succ, Array.replicate_zero, List.push_toArray, List.append_toArray, List.nil_append, List.cons_append]
  gi_wp2
  gi_loopw [4] (fun i wr => ∃ k : Nat, k ≤ n + m ∧ i = .int .i64 k ∧ J k wr) (fun i _ => n + m - (intOf i).toNat)
  case atStart => exact ⟨0, Nat.zero_le _, rfl, h0⟩
  case round =>
    obtain ⟨k, hk, rfl, hJs⟩ := hrel
    obtain ⟨⟨hc1, hR⟩, hc2⟩ := hI _ _ (hJI _ _ hJs)
    by_cases hlt : k < n
    · obtain ⟨ad, rfl, _, hcw⟩ := hR.at_ hlt
      obtain ⟨fn, tmps, assign, body, hy, hRd⟩ := hY k k wr hJs ⟨rfl, hlt⟩
      dsimp only [pieceV, Option.map_some] at hy
      by_cases hkm : k + m ≤ n
      · obtain ⟨p, hp⟩ : ∃ p, k + m = p := ⟨_, rfl⟩
        have hpi : (k : Int) + (m : Int) = (p : Int) := by omega
        have hq1 : k ≤ p := by omega
        have hq2 : p ≤ n := by omega
        rw [show min (k + m) n = p by omega] at hy
        have HP := Lib.hid hp
        clear hp hcw hkm
        gi_wp2
        refine hRd.mono ?_
        rintro e W3 ⟨b, rfl, hb1, hb2⟩
        have g1 := Lib.hid hb1
        have g2 := Lib.hid hb2
        clear hb1 hb2
        cases b
        · gi_wp2
          refine bodyPost_ret (results_none rfl _ _ _) rfl ?_
          exact ⟨⟨_, rfl⟩, .inr ⟨_, (by first | exact ⟨trivial, g2.out (by first | rfl | trivial)⟩ | exact g2.out (by first | rfl | trivial))⟩⟩
        · obtain ⟨⟨hd1, _⟩, hd2⟩ := hI _ _ (hJI _ _ (g1.out (by first | rfl | trivial)))
          gi_wp2
          go_roundw
          case rel => exact ⟨k + m, by omega, by rw [HP.out], g1.out (by first | rfl | trivial)⟩
          case measure => have := HP.out; simp [intOf]; omega
      · have hki : (n : Int) < (k : Int) + (m : Int) := by omega
        rw [show min (k + m) n = n by omega] at hy
        clear hcw hkm
        gi_wp2
        refine hRd.mono ?_
        rintro e W3 ⟨b, rfl, hb1, hb2⟩
        have g1 := Lib.hid hb1
        have g2 := Lib.hid hb2
        clear hb1 hb2
        cases b
        · gi_wp2
          refine bodyPost_ret (results_none rfl _ _ _) rfl ?_
          exact ⟨⟨_, rfl⟩, .inr ⟨_, (by first | exact ⟨trivial, g2.out (by first | rfl | trivial)⟩ | exact g2.out (by first | rfl | trivial))⟩⟩
        · obtain ⟨⟨hd1, _⟩, hd2⟩ := hI _ _ (hJI _ _ (g1.out (by first | rfl | trivial)))
          gi_wp2
          go_roundw
          case rel => exact ⟨k + m, by omega, by go_num, g1.out (by first | rfl | trivial)⟩
          case measure => simp [intOf]; omega
    · have hS : n ≤ k := by omega
      gi_wp2
      go_end0
      exact ⟨⟨_, rfl⟩, .inl ⟨k, hS, hJs⟩⟩
end Go.Proofs.Ytjakmpphfjhbaaa
