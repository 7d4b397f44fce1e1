/- Contract of package prod's limbs: limbs with their places come by a range over a function, but those of nought. -/
import Derived.Shelf.Abstract
import Derived.Shelf.RegionOpen
import Derived.OwnWalkIn
import Derived.TacticsInMore
import Derived.LoopNIn
import Derived.LoopIn
import Derived.Sort.QuietIn
import Derived.Test.YtjakmpphfjhbaaaRange
import Derived.Test.YtjakmpphfjhbaaaPCut
namespace Go.Proofs.Ytjakmpphfjhbaaa
open Go Go.RowKit
attribute [local go_sem] Oper.semAt_some

set_option maxHeartbeats 1000000 in
theorem limbs_in (A : Option Addr) (n c : Nat) (w : World) :
    CallsIn Fence.wide 0 Try.prog 44 #[.slice A n c] w fun e w' =>
      e = .returned (.func (.func 52) #[] #[.pointer (some ⟨w.heap.size, 0, none⟩)]) ∧ w' = w.alloc (.cells #[.slice A n c] 23) := by
  refine callsIn_wide.2 ?_
  go_enter Try.func44, Try.ntmps44
  go_wp2
  go_ret
  exact ⟨rfl, rfl⟩

/-- What an iterator reads: the box of a number, the number. -/
def Src (b hi : Nat) (A : Option Addr) (n c M : Nat) (W : World) : Prop := W.cell? ⟨b, 0, none⟩ = some (.slice A n c) ∧ Rd W hi A n M

set_option maxRecDepth 100000 in
set_option maxHeartbeats 2000000 in
theorem limbs1_tells (b hi : Nat) (A : Option Addr) (n c M : Nat) (hn : n ≤ 9223372036854775806) (I : Nat → World → Prop) (hI : ∀ s W, I s W → Src b hi A n c M W) (F : Fence) (hF : F = Fence.wide) :
    Tells F 9 Try.prog 52 #[.pointer (some ⟨b, 0, none⟩)] (fun x : Nat × Nat => #[.int .i64 (x.1 : Nat), .int .u32 (x.2 : Nat)])
      (fun s x => s ≤ x.1 ∧ x.1 < n ∧ x.2 = dig M x.1 ∧ ∀ j, s ≤ j → j < x.1 → dig M j = 0) (fun _ x => x.1 + 1) 0 (fun s => ∀ j, s ≤ j → j < n → dig M j = 0) (fun _ => True) I := by
  subst hF
  intro l J Jx W hJI hJ hJx hY h0
  obtain ⟨hb1, _⟩ := hI _ _ (hJI _ _ h0)
  refine callsIn_of_wp Try.func52 rfl trivial ?_ rfl
  simp only [Try.ntmps52, List.size_toArray, List.length_cons, List.length_nil, Nat.reduceAdd, Nat.reduceSub, Array.replicate_succ, Array.replicate_zero, List.push_toArray, List.append_toArray, List.nil_append, List.cons_append]
  gi_wp2
  gi_loopw [7] (fun i wr => ∃ k s : Nat, k ≤ n ∧ i = .int .i64 k ∧ s ≤ k ∧ Hid (∀ j, s ≤ j → j < k → dig M j = 0) ∧ J s wr) (fun i _ => n - (intOf i).toNat)
  case atStart => exact ⟨0, 0, Nat.zero_le _, rfl, Nat.le_refl _, Lib.hid (fun j _ h => by omega), h0⟩
  case round =>
    obtain ⟨k, s, hk, rfl, hsk, hz, hJs⟩ := hrel
    obtain ⟨hc1, hR⟩ := hI _ _ (hJI _ _ hJs)
    by_cases hlt : k < n
    · obtain ⟨ad, rfl, _, hcw⟩ := hR.at_ hlt
      have hx := dig_lt M k
      by_cases hd : dig M k = 0
      · have HD := Lib.hid hd
        rw [hd] at hcw
        clear hd
        gi_wp2
        refine ⟨fun f e => (by cases e), ?_⟩
        gi_wp2
        go_roundw
        case rel => exact ⟨k + 1, s, by omega, by go_num, by omega, Lib.hid (fun j h1 h2 => by
          rcases Nat.lt_or_ge j k with h3 | h3
          · exact hz.out j h1 h3
          · obtain rfl : j = k := by omega
            exact HD.out), hJs⟩
        case measure => simp [intOf]; omega
      · have hb : ((dig M k : Int) == 0) = false := by simpa using hd
        obtain ⟨fn, tmps, assign, body, hy, hRd⟩ := hY s (k, dig M k) wr hJs ⟨hsk, hlt, rfl, hz.out⟩
        dsimp only at hy
        have hb2 : ((dig M k : Int) != 0) = true := by simpa using hd
        have hb3 : ¬ ((dig M k : Int) = 0) := by omega
        clear hd
        gi_wp2
        refine hRd.mono ?_
        rintro e W3 ⟨b, rfl, hb1, hb2⟩
        have g1 := Lib.hid hb1
        have g2 := Lib.hid hb2
        clear hb1 hb2
        cases b
        · gi_wp2
          refine bodyPost_ret (results_none rfl _ _ _) rfl ?_
          exact ⟨⟨_, rfl⟩, .inr ⟨k + 1, (by first | exact ⟨trivial, g2.out (by first | rfl | trivial)⟩ | exact g2.out (by first | rfl | trivial))⟩⟩
        · gi_wp2
          go_roundw
          case rel => exact ⟨k + 1, k + 1, by omega, by go_num, Nat.le_refl _, Lib.hid (fun j h1 h2 => by omega), g1.out (by first | rfl | trivial)⟩
          case measure => simp [intOf]; omega
    · obtain rfl : k = n := by omega
      gi_wp2
      go_end0
      exact ⟨⟨_, rfl⟩, .inl ⟨s, hz.out, hJs⟩⟩
end Go.Proofs.Ytjakmpphfjhbaaa
