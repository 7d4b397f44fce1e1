/- Contract of nat.columns and nat.put: a sum, or a difference, limb by limb, written over the first number while a range over a function still reads it. -/
import Derived.Shelf.Abstract
import Derived.Shelf.RegionOpen
import Derived.OwnWalkIn
import Derived.TacticsInMore
import Derived.LoopNIn
import Derived.LoopIn
import Derived.Sort.QuietIn
import Derived.Test.YtjakmpphfjhbaaaRange
import Derived.Test.YtjakmpphfjhbaaaNNat
namespace Go.Proofs.Ytjakmpphfjhbaaa
open Go Go.RowKit
attribute [local go_sem] Oper.semAt_some


theorem limbAt_nat (w : World) (hi : Nat) (A : Option Addr) (n c N : Nat) (h : Rd w hi A n N) (k : Nat) :
    Calls Try.prog 64 #[.slice A n c, .int .i64 k] w fun e w' => e = .returned (.int .u32 (dig N k : Nat)) ∧ w = w' := by
  have := limbAt_any w hi A n c N h k (by omega)
  rwa [Int.toNat_natCast] at this

/-- Which of the two steps it is: the function's number, the number that is read, the one that is written. -/
def Step (f D V O T : Nat) : Prop := (f = 58 ∧ O = D ∧ T = D + V) ∨ (f = 60 ∧ O = D + V ∧ T = D)

theorem step_any {f D V O T : Nat} (hf : Step f D V O T) (w : World) (k : Nat) :
    Calls Try.prog f #[.int .u64 (dig O k : Nat), .int .u64 (dig V k : Nat), .int .u64 (car D V k : Nat)] w fun e w' => e = .returned (.tuple #[.int .u32 (dig T k : Nat), .int .u64 (car D V (k + 1) : Nat)]) ∧ w = w' := by
  have h := dig_car D V k
  have h1 := dig_lt D k
  have h2 := dig_lt V k
  have h3 := dig_lt (D + V) k
  have h4 := car_le D V k
  rcases hf with ⟨rfl, rfl, rfl⟩ | ⟨rfl, rfl, rfl⟩
  · exact plus_any w _ _ _ _ _ (by omega) (by omega) (by omega) (by omega) (by omega)
  · exact minus_any w _ _ _ _ _ (by omega) (by omega) (by omega) (by omega) (by omega)

theorem step_enters {f D V O T : Nat} (hf : Step f D V O T) : ∀ args w, (callFunc f args).run Try.prog w = .ok (.enter f args) w := by
  rcases hf with ⟨rfl, _⟩ | ⟨rfl, _⟩
  · exact enters_of Try.func58 (by kernel_rfl) rfl
  · exact enters_of Try.func60 (by kernel_rfl) rfl

set_option maxHeartbeats 1000000 in
theorem columns_in (A A' : Option Addr) (n n' c c' f : Nat) (w : World) :
    CallsIn Fence.wide 0 Try.prog 57 #[.slice A n c, .slice A' n' c', .func (.func f) #[] #[]] w fun e w' =>
      e = .returned (.func (.func 63) #[] #[.pointer (some ⟨w.heap.size, 0, none⟩), .pointer (some ⟨w.heap.size + 1, 0, none⟩), .pointer (some ⟨w.heap.size + 1 + 1, 0, none⟩)]) ∧
      w' = ((w.alloc (.cells #[.slice A n c] 23)).alloc (.cells #[.slice A' n' c'] 23)).alloc (.cells #[.func (.func f) #[] #[]] 69) := by
  refine callsIn_wide.2 ?_
  go_enter Try.func57, Try.ntmps57
  go_wp2
  go_ret
  exact ⟨rfl, rfl⟩

/-- The number's limbs at block g: those below k have been written, the others not yet. -/
def Mid (W : World) (g : Nat) (A : Option Addr) (n k T O : Nat) : Prop :=
  ∀ j, j < n → A = some ⟨g, 0, none⟩ ∧ W.cell? ⟨g, j, none⟩ = some (.int .u32 (if j < k then dig T j else dig O j : Nat)) ∧ W.frozen? ⟨g, j, none⟩ = false

/-- What the iterator of 'columns' reads: three boxes from block b on, the number's limbs, the other number. -/
def Cols (b g : Nat) (A A' : Option Addr) (n n' c c' f V T O : Nat) (k : Nat) (W : World) : Prop :=
  (W.cell? ⟨b, 0, none⟩ = some (.slice A n c) ∧ W.cell? ⟨b + 1, 0, none⟩ = some (.slice A' n' c') ∧ W.cell? ⟨b + 1 + 1, 0, none⟩ = some (.func (.func f) #[] #[])) ∧ Mid W g A n k T O ∧ Rd W g A' n' V

set_option maxRecDepth 100000 in
set_option maxHeartbeats 2000000 in
theorem columns1_tells (b g : Nat) (A A' : Option Addr) (n n' c c' f D V T O : Nat) (hn : n ≤ 9223372036854775806) (hf : Step f D V O T) (I : Nat → World → Prop) (hI : ∀ s W, I s W → Cols b g A A' n n' c c' f V T O s W) (F : Fence) (hF : F = Fence.wide) :
    Tells F 9 Try.prog 63 #[.pointer (some ⟨b, 0, none⟩), .pointer (some ⟨b + 1, 0, none⟩), .pointer (some ⟨b + 1 + 1, 0, none⟩)] (fun x : Nat × Nat => #[.int .i64 (x.1 : Nat), .int .u32 (x.2 : Nat)])
      (fun s x => s < n ∧ x = (s, dig T s)) (fun s _ => s + 1) 0 (fun s => ∀ j, s ≤ j → j < n → dig O j = dig T j) (fun _ => True) I := by
  subst hF
  intro l J Jx W hJI hJ hJx hY h0
  obtain ⟨⟨hb1, hb2, hb3⟩, _, hr0⟩ := hI _ _ (hJI _ _ h0)
  have hV := Lib.hid hr0.1
  clear hr0
  refine callsIn_of_wp Try.func63 rfl trivial ?_ rfl
  simp only [Try.ntmps63, List.size_toArray, List.length_cons, List.length_nil, Nat.reduceAdd, Nat.reduceSub, Array.replicate_succ, Array.replicate_zero, List.push_toArray, List.append_toArray, List.nil_append, List.cons_append]
  gi_wp2
  gi_loopw [6, 10] (fun cy i wr => ∃ k : Nat, k ≤ n ∧ i = .int .i64 k ∧ cy = .int .u64 (car D V k : Nat) ∧ J k wr) (fun _ i _ => n - (intOf i).toNat)
  case atStart => exact ⟨0, Nat.zero_le _, rfl, by rw [car_zero]; rfl, h0⟩
  case round =>
    obtain ⟨k, hk, rfl, rfl, hJs⟩ := hrel
    obtain ⟨⟨hc1, hc2, hc3⟩, hM, hR⟩ := hI _ _ (hJI _ _ hJs)
    by_cases hlt : k < n
    · obtain ⟨rfl, hc4, hf4⟩ := hM k hlt
      rw [if_neg (Nat.lt_irrefl k)] at hc4
      have hx := dig_lt O k
      have hy := dig_lt V k
      have hz := dig_lt T k
      have hcar := car_le D V k
      by_cases hst : n' ≤ k ∧ car D V k = 0
      · obtain ⟨hs1, hs2⟩ := hst
        have hS : ∀ j, k ≤ j → j < n → dig O j = dig T j := fun j hj _ => by
          have := dig_stop (D := D) (V := V) (Nat.lt_of_lt_of_le hV.out (Nat.pow_le_pow_right Bw_pos hs1)) hs2 hj
          rcases hf with ⟨_, rfl, rfl⟩ | ⟨_, rfl, rfl⟩
          · exact this.symm
          · exact this
        have HS := Lib.hid hS
        have HF := Lib.hid hf
        clear hS hf hM
        rw [hs2]
        gi_wp2
        refine bodyPost_ret (results_none rfl _ _ _) rfl ?_
        exact ⟨⟨_, rfl⟩, .inl ⟨k, HS.out, hJs⟩⟩
      · have hgo : k < n' ∨ (n' ≤ k ∧ ((car D V k : Int) == 0) = false) := by
          rcases Nat.lt_or_ge k n' with h1 | h1
          · exact .inl h1
          · exact .inr ⟨h1, by have : car D V k ≠ 0 := fun h => hst ⟨h1, h⟩; simpa using this⟩
        have HF := Lib.hid hf
        clear hst hM hf
        have hRn : ∀ q, Rd (wr.drewN q) g A' n' V := fun _ => hR
        have hw1 : IntKind.u64.wrap (dig O k : Nat) = (dig O k : Nat) := by rw [wrap_u64]; omega
        have hw2 : IntKind.u64.wrap (dig V k : Nat) = (dig V k : Nat) := by rw [wrap_u64]; omega
        have hent := step_enters HF.out
        rcases hgo with h1 | ⟨h1, h2⟩
        all_goals
          gi_wp2
          refine wpIn_wide.2 ?_
          go_quiet ((first
            | (go_at_call 64; exact quiet_same (limbAt_nat _ g A' n' c' V (hRn _) k))
            | exact quiet_same (step_any HF.out _ k)))
          clear hent hRn hw1 hw2 hc1 hc2 hc3 hc4 hf4 hb1 hb2 hb3 hR
          obtain ⟨fn, tmps, assign, body, hy, hRd⟩ := hY k (k, dig T k) (wr.drewN nq) (hJ _ _ _ hJs (grown_drewN _ _ _)) ⟨hlt, rfl⟩
          dsimp only at hy
          gi_wp2
          refine hRd.mono ?_
          rintro e W3 ⟨b, rfl, hb1, hb2⟩
          have g1 := Lib.hid hb1
          have g2 := Lib.hid hb2
          clear hb1 hb2
          cases b
          · gi_wp2
            refine bodyPost_ret (results_none rfl _ _ _) rfl ?_
            exact ⟨⟨_, rfl⟩, .inr ⟨k + 1, (by first | exact ⟨trivial, g2.out (by first | rfl | trivial)⟩ | exact g2.out (by first | rfl | trivial))⟩⟩
          · gi_wp2
            go_roundw
            case rel => exact ⟨k + 1, by omega, by go_num, rfl, g1.out (by first | rfl | trivial)⟩
            case measure => simp [intOf]; omega
    · obtain rfl : k = n := by omega
      clear hM
      gi_wp2
      go_end0
      exact ⟨⟨_, rfl⟩, .inl ⟨k, fun j h1 h2 => by omega, hJs⟩⟩
end Go.Proofs.Ytjakmpphfjhbaaa
