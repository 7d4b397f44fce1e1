/- Contracts of nat.longest, nat.Add, nat.Sub, nat.Least. -/
import Derived.Test.YtjakmpphfjhbaaaNCmp
import Derived.Test.YtjakmpphfjhbaaaNPut
namespace Go.Proofs.Ytjakmpphfjhbaaa
open Go Go.RowKit

set_option maxHeartbeats 400000 in
theorem longest_any (w : World) (hi : Nat) (A : Option Addr) (c : Nat) (l : List Num) (h : Rds w hi A l) (hl : l.length ≤ 100000000000000) :
    Calls Try.prog 55 #[.slice A l.length c] w fun e w' => e = .returned (.int .i64 (longestN l : Nat)) ∧ w = w' := by
  go_enter Try.func55, Try.ntmps55
  go_wp2
  go_loop [3, 8] (fun m i => ∃ k : Nat, k ≤ l.length ∧ i = .int .i64 k ∧ m = .int .i64 (longAt l k : Nat)) (fun _ i => l.length - (intOf i).toNat)
  case atStart => exact ⟨0, Nat.zero_le _, rfl, rfl⟩
  case round =>
    obtain ⟨k, hk, rfl, rfl⟩ := hrel
    by_cases hlt : k < l.length
    · obtain ⟨⟨ad, rfl, _, hc⟩, hr, h1, h2, h3⟩ := h k hlt
      have HT := Lib.hid (longAt_succ hlt)
      go_wp2_with (go_at_call 50; refine (cut_any _ _ _ _ _ _ hr h1 (by simpa [maxLen] using h2)).mono ?_; rintro e w' ⟨rfl, rfl⟩)
      all_goals
        go_round
        case rel => exact ⟨k + 1, by omega, by go_num, by rw [HT.out]; go_num⟩
        case measure => simp [intOf]; omega
    · obtain rfl : k = l.length := by omega
      have HT := Lib.hid (longAt_all l)
      go_wp2
      go_ret
      exact ⟨by rw [HT.out]; rfl, rfl⟩

/-- 'put' of what 'columns' has just made. -/
theorem putcols_any (wr : World) (g lo hi : Nat) (A A' : Option Addr) (n n' c c' f D V T O : Nat) (hn : n ≤ 9223372036854775806) (hf : Step f D V O T) (hF : Fr wr lo hi A n O) (hA : 0 < n → A = some ⟨g, 0, none⟩)
    (hR : Rd wr g A' n' V) (hT : T < Bw ^ n) (hlo : lo ≤ g) (hg : 0 < n → g < wr.heap.size) (hg' : g ≤ wr.heap.size) :
    Calls Try.prog 56 #[.slice A n c, .func (.func 63) #[] #[.pointer (some ⟨wr.heap.size, 0, none⟩), .pointer (some ⟨wr.heap.size + 1, 0, none⟩), .pointer (some ⟨wr.heap.size + 1 + 1, 0, none⟩)]]
      (((wr.alloc (.cells #[.slice A n c] 23)).alloc (.cells #[.slice A' n' c'] 23)).alloc (.cells #[.func (.func f) #[] #[]] 69)) fun e w' =>
      (∃ v, e = .returned v) ∧ Fr w' lo (g + 1) A n T ∧ Below g wr w' := by
  have b1 := ((Boxed.new wr 23 (.slice A n c)).alloc (.cells #[.slice A' n' c'] 23)).alloc (.cells #[.func (.func f) #[] #[]] 69)
  have b2 := (Boxed.new (wr.alloc (.cells #[.slice A n c] 23)) 23 (.slice A' n' c')).alloc (.cells #[.func (.func f) #[] #[]] 69)
  have b3 := Boxed.new ((wr.alloc (.cells #[.slice A n c] 23)).alloc (.cells #[.slice A' n' c'] 23)) 69 (.func (.func f) #[] #[])
  rw [World.size_alloc] at b2
  rw [World.size_alloc, World.size_alloc] at b3
  have hB : Below g wr (((wr.alloc (.cells #[.slice A n c] 23)).alloc (.cells #[.slice A' n' c'] 23)).alloc (.cells #[.func (.func f) #[] #[]] 69)) := (((Below.refl _ wr).alloc hg' _).alloc (by simp; omega) _).alloc (by simp; omega) _
  have hM := ((hF.mid (T := T) hA).kept (World.grownBy_alloc wr (.cells #[.slice A n c] 23) none) (fun r e => by cases e)).kept (World.grownBy_alloc _ (.cells #[.slice A' n' c'] 23) none) (fun r e => by cases e)
  have hM' := hM.kept (World.grownBy_alloc _ (.cells #[.func (.func f) #[] #[]] 69) none) (fun r e => by cases e)
  refine (callsIn_wide.1 (put_in wr.heap.size g A A' n n' c c' f D V T O _ hn hf hg hg' (by simp) ⟨⟨b1.cell, b2.cell, b3.cell⟩, hM', hR.below hB⟩ hT lo hlo)).mono ?_
  rintro e w' ⟨he, h1, h2⟩
  exact ⟨he, h1, hB.trans h2⟩

set_option maxRecDepth 100000 in
set_option maxHeartbeats 1000000 in
theorem Add_any (w : World) (A : Option Addr) (c : Nat) (l : List Num) (h : Rds w w.heap.size A l) (hl : l.length ≤ 100000000000000) :
    Calls Try.prog 48 #[.slice A l.length c] w (Gives w (sumN l)) := by
  obtain ⟨L, hL⟩ : ∃ L, longestN l = L := ⟨_, rfl⟩
  have hLb : L ≤ 35184372087808 := by
    rw [← hL]
    refine longestN_le (fun x hx => ?_)
    obtain ⟨k, hk, rfl⟩ := List.getElem_of_mem hx
    obtain ⟨_, h1, _, _, h2⟩ := h k hk
    exact Nat.le_trans (lenL_le.2 h1.1) h2
  have hS := Lib.hid (show sumN l < Bw ^ (L + 2) by rw [← hL]; exact sumN_lt hl)
  have hLn := longest_any w _ A c l h hl
  rw [hL] at hLn
  have HL := Lib.hid hLn
  obtain ⟨w1, hmk, hF1, hb1, hs1⟩ := made_any w (L + 2) (by omega)
  have HF1 := Lib.hid hF1
  have HS1 := Lib.hid hs1
  rw [show (((L + 2 : Nat)) : Int) = (L : Int) + 2 from by omega] at hmk
  clear hL hLn hF1 hs1
  go_enter Try.func48, Try.ntmps48
  go_wp2_with (go_at_call 55; refine HL.out.mono ?_; rintro e w' ⟨rfl, rfl⟩)
  clear hmk
  go_loopw [12] (fun i wr => ∃ k : Nat, k ≤ l.length ∧ i = .int .i64 k ∧ Fr wr w.heap.size (w.heap.size + 1) (some ⟨w.heap.size, 0, none⟩) (L + 2) (sumAt l k) ∧ Below w.heap.size w wr ∧ w.heap.size < wr.heap.size) (fun i _ => l.length - (intOf i).toNat)
  case atStart => exact ⟨0, Nat.zero_le _, rfl, HF1.out, hb1, by have := HS1.out; omega⟩
  case round =>
    obtain ⟨k, hk, rfl, hF, hBl, hsz⟩ := hrel
    by_cases hlt : k < l.length
    · obtain ⟨⟨ad, rfl, hadb, hc⟩, hr, h1, h2, h3⟩ := (h.below hBl) k hlt
      have HT := Lib.hid (sumAt_succ hlt)
      go_wp2_with (go_at_call 57; refine (callsIn_wide.1 (columns_in _ _ _ _ _ _ _ _)).mono ?_; rintro e w' ⟨rfl, rfl⟩)
      refine (putcols_any wr w.heap.size w.heap.size _ _ _ _ _ _ _ _ (sumAt l k) l[k].N (sumAt l k + l[k].N) (sumAt l k) (by omega) (.inl ⟨rfl, rfl, rfl⟩) hF (fun _ => rfl) hr ?_ (Nat.le_refl _) (fun _ => hsz) (by omega)).mono ?_
      · rw [← HT.out]
        exact Nat.lt_of_le_of_lt (sumAt_le l _) hS.out
      rintro e w' ⟨⟨v, rfl⟩, hF', hB'⟩
      have hF2 := Lib.hid hF'
      clear hF'
      go_wp2
      go_roundw
      case rel => exact ⟨k + 1, by omega, by go_num, by rw [HT.out]; exact hF2.out, hBl.trans hB', Nat.lt_of_lt_of_le hsz hB'.size⟩
      case measure => simp [intOf]; omega
    · obtain rfl : k = l.length := by omega
      rw [sumAt_all] at hF
      go_wp2_with (go_at_call 50; refine (cut_any _ _ _ _ _ _ hF.rd (Nat.le_refl _) (by omega)).mono ?_; rintro e w' ⟨rfl, rfl⟩)
      go_ret
      exact gives_cut (hF.more (by omega)) (by simp only [maxLen]; omega) hBl

set_option maxHeartbeats 400000 in
theorem Sub_no (w : World) (A A' : Option Addr) (n n' c c' N M : Nat) (h : Rd w w.heap.size A n N) (h' : Rd w w.heap.size A' n' M) (hn : n ≤ 35184372087808) (hn' : n' ≤ 35184372087808) (hlt : N < M) :
    Calls Try.prog 49 #[.slice A n c, .slice A' n' c'] w fun e w' => e = .returned (.tuple #[.slice none 0 0, .int .i64 10]) ∧ Below w.heap.size w w' := by
  have hC := Cmp_any A A' n n' c c' N M w h h' (by omega) (by omega)
  rw [cmpN_lt hlt] at hC
  have HC := Lib.hid hC
  clear hC
  go_enter Try.func49, Try.ntmps49
  go_wp2_with (go_at_call 59; refine HC.out.mono ?_; rintro e w' ⟨rfl, hb⟩)
  go_ret2
  exact ⟨rfl, hb⟩

set_option maxRecDepth 100000 in
set_option maxHeartbeats 1000000 in
theorem Sub_yes (w : World) (A A' : Option Addr) (n n' c c' N M : Nat) (h : Rd w w.heap.size A n N) (h' : Rd w w.heap.size A' n' M) (hn : n ≤ 35184372087808) (hn' : n' ≤ 35184372087808) (hc : n ≤ c) (hcm : c ≤ maxLen) (hle : M ≤ N) :
    Calls Try.prog 49 #[.slice A n c, .slice A' n' c'] w (GivesS w (N - M)) := by
  have hC := Cmp_any A A' n n' c c' N M w h h' (by omega) (by omega)
  have hcn : 0 ≤ cmpN N M := by unfold cmpN; rw [if_neg (by omega)]; split <;> omega
  obtain ⟨r, hr⟩ : ∃ r, cmpN N M = r := ⟨_, rfl⟩
  rw [hr] at hC hcn
  have HC := Lib.hid hC
  have HE := Lib.hid (show N = N - M + M by omega)
  have hl := lenL_le.2 h.1
  clear hC hr
  go_enter Try.func49, Try.ntmps49
  go_wp2_with (go_at_call 59; refine HC.out.mono ?_; rintro e w1 ⟨rfl, hb1⟩)
  refine (Trim_any w1 A n c N ((h.below hb1).more hb1.size) hc hcm hn).mono ?_
  rintro e w2 ⟨A2, c2, rfl, hc2, hm2, hF2, hb2⟩
  go_wp2_with (go_at_call 57; refine (callsIn_wide.1 (columns_in _ _ _ _ _ _ _ _)).mono ?_; rintro e w' ⟨rfl, rfl⟩)
  obtain ⟨g, hg1, hg2, hg3, hg4⟩ : ∃ g, (0 < lenL N → A2 = some ⟨g, 0, none⟩) ∧ w1.heap.size ≤ g ∧ (0 < lenL N → g < w2.heap.size) ∧ g ≤ w2.heap.size := by
    rcases Nat.eq_zero_or_pos (lenL N) with h0 | h0
    · exact ⟨w2.heap.size, fun h => by omega, hb2.size, fun h => by omega, Nat.le_refl _⟩
    · obtain ⟨g, e, h1, h2, _⟩ := hF2.2 h0
      exact ⟨g, fun _ => e, h1, fun _ => h2, by omega⟩
  have hb12 : Below w.heap.size w w2 := hb1.trans (hb2.mono hb1.size)
  refine (putcols_any w2 g w.heap.size w2.heap.size A2 A' (lenL N) n' c2 c' 60 (N - M) M (N - M) N (by omega) (.inr ⟨rfl, HE.out, rfl⟩) (hF2.from hb1.size) hg1 ((h'.below hb12).more (Nat.le_trans hb1.size hg2)) (Nat.lt_of_le_of_lt (Nat.sub_le _ _) (lt_pow_lenL N)) (Nat.le_trans hb1.size hg2) hg3 hg4).mono ?_
  rintro e w3 ⟨⟨v, rfl⟩, hF3, hb3⟩
  have hb03 : Below w.heap.size w w3 := hb12.trans (hb3.mono (Nat.le_trans hb1.size hg2))
  have hgs : g ≤ w3.heap.size := Nat.le_trans hg4 hb3.size
  go_wp2_with (go_at_call 50; refine (cut_any _ _ _ _ _ _ hF3.rd hc2 (by simpa [maxLen] using hm2)).mono ?_; rintro e w' ⟨rfl, rfl⟩)
  go_ret2
  have hF4 : Fr w3 w.heap.size w3.heap.size A2 (lenL N) (N - M) := by
    rcases Nat.eq_zero_or_pos (lenL N) with h0 | h0
    · exact ⟨hF3.1, fun h => by omega⟩
    · exact hF3.more (by have := hg3 h0; have := hb3.size; omega)
  exact ⟨_, _, rfl, Nat.le_refl _, Nat.le_trans (lenL_mono (Nat.sub_le N M)) (Nat.le_trans hc2 hm2), hF4.cut, hb03⟩

end Go.Proofs.Ytjakmpphfjhbaaa
