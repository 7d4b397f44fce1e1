/- Contracts of package nat's functions. -/
import Derived.WalkKit
import Derived.WalkSpells
import Derived.WalkLawsBesides
import Derived.LoopTactic
import Derived.Outline
import Derived.Lib.Hide
import Derived.IntWalk
import Derived.Deep.QuietTactic
import Derived.BigQuiet
import Derived.Laws.BitsAllLaws
import Derived.Test.YtjakmpphfjhbaaaRows
import Derived.Test.YtjakmpphfjhbaaaBuf
namespace Go.Proofs.Ytjakmpphfjhbaaa
open Go Go.RowKit

set_option maxHeartbeats 400000 in
theorem limbAt_any (w : World) (hi : Nat) (A : Option Addr) (n c N : Nat) (h : Rd w hi A n N) (i : Int) (h0 : 0 ≤ i) :
    Calls Try.prog 64 #[.slice A n c, .int .i64 i] w fun e w' => e = .returned (.int .u32 (dig N i.toNat : Nat)) ∧ w = w' := by
  obtain ⟨k, rfl⟩ := Int.eq_ofNat_of_zero_le h0
  rw [Int.toNat_natCast]
  by_cases hk : k < n
  · obtain ⟨ad, rfl, _, hc⟩ := h.at_ hk
    go_enter Try.func64, Try.ntmps64
    go_wp2
    go_ret
    exact ⟨rfl, rfl⟩
  · have hd := dig_ge h.1 (by omega : n ≤ k)
    rw [hd]
    go_enter Try.func64, Try.ntmps64
    go_wp2
    go_ret
    exact ⟨rfl, rfl⟩

set_option maxHeartbeats 400000 in
theorem plus_any (w : World) (x y z l b : Int) (hx : 0 ≤ x ∧ x < 4294967296) (hy : 0 ≤ y ∧ y < 4294967296) (hz : 0 ≤ z ∧ z ≤ 1) (hl : 0 ≤ l ∧ l < 4294967296) (h : x + y + z = l + 4294967296 * b) :
    Calls Try.prog 58 #[.int .u64 x, .int .u64 y, .int .u64 z] w fun e w' => e = .returned (.tuple #[.int .u32 l, .int .u64 b]) ∧ w = w' := by
  have e1 : (x + y + z) % 4294967296 = l := by omega
  have e2 : (x + y + z) / 4294967296 = b := by omega
  have H1 := Lib.hid e1
  have H2 := Lib.hid e2
  clear e1 e2 h hl
  go_enter Try.func58, Try.ntmps58
  go_wp2
  rw [H1.out, H2.out]
  go_ret2
  exact ⟨rfl, rfl⟩

theorem minus_limb {x y z l b : Int} (hx : 0 ≤ x ∧ x < 4294967296) (hy : 0 ≤ y ∧ y < 4294967296) (hz : 0 ≤ z ∧ z ≤ 1) (hl : 0 ≤ l ∧ l < 4294967296) (h : x + 4294967296 * b = l + y + z) :
    IntKind.u64.wrap (IntKind.u64.wrap (x - y) - z) % 4294967296 = l ∧ IntKind.u64.wrap (IntKind.u64.wrap (x - y) - z) / 9223372036854775808 = b := by
  simp only [wrap_u64]; omega

set_option maxHeartbeats 400000 in
theorem minus_any (w : World) (x y z l b : Int) (hx : 0 ≤ x ∧ x < 4294967296) (hy : 0 ≤ y ∧ y < 4294967296) (hz : 0 ≤ z ∧ z ≤ 1) (hl : 0 ≤ l ∧ l < 4294967296) (h : x + 4294967296 * b = l + y + z) :
    Calls Try.prog 60 #[.int .u64 x, .int .u64 y, .int .u64 z] w fun e w' => e = .returned (.tuple #[.int .u32 l, .int .u64 b]) ∧ w = w' := by
  have H := Lib.hid (minus_limb hx hy hz hl h)
  clear h hl
  go_enter Try.func60, Try.ntmps60
  go_wp2
  rw [H.out.1, H.out.2]
  go_ret2
  exact ⟨rfl, rfl⟩

set_option maxHeartbeats 400000 in
theorem cut_any (w : World) (hi : Nat) (A : Option Addr) (n c N : Nat) (h : Rd w hi A n N) (hn : n ≤ c) (hc : c ≤ 9223372036854775807) :
    Calls Try.prog 50 #[.slice A n c] w fun e w' => e = .returned (.slice (cutA N A) (lenL N) (lenL N)) ∧ w = w' := by
  go_enter Try.func50, Try.ntmps50
  go_wp2
  go_loop [3] (fun i => ∃ k : Nat, k ≤ n ∧ i = .int .i64 k ∧ Hid (N < Bw ^ k)) (fun i => (intOf i).toNat)
  case atStart => exact ⟨n, Nat.le_refl _, rfl, Lib.hid h.1⟩
  case round =>
    obtain ⟨k, hk, rfl, hN⟩ := hrel
    rcases Nat.eq_zero_or_pos k with rfl | hpos
    · have h0 : N = 0 := by simpa using hN.out
      subst h0
      go_wp2
      go_ret
      exact ⟨rfl, rfl⟩
    · obtain ⟨j, rfl⟩ : ∃ j, k = j + 1 := ⟨k - 1, by omega⟩
      obtain ⟨ad, rfl, _, hcell⟩ := h.at_ (k := j) (by omega)
      by_cases hd : dig N j = 0
      · rw [hd] at hcell
        go_wp2
        go_round
        case rel => exact ⟨j, by omega, by go_num, Lib.hid (lt_pow_pred hN.out hd)⟩
        case measure => simp [intOf]
      · have hb : ((dig N j : Int) == 0) = false := by simpa using hd
        have hlen := Lib.hid (lenL_eq hN.out hd)
        have hN0 : ¬ N = 0 := fun h0 => hd (by rw [h0]; exact dig_zero j)
        clear hd
        go_wp2
        go_ret
        exact ⟨by rw [hlen.out, cutA_pos hN0]; rfl, rfl⟩

set_option maxHeartbeats 400000 in
theorem Trim_any (w : World) (A : Option Addr) (n c N : Nat) (h : Rd w w.heap.size A n N) (hn : n ≤ c) (hcm : c ≤ maxLen) (hb : n ≤ 35184372087808) :
   
    Calls Try.prog 36 #[.slice A n c] w (Gives w N) := by
  have hl := lenL_le.2 h.1
  have hc : c ≤ 9223372036854775807 := by simpa [maxLen] using hcm
  have hlt := lt_pow_lenL N
  by_cases h0 : N = 0
  · have HL := Lib.hid h0
    clear h0
    go_enter Try.func36, Try.ntmps36
    go_wp2_with (go_at_call 50; refine (cut_any _ _ A n c N h hn (by omega)).mono ?_; rintro e w' ⟨rfl, rfl⟩; rw [HL.out, lenL_zero, cutA_zero])
    go_ret
    exact ⟨none, 0, by rw [HL.out]; rfl, by rw [HL.out]; simp [lenL], by simp [maxLen], by rw [HL.out]; exact Fr.nil, Below.refl _ _⟩
  · obtain ⟨m, hm⟩ : ∃ m, lenL N = m + 1 := ⟨lenL N - 1, by have := lenL_eq_zero (N := N); omega⟩
    obtain ⟨ad, rfl, _, _⟩ := h.at_ (k := 0) (by omega)
    have hcell : ∀ j u, (limbs N (lenL N))[j]? = some u → w.cell? (ad.add j) = some u := fun j u hu => by
      obtain ⟨hj, rfl⟩ := limbs_get hu
      obtain ⟨ad', e, _, hc'⟩ := h.at_ (k := j) (by omega)
      cases e
      exact hc'
    have HC := Lib.hid hcell
    have HT := Lib.hid hlt
    have HN := Lib.hid h0
    clear hcell hlt hm h0
    obtain ⟨i0, hi, hz0, hz1, hz2⟩ := info_parts info_u32
    go_enter Try.func36, Try.ntmps36
    go_wp2_with (first
      | (go_at_call 50; refine (cut_any _ _ (some ad) n c N h hn (by omega)).mono ?_; rintro e w' ⟨rfl, rfl⟩; rw [cutA_pos HN.out])
      | (at_builtin; refine wpList_append_own _ rfl _ _ 23 rfl w.heap.size 25 i0 (.int .u32 0) 1 4 Try.underlying23 hi hz0 hz1 hz2 rfl (by decide) (.slice none 0 0) 0 [] rfl (World.ownsRow_nil _ _ _ _) ad (lenL N) (lenL N) (limbs N (lenL N)) rfl (by simp [limbs_length]) HC.out limbs_one (by simp only [maxLen]; omega) (by omega) (Nat.le_refl _) ?_; intro v' w1 hown' hgrow _))
    go_ret
    rw [Nat.zero_add, List.nil_append] at hown'
    obtain ⟨A', c', rfl, h1, h2, h3⟩ := Fr.of_own hown' HT.out (fun j hj => limbs_at hj)
    exact ⟨A', c', rfl, h1, h2, h3, (Below.refl _ _).grown hgrow (Nat.le_refl _) (by simp [Value.ownBlock])⟩

theorem dig_of_u64 {N : Nat} (h : N < 18446744073709551616) : N < Bw ^ 2 ∧ ∀ j, j < 2 → (#[Value.int .u32 ((N : Int) % 4294967296), Value.int .u32 ((N : Int) / 4294967296)] : Array Value)[j]? = some (.int .u32 (dig N j : Nat)) := by
  refine ⟨by simpa [Bw] using h, fun j hj => ?_⟩
  have h2 : j = 0 ∨ j = 1 := by omega
  rcases h2 with rfl | rfl
  · simp [dig, Bw]
  · have : (N : Int) / 4294967296 = (dig N 1 : Nat) := by
      have : N / 4294967296 < 4294967296 := Nat.div_lt_of_lt_mul (by omega)
      simp only [dig, Bw, Nat.pow_one]
      rw [Nat.mod_eq_of_lt this]
      simp
    simp [this]

/-- What 'cut' hands back, of what is the call's own. -/
theorem gives_cut {w W : World} {A : Option Addr} {n N : Nat} (h : Fr W w.heap.size W.heap.size A n N) (hn : n ≤ maxLen) (hb : Below w.heap.size w W) :
    Gives w N (.returned (.slice (cutA N A) (lenL N) (lenL N))) W :=
  ⟨_, _, rfl, Nat.le_refl _, Nat.le_trans (lenL_le.2 h.1) hn, h.cut, hb⟩

set_option maxHeartbeats 400000 in
theorem Of_any (w : World) (N : Nat) (h : N < 18446744073709551616) :
    Calls Try.prog 35 #[.int .u64 N] w (Gives w N) := by
  have H := Lib.hid (dig_of_u64 h)
  go_enter Try.func35, Try.ntmps35
  go_wp2_with fail
  have hF : Fr (w.alloc (Obj.cells #[Value.int IntKind.u32 (↑N % 4294967296), Value.int IntKind.u32 (↑N / 4294967296)] 25)) w.heap.size (w.heap.size + 1) (some ⟨w.heap.size, 0, none⟩) 2 N :=
    Fr.lit (Nat.le_refl _) H.out.1 H.out.2
  refine (cut_any _ _ _ 2 2 N hF.rd (by omega) (by omega)).mono ?_
  rintro e w' ⟨rfl, rfl⟩
  go_wp2
  go_ret
  exact gives_cut (by simpa using hF) (by simp [maxLen]) ((Below.refl _ _).alloc (Nat.le_refl _) _)

theorem or_limbs {x y : Nat} (hx : x < 4294967296) (hy : y < 4294967296) : bits BinOp.or IntKind.u64 ((x : Int) * 4294967296) y = ((x * 4294967296 + y : Nat) : Int) := by
  have e : ((x : Int) * 4294967296) = ((x * 4294967296 : Nat) : Int) := by omega
  rw [e, u64_or_nat (x * 4294967296) y (by omega) (by omega)]
  have : x * 4294967296 ||| y = x * 4294967296 + y := by
    rw [show x * 4294967296 = x <<< 32 from by rw [Nat.shiftLeft_eq], Nat.shiftLeft_add_eq_or_of_lt hy]
  rw [this]
theorem lenL_small {N : Nat} : lenL N ≤ 2 ↔ N < 18446744073709551616 := by rw [lenL_le]; simp [Bw]

end Go.Proofs.Ytjakmpphfjhbaaa
