/- Contracts of the reference's By, All, count, Pow, Great of layer 2. -/
import Derived.Test.YtjakmpphfjhbaaaMul
namespace Go.Proofs.Ytjakmpphfjhbaaa
open Go Go.RowKit

/-- A number of the call's own lies in a place. -/
def Has (w : World) (N : Nat) (v : Value) (w' : World) : Prop :=
  ∃ A c, v = .slice A (lenL N) c ∧ lenL N ≤ c ∧ c ≤ maxLen ∧ Fr w' w.heap.size w'.heap.size A (lenL N) N ∧ Below w.heap.size w w'
theorem Has.gives {w w' : World} {N : Nat} {v : Value} (h : Has w N v w') : Gives w N (.returned v) w' := by
  obtain ⟨A, c, rfl, h1, h2, h3, h4⟩ := h
  exact ⟨A, c, rfl, h1, h2, h3, h4⟩
theorem len_one : lenL 1 = 1 := by decide
theorem Has.one (w : World) (t : TypeId) : Has w 1 (.slice (some ⟨w.heap.size, 0, none⟩) 1 1) (w.alloc (.cells #[.int .u32 1] t)) := by
  refine ⟨some ⟨w.heap.size, 0, none⟩, 1, by rw [len_one], by rw [len_one]; omega, by simp [maxLen], ?_, (Below.refl _ _).alloc (Nat.le_refl _) _⟩
  rw [World.size_alloc, len_one]
  refine Fr.lit (Nat.le_refl _) (by decide) (fun j hj => ?_)
  obtain rfl : j = 0 := by omega
  rfl

set_option maxHeartbeats 1000000 in
theorem rBy_any (w : World) (A : Option Addr) (n c N M : Nat) (h : Rd w w.heap.size A n N) (hn : n ≤ 1000000) (hM : M < 4294967296) :
    Calls Try.prog 16 #[.slice A n c, .int .u32 M] w (Gives w (N * M)) := by
  have hE : Env w [] w := Env.start (by simp)
  have ho := one_limb w (N := M) (v := (M : Nat)) rfl rfl hM
  have hx : Rd (w.alloc (.cells #[.int .u32 (M : Nat)] 25)) (w.alloc (.cells #[.int .u32 (M : Nat)] 25)).heap.size A n N := (h.below ((Below.refl _ w).alloc (Nat.le_refl _) _)).more (by simp)
  have HM := Lib.hid (rMul_any _ A _ n 1 c 1 N M hx ho.1 hn (by omega))
  go_enter Try.func16, Try.ntmps16
  go_wp2_with fail
  refine HM.out.mono ?_
  intro e w' hg
  obtain ⟨A2, c2, rfl, g1, g2, g3, g4⟩ := hg.alloc
  go_wp2
  go_ret
  exact ⟨A2, c2, rfl, g1, g2, g3, g4⟩

/-- The product of all. -/
def prodN (l : List Num) : Nat := (l.map Num.N).prod
theorem prodN_append (l l' : List Num) : prodN (l ++ l') = prodN l * prodN l' := by simp [prodN]
def prodAt (l : List Num) (k : Nat) : Nat := prodN (l.take k)
theorem prodAt_zero (l : List Num) : prodAt l 0 = 1 := rfl
theorem prodAt_succ {l : List Num} {k : Nat} (h : k < l.length) : prodAt l (k + 1) = prodAt l k * l[k].N := by
  unfold prodAt
  rw [List.take_succ_eq_append_getElem h, prodN_append]
  simp [prodN]
theorem prodAt_all (l : List Num) : prodAt l l.length = prodN l := by unfold prodAt; rw [List.take_length]

set_option maxRecDepth 100000 in
set_option maxHeartbeats 1000000 in
theorem rAll_any (w : World) (A : Option Addr) (c : Nat) (l : List Num) (h : Rds w w.heap.size A l) (hl : l.length ≤ 100000000000000) (hb : ∀ x ∈ l, x.n ≤ 100000) (hs : ∀ k, lenL (prodAt l k) ≤ 100000) :
    Calls Try.prog 14 #[.slice A l.length c] w (Gives w (prodN l)) := by
  have HS := Lib.hid hs
  clear hs
  have H1 := Lib.hid (Has.one w 25)
  go_enter Try.func14, Try.ntmps14
  go_wp2
  go_loopw [3, 4] (fun ov i wr => ∃ k : Nat, k ≤ l.length ∧ i = .int .i64 k ∧ Has w (prodAt l k) ov wr) (fun _ i _ => l.length - (intOf i).toNat)
  case atStart => exact ⟨0, Nat.zero_le _, rfl, H1.out⟩
  case round =>
    obtain ⟨k, hk, rfl, RA, Rc, rfl, r1, r2, r3, hB⟩ := hrel
    have hr4 := HS.out k
    obtain ⟨P, hP⟩ : ∃ P, prodAt l k = P := ⟨_, rfl⟩
    rw [hP] at r1 r3 hr4 ⊢
    obtain ⟨m, hm⟩ : ∃ m, lenL P = m := ⟨_, rfl⟩
    have R3 := Lib.hid r3
    rw [hm] at R3 hr4 ⊢
    have HP := Lib.hid hP
    have HMm := Lib.hid hm
    clear r3 hP hm
    by_cases hlt : k < l.length
    · obtain ⟨⟨ad, rfl, hadb, hc⟩, hr, hr1, hr2, hr3⟩ := (h.below hB) k hlt
      have HN := Lib.hid (show P * l[k].N = prodAt l (k + 1) by rw [prodAt_succ hlt, HP.out])
      have hln := hb _ (List.getElem_mem hlt)
      have E := Lib.hid (rMul_any wr RA l[k].A m l[k].n Rc l[k].c P l[k].N R3.out.rd (hr.more hB.size) (by omega) (by omega))
      clear hr hr1 hr2 hr3
      go_wp2_with fail
      refine E.out.mono ?_
      rw [HN.out]
      rintro e w' ⟨A2, c2, rfl, g1, g2, g3, g4⟩
      have hG := Lib.hid (show Has w (prodAt l (k + 1)) (.slice A2 (lenL (prodAt l (k + 1))) c2) w' from ⟨A2, c2, rfl, g1, g2, g3.from hB.size, hB.trans (g4.mono hB.size)⟩)
      clear g1 g2 g3 g4
      go_wp2
      go_roundw
      case rel => exact ⟨k + 1, by omega, by go_num, hG.out⟩
      case measure => simp [intOf]; omega
    · obtain rfl : k = l.length := by omega
      go_wp2
      go_ret
      have := HP.out
      rw [prodAt_all] at this
      subst this
      have := HMm.out
      subst this
      exact ⟨_, _, rfl, r1, r2, R3.out, hB⟩

/-- A count brought into its bounds. -/
theorem count_any (w : World) (k : Int) (m : Nat) (hk : -9223372036854775808 ≤ k ∧ k ≤ 9223372036854775807) (hm : m ≤ 1000000) :
    Calls Try.prog 40 #[.int .i64 k, .int .i64 m] w fun e w' => e = .returned (.int .i64 (min k.toNat m : Nat)) ∧ w = w' := by
  by_cases h0 : k < 0
  · have HV := Lib.hid (show min k.toNat m = 0 by omega)
    go_enter Try.func40, Try.ntmps40
    go_wp2
    go_ret
    exact ⟨by rw [HV.out]; first | rfl | (refine ret_int ?_; omega), rfl⟩
  · obtain ⟨K, rfl⟩ := Int.eq_ofNat_of_zero_le (show 0 ≤ k by omega)
    by_cases h1 : K ≤ m
    · go_enter Try.func40, Try.ntmps40
      go_wp2
      go_ret
      exact ⟨by refine ret_int ?_; omega, rfl⟩
    · go_enter Try.func40, Try.ntmps40
      go_wp2
      go_ret
      exact ⟨by refine ret_int ?_; omega, rfl⟩

theorem pow_len {N n : Nat} (h : N < Bw ^ n) (k : Nat) : lenL (N ^ k) ≤ n * k + 1 := by
  rw [lenL_le]
  have h1 : N ^ k ≤ (Bw ^ n) ^ k := Nat.pow_le_pow_left (by omega) k
  rw [← Nat.pow_mul] at h1
  have h2 : Bw ^ (n * k) < Bw ^ (n * k + 1) := by
    rw [Nat.pow_succ, Bw_eq]
    have := pow_pos_Bw (n * k)
    rw [Bw_eq] at this
    omega
  omega

set_option maxRecDepth 100000 in
set_option maxHeartbeats 1000000 in
theorem rPow_any (w : World) (A : Option Addr) (n c N : Nat) (k : Int) (h : Rd w w.heap.size A n N) (hn : n ≤ 1000) (hk : -9223372036854775808 ≤ k ∧ k ≤ 9223372036854775807) :
    Calls Try.prog 20 #[.slice A n c, .int .i64 k] w (Gives w (N ^ min k.toNat 256)) := by
  have HC := Lib.hid (fun W => count_any W k 256 hk (by omega))
  have HN := Lib.hid h.1
  obtain ⟨m, hm⟩ : ∃ m, min k.toNat 256 = m := ⟨_, rfl⟩
  have hmb : m ≤ 256 := by omega
  rw [hm] at HC ⊢
  have H1 := Lib.hid (Has.one w 25)
  clear hm
  go_enter Try.func20, Try.ntmps20
  go_wp2
  go_loopw [5, 6] (fun ov i wr => ∃ j : Nat, j ≤ m ∧ i = .int .i64 j ∧ Has w (N ^ j) ov wr) (fun _ i _ => m - (intOf i).toNat)
  case atStart => exact ⟨0, Nat.zero_le _, rfl, by rw [Nat.pow_zero]; exact H1.out⟩
  case round =>
    obtain ⟨j, hj, rfl, RA, Rc, rfl, r1, r2, r3, hB⟩ := hrel
    have hr4 := pow_len HN.out j
    have hnj : n * j ≤ 1000 * 256 := Nat.mul_le_mul hn (by omega)
    have HPS := Lib.hid (Nat.pow_succ N j)
    obtain ⟨P, hP⟩ : ∃ P, N ^ j = P := ⟨_, rfl⟩
    rw [hP] at r1 r3 hr4 HPS ⊢
    obtain ⟨q, hq⟩ : ∃ q, lenL P = q := ⟨_, rfl⟩
    have R3 := Lib.hid r3
    rw [hq] at R3 hr4 ⊢
    have HP := Lib.hid hP
    have HMm := Lib.hid hq
    have hqb : q ≤ 256001 := by omega
    clear r3 hP hq hr4 hnj
    by_cases hlt : j < m
    · have E := Lib.hid (rMul_any wr RA A q n Rc c P N R3.out.rd ((h.below hB).more hB.size) (by omega) (by omega))
      rw [← HPS.out] at E
      go_wp2_with (go_at_call 40; refine (HC.out wr).mono ?_; rintro e w' ⟨rfl, rfl⟩)
      refine E.out.mono ?_
      rintro e w' ⟨A2, c2, rfl, g1, g2, g3, g4⟩
      have hG := Lib.hid (show Has w (N ^ (j + 1)) (.slice A2 (lenL (N ^ (j + 1))) c2) w' from ⟨A2, c2, rfl, g1, g2, g3.from hB.size, hB.trans (g4.mono hB.size)⟩)
      clear g1 g2 g3 g4
      go_wp2
      go_roundw
      case rel => exact ⟨j + 1, by omega, by go_num, hG.out⟩
      case measure => simp [intOf]; omega
    · obtain rfl : j = m := by omega
      go_wp2_with (go_at_call 40; refine (HC.out wr).mono ?_; rintro e w' ⟨rfl, rfl⟩)
      go_ret
      have := HP.out
      subst this
      have := HMm.out
      subst this
      exact ⟨_, _, rfl, r1, r2, R3.out, hB⟩
end Go.Proofs.Ytjakmpphfjhbaaa
