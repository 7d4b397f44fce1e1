/- Contract of package prod's Pow: a closure that calls itself on the half of a count. -/
import Derived.Deep.RegionWith
import Derived.Test.YtjakmpphfjhbaaaPMul
namespace Go.Proofs.Ytjakmpphfjhbaaa
open Go Go.RowKit

/-- What the closure is to answer, of counts below m. -/
def PowAt (bx ba : Nat) (A : Option Addr) (n c N m : Nat) : Prop := ∀ (w : World) (k : Nat), Boxed w bx 48 (.func (.func 38) #[] #[.pointer (some ⟨bx, 0, none⟩), .pointer (some ⟨ba, 0, none⟩)]) → Boxed w ba 23 (.slice A n c) → Rd w w.heap.size A n N → k < m → k ≤ 256 →
  Calls Try.prog 38 #[.int .i64 k, .pointer (some ⟨bx, 0, none⟩), .pointer (some ⟨ba, 0, none⟩)] w (Gives w (N ^ k))

theorem pow_bound {N n k : Nat} (h : N < Bw ^ n) (hn : n ≤ 1000000) (hk : k ≤ 256) : lenL (N ^ k) ≤ 256000001 := by
  have h1 := pow_len h k
  have h2 : n * k ≤ 1000000 * 256 := Nat.mul_le_mul hn hk
  omega
theorem pow_even (N h : Nat) : N ^ h * N ^ h = N ^ (2 * h) := by rw [← Nat.pow_add, show h + h = 2 * h by omega]
theorem pow_odd (N h : Nat) : N ^ (2 * h) * N = N ^ (2 * h + 1) := (Nat.pow_succ N (2 * h)).symm

set_option maxRecDepth 100000 in
set_option maxHeartbeats 4000000 in
theorem pow1_step (bx ba : Nat) (A : Option Addr) (n c N m : Nat) (hn : n ≤ 1000000) (hnc : n ≤ c) (hcb : c ≤ maxLen) (HP : PowAt bx ba A n c N m) : PowAt bx ba A n c N (m + 1) := by
  intro w k hbx hba h hk hk2
  rcases Nat.eq_zero_or_pos k with h0 | h0
  · subst h0
    have E := Lib.hid (Of_any w 1 (by omega))
    have HS := Lib.hid (Nat.pow_zero N)
    clear hk hk2
    go_enter Try.func38, Try.ntmps38
    go_wp2_with fail
    refine E.out.mono ?_
    rintro e w' ⟨A2, c2, rfl, g1, g2, g3, g4⟩
    go_wp2
    go_ret
    rw [HS.out]
    exact ⟨A2, c2, rfl, g1, g2, g3, g4⟩
  · obtain ⟨q, hq⟩ : ∃ q, k / 2 = q := ⟨_, rfl⟩
    have hqi : (k : Int) / 2 = (q : Int) := by omega
    have HN := Lib.hid h.1
    have E := Lib.hid (HP w q hbx hba h (by omega) (by omega))
    have l1 := pow_bound h.1 hn (show q ≤ 256 by omega)
    have l2 := pow_bound h.1 hn (show 2 * q ≤ 256 by omega)
    have hcx := hbx.cell
    have HE := Lib.hid (pow_even N q)
    have HO := Lib.hid (pow_odd N q)
    rcases Nat.mod_two_eq_zero_or_one k with hp | hp
    · have hpi : (k : Int) % 2 = 0 := by omega
      have HK := Lib.hid (show 2 * q = k by omega)
      obtain ⟨P, hP⟩ : ∃ P, N ^ q = P := ⟨_, rfl⟩
      rw [hP] at E l1 HE
      clear hP HO hk hp hq
      go_enter Try.func38, Try.ntmps38
      go_wp2_with fail
      refine E.out.mono ?_
      rintro e w1 ⟨A1, c1, rfl, a1, a2, a3, a4⟩
      have EM := Lib.hid (pMul_any w1 A1 A1 _ _ c1 c1 P P a3.rd a3.rd a1 a2 a1 a2 (by omega) (by omega))
      rw [HE.out, HK.out] at EM
      clear a3
      go_wp2_with fail
      refine EM.out.mono ?_
      rintro e w2 ⟨A2, c2, rfl, b1, b2, b3, b4⟩
      have hB := a4.trans (b4.mono a4.size)
      have HF := Lib.hid (b3.from a4.size)
      clear b3
      go_wp2
      go_ret
      exact ⟨A2, c2, rfl, b1, b2, HF.out, hB⟩
    · have hpi : (k : Int) % 2 = 1 := by omega
      have HK := Lib.hid (show 2 * q + 1 = k by omega)
      obtain ⟨P, hP⟩ : ∃ P, N ^ q = P := ⟨_, rfl⟩
      obtain ⟨S, hS⟩ : ∃ S, N ^ (2 * q) = S := ⟨_, rfl⟩
      rw [hP, hS] at HE
      rw [hP] at E l1
      rw [hS, HK.out] at HO
      rw [hS] at l2
      have hba' := hba
      clear hP hS hk hp hq
      go_enter Try.func38, Try.ntmps38
      go_wp2_with fail
      refine E.out.mono ?_
      rintro e w1 ⟨A1, c1, rfl, a1, a2, a3, a4⟩
      have EM := Lib.hid (pMul_any w1 A1 A1 _ _ c1 c1 P P a3.rd a3.rd a1 a2 a1 a2 (by omega) (by omega))
      rw [HE.out] at EM
      clear a3
      go_wp2_with fail
      refine EM.out.mono ?_
      rintro e w2 ⟨A2, c2, rfl, b1, b2, b3, b4⟩
      have hB := a4.trans (b4.mono a4.size)
      have hca := (boxed_below hba' hB hba'.lt).cell
      have EN := Lib.hid (pMul_any w2 A2 A _ n c2 c S N b3.rd ((h.below hB).more hB.size) b1 b2 hnc hcb (by omega) (by omega))
      rw [HO.out] at EN
      clear b3
      go_wp2_with fail
      refine EN.out.mono ?_
      rintro e w3 ⟨A3, c3, rfl, d1, d2, d3, d4⟩
      have hB3 := hB.trans (d4.mono hB.size)
      have HF := Lib.hid (d3.from hB.size)
      clear d3
      go_wp2
      go_ret
      exact ⟨A3, c3, rfl, d1, d2, HF.out, hB3⟩
theorem powAt (bx ba : Nat) (A : Option Addr) (n c N m : Nat) (hn : n ≤ 1000000) (hnc : n ≤ c) (hcb : c ≤ maxLen) : PowAt bx ba A n c N m := by
  induction m with
  | zero => intro w k _ _ _ h; omega
  | succ m ih => exact pow1_step bx ba A n c N m hn hnc hcb ih

set_option maxRecDepth 100000 in
set_option maxHeartbeats 4000000 in
theorem pPow_any (w : World) (A : Option Addr) (n c N : Nat) (k : Int) (h : Rd w w.heap.size A n N) (hnc : n ≤ c) (hcb : c ≤ maxLen) (hn : n ≤ 1000000) (hk : -9223372036854775808 ≤ k ∧ k ≤ 9223372036854775807) :
    Calls Try.prog 19 #[.slice A n c, .int .i64 k] w (Gives w (N ^ min k.toNat 256)) := by
  have HC := Lib.hid (fun W => pcount_any W k 256 hk (by omega))
  obtain ⟨m, hm⟩ : ∃ m, min k.toNat 256 = m := ⟨_, rfl⟩
  have hmb : m ≤ 256 := by omega
  rw [hm] at HC ⊢
  clear hm
  have bA := Boxed.new w 23 (.slice A n c)
  have bP := Boxed.new (w.alloc (.cells #[.slice A n c] 23)) 48 (.func (.func 38) #[] #[.pointer (some ⟨w.heap.size + 1, 0, none⟩), .pointer (some ⟨w.heap.size, 0, none⟩)])
  rw [World.size_alloc] at bP
  replace bA := bA.alloc (.cells #[.func (.func 38) #[] #[.pointer (some ⟨w.heap.size + 1, 0, none⟩), .pointer (some ⟨w.heap.size, 0, none⟩)]] 48)
  have hB : Below w.heap.size w ((w.alloc (.cells #[.slice A n c] 23)).alloc (.cells #[.func (.func 38) #[] #[.pointer (some ⟨w.heap.size + 1, 0, none⟩), .pointer (some ⟨w.heap.size, 0, none⟩)]] 48)) := ((Below.refl _ w).alloc (Nat.le_refl _) _).alloc (by simp) _
  have E := Lib.hid (powAt (w.heap.size + 1) w.heap.size A n c N (m + 1) hn hnc hcb (World.drew ((w.alloc (.cells #[.slice A n c] 23)).alloc (.cells #[.func (.func 38) #[] #[.pointer (some ⟨w.heap.size + 1, 0, none⟩), .pointer (some ⟨w.heap.size, 0, none⟩)]] 48))) m bP bA ((h.below hB).more hB.size) (by omega) hmb)
  have HB := Lib.hid hB
  clear hB bA bP
  go_enter Try.func19, Try.ntmps19
  go_wp2
  go_region_with (first
    | (go_at_call 39; refine (HC.out _).mono ?_; rintro e w' ⟨rfl, rfl⟩)
    | (go_at_call 38; refine E.out.mono ?_; rintro e w' ⟨A2, c2, rfl, g1, g2, g3, g4⟩))
  all_goals
    have hBB := HB.out.trans ((below_drew g4).mono HB.out.size)
    have HF := Lib.hid (show Fr w' w.heap.size w'.heap.size A2 (lenL (N ^ m)) (N ^ m) from g3.from HB.out.size)
    clear g3 g4
    go_wp2
    go_ret
    exact ⟨A2, c2, rfl, g1, g2, HF.out, hBB⟩
end Go.Proofs.Ytjakmpphfjhbaaa
