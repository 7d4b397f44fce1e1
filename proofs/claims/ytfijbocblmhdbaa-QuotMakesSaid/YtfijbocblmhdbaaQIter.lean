/- Contract of package quot's quotient: the quotient's limbs come by a range over a function, from the highest one on, and what they are worth is taken from the rest. -/
import Derived.Shelf.Abstract
import Derived.Shelf.RegionOpen
import Derived.OwnWalkIn
import Derived.TacticsInMore
import Derived.LoopNIn
import Derived.LoopIn
import Derived.Sort.QuietIn
import Derived.Test.YtfijbocblmhdbaaGGen
import Derived.Test.YtfijbocblmhdbaaGQuotA
namespace Go.Proofs.Ytfijbocblmhdbaa
open Go Go.RowKit
attribute [local go_sem] Oper.semAt_some

set_option maxHeartbeats 1000000 in
theorem quotient_in (A A' : Option Addr) (n c n' c' : Nat) (w : World) :
    CallsIn Fence.wide 0 Try.prog 33 #[.slice A n c, .slice A' n' c'] w fun e w' =>
      e = .returned (.func (.func 42) #[] #[.pointer (some ⟨w.heap.size + 1, 0, none⟩), .pointer (some ⟨w.heap.size, 0, none⟩)]) ∧
      w' = (w.alloc (.cells #[.slice A n c] 23)).alloc (.cells #[.slice A' n' c'] 23) := by
  refine callsIn_wide.2 ?_
  go_enter Try.func33, Try.ntmps33
  go_wp2
  go_ret
  exact ⟨rfl, rfl⟩

/-- What the iterator of 'quotient' reads: its boxes, what is divided by, the rest. -/
structure QSrc (bd br g L n cr cd V D m : Nat) (A' : Option Addr) (s : Nat × Nat) (W : World) : Prop where
  b1 : W.cell? ⟨bd, 0, none⟩ = some (.slice A' n cd)
  b2 : W.cell? ⟨br, 0, none⟩ = some (.slice (some ⟨g, 0, none⟩) L cr)
  d1 : Rn W g A' n D
  d2 : Rd W W.heap.size A' n D
  r : Buf W g L (V % (D * Bw ^ s.2))
  g1 : g < W.heap.size
  s1 : s.1 ≤ m
  s2 : br < W.heap.size

/-- A limb's worth is taken from the rest. -/
def QMv (g L V D : Nat) (s s' : Nat × Nat) (A B : World) : Prop := s.2 = s.1 ∧ s' = (s.1, s.1 - 1) ∧ A.grownBy B (some g) ∧ Buf B g L (V % (D * Bw ^ (s.1 - 1)))

theorem Buf.win {W : World} {g L O i n hi : Nat} (hb : Buf W g L O) (hO : O < Bw ^ (i + n)) (hin : i + n ≤ L) (hg : g < hi) : Rd W hi (some ⟨g, i, none⟩) n (O / Bw ^ i) :=
  ⟨by rw [Nat.div_lt_iff_lt_mul (pow_pos_Bw i), Nat.mul_comm, ← Nat.pow_add]; exact hO, fun _ => ⟨_, rfl, hg, fun j hj => by
    have := (hb (i + j) (by omega)).1
    have e : (⟨g, i, none⟩ : Addr).add j = ⟨g, i + j, none⟩ := by unfold Addr.add; split <;> simp_all
    rw [e, this]
    congr 2
    have := dig_put (Y := O / Bw ^ i) (Nat.mod_lt O (pow_pos_Bw i)) (i + j)
    rw [if_neg (by omega), Nat.mod_add_div, show i + j - i = j by omega] at this
    exact congrArg _ this⟩⟩

theorem Rd.other {W W' : World} {hi hi' g n N : Nat} {A : Option Addr} (h : Rd W hi A n N) (h' : Rn W g A n N) (hg : W.grownBy W' (some g)) (hh : hi ≤ hi') : Rd W' hi' A n N :=
  ⟨h.1, fun hn => by
    obtain ⟨ad, e, hb, hc⟩ := h.2 hn
    obtain ⟨ad', e', hb', hc'⟩ := h'.2 hn
    rw [e] at e'
    cases e'
    exact ⟨ad, e, by omega, fun j hj => hg.cell (hc j hj) (by rw [add_block]; intro e; injection e; omega)⟩⟩

set_option maxRecDepth 100000 in
set_option maxHeartbeats 4000000 in
theorem quotient1_tells (bd br g L n cr cd V D m : Nat) (A' : Option Addr) (hn : 2 ≤ n) (hL : L = n + m) (hLb : L ≤ 1000000000) (hcr : L ≤ cr) (hcr2 : cr ≤ 1000000000) (hcd : n ≤ cd) (hcd2 : cd ≤ maxLen) (hD : dig D (n - 1) ≠ 0) (hDn : D < Bw ^ n) (hne : bd ≠ g ∧ br ≠ g)
    (I : Nat × Nat → World → Prop) (hI : ∀ s W, I s W → QSrc bd br g L n cr cd V D m A' s W) (F : Fence) (hF : F = Fence.wide) :
    TellsW F 9 Try.prog 42 #[.pointer (some ⟨bd, 0, none⟩), .pointer (some ⟨br, 0, none⟩)] (fun x : Nat × Nat => #[.int .i64 (x.1 : Nat), .int .u32 (x.2 : Nat)])
      (fun s x => s.1 = s.2 + 1 ∧ x = (s.2, dig (V / D) s.2)) (fun s _ => (s.2, s.2)) (m, m) (fun s => s = (0, 0)) (fun _ => True) I (QMv g L V D) := by
  subst hF hL
  intro l J Jx W hJI hJ hJx hM hY h0
  have H0 := hI _ _ (hJI _ _ h0)
  have hb1 := H0.b1
  have hb2 := H0.b2
  have hDp : 0 < D := by
    rcases Nat.eq_zero_or_pos D with h | h
    · subst h; simp [dig_zero] at hD
    · exact h
  have hi0 : ((n : Int) + (m : Int) - (n : Int) - 1) = (m : Int) - 1 := by omega
  clear H0
  refine callsIn_of_wp Try.func42 rfl trivial ?_ rfl
  simp only [Try.ntmps42, List.size_toArray, List.length_cons, List.length_nil, Nat.reduceAdd, Nat.reduceSub, Array.replicate_succ, Array.replicate_zero, List.push_toArray, List.append_toArray, List.nil_append, List.cons_append]
  gi_wp2
  gi_loopw [5] (fun i wr => ∃ k : Nat, k ≤ m ∧ i = .int .i64 ((k : Int) - 1) ∧ J (k, k) wr) (fun i _ => (intOf i + 1).toNat)
  case atStart => exact ⟨m, Nat.le_refl _, by first | rfl | rw [hi0], h0⟩
  case round =>
    obtain ⟨k, hk, rfl, hJs⟩ := hrel
    have HS := hI _ _ (hJI _ _ hJs)
    have hb1 := HS.b1
    have hb2 := HS.b2
    rcases Nat.eq_zero_or_pos k with h0 | h0
    · subst h0
      clear hb1 hb2
      gi_wp2
      go_end0
      exact ⟨⟨_, rfl⟩, .inl ⟨_, rfl, hJs⟩⟩
    · obtain ⟨i, rfl⟩ : ∃ i, k = i + 1 := ⟨k - 1, by omega⟩
      obtain ⟨R, hR⟩ : ∃ R, R = V % (D * Bw ^ (i + 1)) := ⟨_, rfl⟩
      obtain ⟨q1, q2, q3, q4⟩ := quo_step hDp hR
      obtain ⟨qt, hqt⟩ : ∃ qt, dig (V / D) i = qt := ⟨_, rfl⟩
      obtain ⟨X, hX⟩ : ∃ X, V % (D * Bw ^ i) = X := ⟨_, rfl⟩
      have hqtb := dig_lt (V / D) i
      rw [hqt] at q2 q3 hqtb
      rw [hX] at q3 q4
      have hRlt : R < Bw ^ (i + (n + 1)) := by
        rw [hR]
        refine Nat.lt_of_lt_of_le (Nat.mod_lt _ (Nat.mul_pos hDp (pow_pos_Bw _))) ?_
        rw [show i + (n + 1) = n + (i + 1) by omega, Nat.pow_add Bw n (i + 1)]
        exact Nat.mul_le_mul_right _ (Nat.le_of_lt hDn)
      have hlm : i + (n + 1) ≤ n + m := by omega
      have hBf : Buf wr g (n + m) R := by rw [hR]; exact HS.r
      have hii : (((i + 1 : Nat) : Int) - 1) = (i : Int) := by omega
      rw [hii]
      have hw : i + n + 1 - i = n + 1 := by omega
      have EG := Lib.hid (guess_any wr wr.heap.size (some ⟨g, i, none⟩) A' n (n + 1) (cr - i) cd (R / Bw ^ i) D (hBf.win hRlt hlm HS.g1) HS.d2 (Nat.le_refl _) hn (by omega) hD q1)
      rw [q2] at EG
      have ET := Lib.hid (fun (W : World) (q : Nat) (hb : Buf W g (n + m) R) (hd : Rn W g A' n D) (hq : q < 4294967296) => takeTimes_any W g (n + m) i (n + 1) (cr - i) n cd R D q A' hb hRlt hlm (Nat.le_refl _) (by omega) (by omega) hd hq)
      have EB := Lib.hid (fun (W : World) (O : Nat) (hb : Buf W g (n + m) O) (hO : O < Bw ^ (i + (n + 1))) (hd : Rd W W.heap.size A' n D) (hg : g < W.heap.size) (hs : Bw ^ (n + 1) ≤ O / Bw ^ i + D) => giveBack_any W g (n + m) i (cr - i) n cd O D A' hb hO hlm (by omega) (by simp only [maxLen]; omega) hd hcd hcd2 (by omega) hg hs)
      have HBf := Lib.hid hBf
      have HSh := Lib.hid HS
      have Hqt := Lib.hid hqt
      have HX := Lib.hid hX
      have Q3 := Lib.hid q3
      have Q4 := Lib.hid q4
      have HR := Lib.hid hRlt
      have hlX : X ≤ R := by omega
      clear hBf HS hqt hX q3 q4 hRlt q1 q2 hR hlX
      gi_wp2_with fail
      refine ⟨trivial, ?_⟩
      rw [hw]
      refine (callsIn_wide.2 EG.out).mono ?_
      rintro e W1 ⟨q, k', rfl, g1, g2, g3, rfl⟩
      have hd1 : Rn (wr.drewN k') g A' n D := HSh.out.d1
      have hJ1 := hJ _ _ _ hJs (grown_drewN wr k' none)
      have hb1 : (wr.drewN k').cell? ⟨bd, 0, none⟩ = _ := hb1
      gi_wp2_with fail
      refine ⟨trivial, ?_⟩
      refine (callsIn_wide.2 (ET.out (wr.drewN k') q (HBf.out.drew k') hd1 g3)).mono ?_
      rintro e W2 ⟨b, O', b1, rfl, hG, hB2, hO', ht⟩
      have hG0 : wr.grownBy W2 (some g) := (grown_drewN wr k' (some g)).trans hG
      have hcd : W2.cell? ⟨bd, 0, none⟩ = _ := hG0.cell HSh.out.b1 (fun e => hne.1 (by injection e))
      rcases Nat.eq_zero_or_pos b with hz | hz
      · obtain ⟨rfl, rfl⟩ := quo_right Q3.out g1 g2 Q4.out ht hz
        have hJ2 := hM _ (i + 1, i) _ _ hJs ⟨rfl, rfl, hG0, by rw [show (i + 1 : Nat) - 1 = i by omega, HX.out]; exact hB2⟩
        obtain ⟨fn, tmps, assign, body, hy, hRd⟩ := hY (i + 1, i) (i, q) W2 hJ2 ⟨rfl, by rw [Hqt.out]⟩
        dsimp only at hy
        have hbz : decide (0 < b) = false := by simp [hz]
        rw [hbz]
        clear hB2 ht hG hd1
        gi_wp2
        refine hRd.mono ?_
        rintro e W3 ⟨b, rfl, hb1, hb2⟩
        have g1 := Lib.hid hb1
        have g2 := Lib.hid hb2
        clear hb1 hb2
        cases b
        · gi_wp2
          refine bodyPost_ret (results_none rfl _ _ _) rfl ?_
          exact ⟨⟨_, rfl⟩, .inr ⟨_, (by first | exact ⟨trivial, g2.out (by first | rfl | trivial)⟩ | exact g2.out (by first | rfl | trivial))⟩⟩
        · gi_wp2
          go_roundw
          case rel => exact ⟨i, by omega, by go_num, g1.out (by first | rfl | trivial)⟩
          case measure => simp [intOf]
      · obtain ⟨hq, hOe⟩ := quo_wrong Q3.out g1 g2 hO' b1 ht hz
        obtain ⟨hs, he⟩ := quo_back (m := n + 1) hOe (by have := Q3.out; have := HR.out; omega)
        have hqi : (q : Int) - 1 = (qt : Int) := by omega
        have hbz : decide (0 < b) = true := by simp [hz]
        have EB2 := Lib.hid (EB.out W2 O' hB2 hO' (HSh.out.d2.other HSh.out.d1 hG0 hG0.size) (Nat.lt_of_lt_of_le HSh.out.g1 hG0.size) hs)
        rw [he] at EB2
        rw [hbz]
        clear hB2 ht hG hd1 hs he hOe hq
        gi_wp2_with fail
        refine ⟨trivial, ?_⟩
        refine (callsIn_wide.2 EB2.out).mono ?_
        rintro e W3 ⟨⟨v, rfl⟩, hG3, hB3⟩
        have hJ2 := hM _ (i + 1, i) _ _ hJs ⟨rfl, rfl, hG0.trans hG3, by rw [show (i + 1 : Nat) - 1 = i by omega, HX.out]; exact hB3⟩
        obtain ⟨fn, tmps, assign, body, hy, hRd⟩ := hY (i + 1, i) (i, qt) W3 hJ2 ⟨rfl, by rw [Hqt.out]⟩
        dsimp only at hy
        clear hB3
        gi_wp2
        refine hRd.mono ?_
        rintro e W4 ⟨b, rfl, hb1, hb2⟩
        have g1 := Lib.hid hb1
        have g2 := Lib.hid hb2
        clear hb1 hb2
        cases b
        · gi_wp2
          refine bodyPost_ret (results_none rfl _ _ _) rfl ?_
          exact ⟨⟨_, rfl⟩, .inr ⟨_, (by first | exact ⟨trivial, g2.out (by first | rfl | trivial)⟩ | exact g2.out (by first | rfl | trivial))⟩⟩
        · gi_wp2
          go_roundw
          case rel => exact ⟨i, by omega, by go_num, g1.out (by first | rfl | trivial)⟩
          case measure => simp [intOf]
end Go.Proofs.Ytfijbocblmhdbaa
