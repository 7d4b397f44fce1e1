/- Contract of the reference's twos of layer 4: how often a number can be halved. -/
import Derived.Deep.LoopGhost
import Derived.Test.YtkijjcladecooaaDoorGNum
import Derived.Test.YtkijjcladecooaaDoorGRefC
import Derived.Test.YtkijjcladecooaaDoorGRefA
import Derived.Test.YtkijjcladecooaaDoorGRefB
import Derived.Test.YtkijjcladecooaaDoorRDiv
namespace Go.Proofs.YtkijjcladecooaaDoor
open Go Go.RowKit

theorem half_more {d s t : Nat} (h : d / 2 ^ s = t) (h0 : d % 2 ^ s = 0) (ht : t % 2 = 0) : d / 2 ^ (s + 1) = t / 2 ∧ d % 2 ^ (s + 1) = 0 := by
  rw [Nat.pow_succ, ← Nat.div_div_eq_div_mul, Nat.mod_mul, h, h0, ht]
  exact ⟨rfl, by omega⟩

set_option maxRecDepth 100000 in
set_option maxHeartbeats 2000000 in
theorem twos_any (w : World) (A : Option Addr) (n c N : Nat) (h : Rd w w.heap.size A n N) (hn : n ≤ 1000000) (h0 : N ≠ 0) :
    Calls Tryd.prog 34 #[.slice A n c] w fun e w' => ∃ k : Nat, e = .returned (.int .i64 k) ∧ IsTwos N k ∧ k < 32 * n ∧ w = w' := by
  have HX := Lib.hid h.1
  have H0 := Lib.hid h0
  clear h0
  go_enter Tryd.func34, Tryd.ntmps34
  go_wp2
  go_loop [3, 4] (fun nv iv => ∃ j : Nat, j ≤ n ∧ iv = .int .i64 j ∧ nv = .int .i64 (32 * j : Nat) ∧ Hid (N % Bw ^ j = 0)) (fun _ iv => n - (intOf iv).toNat)
  case atStart => exact ⟨0, Nat.zero_le _, rfl, rfl, Lib.hid (by simp [Nat.mod_one])⟩
  case round =>
    obtain ⟨j, hj, rfl, rfl, hm⟩ := hrel
    by_cases hlt : j < n
    · obtain ⟨ad, rfl, _, hc⟩ := h.at_ hlt
      by_cases hd : dig N j = 0
      · rw [hd] at hc
        have HM := Lib.hid (show N % Bw ^ (j + 1) = 0 by rw [mod_succ, hm.out, hd, Nat.mul_zero])
        clear hd
        go_wp2
        go_round
        case rel => exact ⟨j + 1, by omega, by go_num, by refine int_i64 ?_; omega, HM⟩
        case measure => simp [intOf]; omega
      · have hb : ((dig N j : Int) == 0) = false := by rw [beq_eq_false_iff_ne]; omega
        have hjq : ((32 * j : Nat) : Int) / 32 = (j : Int) := by omega
        have HD := Lib.hid hd
        have hdl := dig_lt N j
        obtain ⟨p, hp⟩ : ∃ p, 32 * j = p := ⟨_, rfl⟩
        rw [hp] at hjq ⊢
        have HP := Lib.hid hp
        have hpb : p ≤ 32000000 := by omega
        clear hd hp
        go_wp2
        go_loop [3, 5] (fun nv tv => ∃ s t : Nat, s ≤ 32 ∧ nv = .int .i64 (p + s : Nat) ∧ tv = .int .u32 t ∧ t ≠ 0 ∧ t < 4294967296 ∧ Hid (dig N j / 2 ^ s = t ∧ dig N j % 2 ^ s = 0)) (fun _ tv => (intOf tv).toNat)
        case atStart => exact ⟨0, dig N j, by omega, by simp, rfl, HD.out, hdl, Lib.hid ⟨by simp, by simp [Nat.mod_one]⟩⟩
        case round =>
          obtain ⟨s, t, hs, rfl, rfl, ht, htb, HH⟩ := hrel
          have hs32 : s < 32 := by
            rcases Nat.lt_or_ge s 32 with h1 | h1
            · exact h1
            · have h2 : (2 : Nat) ^ 32 ≤ 2 ^ s := Nat.pow_le_pow_right (by omega) h1
              have h3 := HH.out.1
              rw [Nat.div_eq_of_lt (by omega)] at h3
              omega
          by_cases ho : t % 2 = 0
          · have hb2 : ((t : Int) % 2 == 0) = true := by rw [beq_iff_eq]; omega
            have HN := Lib.hid (half_more HH.out.1 HH.out.2 ho)
            have hv : IntKind.u32.wrap ((t : Int).tdiv 2) = ((t / 2 : Nat) : Int) := by
              rw [Int.tdiv_eq_ediv_of_nonneg (by omega)]
              show ((t : Int) / 2) % 4294967296 = _
              omega
            have ht2 : t / 2 ≠ 0 := by omega
            have hlt2 : t / 2 < t := by omega
            clear ho
            go_wp2
            go_round
            case rel => exact ⟨s + 1, t / 2, by omega, by refine int_i64 ?_; omega, by first | rfl | rw [hv], ht2, by omega, HN⟩
            case measure => simp [intOf]; omega
          · have hb2 : ((t : Int) % 2 == 0) = false := by rw [beq_eq_false_iff_ne]; omega
            have HO := Lib.hid (show t % 2 = 1 by omega)
            clear ho
            go_wp2
            go_ret
            obtain ⟨m, e1, e2⟩ := twos_dig hm.out HH.out.1 HH.out.2 HO.out
            rw [HP.out] at e1
            exact ⟨p + s, by first | rfl | (refine ret_int ?_; omega), ⟨m, e1, e2⟩, by have := HP.out; omega, rfl⟩
    · obtain rfl : j = n := by omega
      have := hm.out
      rw [mod_full HX.out] at this
      exact absurd this H0.out
end Go.Proofs.YtkijjcladecooaaDoor

/- Contract of the reference's Gcd of layer 4: halving, and taking the less from the greater. -/
namespace Go.Proofs.YtkijjcladecooaaDoor
open Go Go.RowKit

theorem twos_E {w W : World} {e : List Num} {x : Num} (h : Env w e W) (hx : x ∈ e) (bx : x.n ≤ 1000000) (h0 : x.N ≠ 0) :
    Calls Tryd.prog 34 #[.slice x.A x.n x.c] W fun e' W' => ∃ k : Nat, e' = .returned (.int .i64 k) ∧ IsTwos x.N k ∧ k < 32 * x.n ∧ W = W' :=
  twos_any W _ _ _ _ (h.2 x hx).1 bx h0

set_option maxRecDepth 100000 in
set_option maxHeartbeats 2000000 in
theorem rGcd_first (w : World) (x y : Num) (hx : x.ok w w.heap.size) (hy : y.ok w w.heap.size) (_hn : x.n ≤ 800) (hn' : y.n ≤ 800) (h0 : x.N = 0) :
    Calls Tryd.prog 14 #[.slice x.A x.n x.c, .slice y.A y.n y.c] w (Gives w (Nat.gcd x.N y.N)) := by
  have hE0 : Env w [x, y] w := Env.start (by simp; exact ⟨hx, hy⟩)
  have HLy := Lib.hid (lenL_le.2 hy.1.1)
  have H0 := Lib.hid h0
  rw [h0, Nat.gcd_zero_left]
  clear hx hy h0
  go_enter Tryd.func14, Tryd.ntmps14
  go_wp2_with fail
  refine (rTrim_E (x := x) hE0 (by simp)).mono ?_
  rintro e W1 ⟨⟨aA, an, ac, aN⟩, rfl, haN, han, hE1, -⟩
  rw [H0.out] at haN han
  obtain rfl : aN = 0 := haN
  obtain rfl : an = 0 := han
  go_wp2_with fail
  refine (rTrim_E (x := y) hE1 (by simp)).mono ?_
  rintro e W2 ⟨b, rfl, bN, bn, hE2, -⟩
  have bb : b.n ≤ 800 := by rw [bn]; have := HLy.out; omega
  replace bN := Lib.hid bN
  replace bn := Lib.hid bn
  go_wp2_with fail
  refine (rAdd2_E (x := ⟨aA, 0, ac, 0⟩) (y := b) hE2 (by simp) (by simp) rfl (by simp) (by omega)).mono ?_
  intro e W3 hb
  rw [bN.out, Nat.zero_add] at hb
  obtain ⟨A, c, rfl, g1, g2, g3, g4⟩ := gives_of_back hb hE2.1.size
  go_wp2
  go_ret
  exact ⟨A, c, rfl, g1, g2, g3, g4⟩

set_option maxRecDepth 100000 in
set_option maxHeartbeats 2000000 in
theorem rGcd_second (w : World) (x y : Num) (hx : x.ok w w.heap.size) (hy : y.ok w w.heap.size) (hn : x.n ≤ 800) (_hn' : y.n ≤ 800) (h1 : x.N ≠ 0) (h0 : y.N = 0) :
    Calls Tryd.prog 14 #[.slice x.A x.n x.c, .slice y.A y.n y.c] w (Gives w (Nat.gcd x.N y.N)) := by
  have hE0 : Env w [x, y] w := Env.start (by simp; exact ⟨hx, hy⟩)
  have HLx := Lib.hid (lenL_le.2 hx.1.1)
  have H0 := Lib.hid h0
  have H1 := Lib.hid (lenL_pos h1)
  rw [h0, Nat.gcd_zero_right]
  clear hx hy h0 h1
  go_enter Tryd.func14, Tryd.ntmps14
  go_wp2_with fail
  refine (rTrim_E (x := x) hE0 (by simp)).mono ?_
  rintro e W1 ⟨a, rfl, aN, an, hE1, -⟩
  have ab : a.n ≤ 800 := by rw [an]; have := HLx.out; omega
  have a0 : 0 < a.n := by rw [an]; exact H1.out
  have a1 : ((a.n : Int) == 0) = false := by rw [beq_eq_false_iff_ne]; omega
  replace aN := Lib.hid aN
  replace an := Lib.hid an
  go_wp2_with fail
  refine (rTrim_E (x := y) hE1 (by simp)).mono ?_
  rintro e W2 ⟨⟨bA, bn, bc, bN⟩, rfl, hbN, hbn, hE2, -⟩
  rw [H0.out] at hbN hbn
  obtain rfl : bN = 0 := hbN
  obtain rfl : bn = 0 := hbn
  go_wp2_with fail
  refine (rAdd2_E (x := a) (y := ⟨bA, 0, bc, 0⟩) hE2 (by simp) (by simp) rfl (by omega) (by simp)).mono ?_
  intro e W3 hb
  rw [aN.out, Nat.add_zero] at hb
  obtain ⟨A, c, rfl, g1, g2, g3, g4⟩ := gives_of_back hb hE2.1.size
  go_wp2
  go_ret
  exact ⟨A, c, rfl, g1, g2, g3, g4⟩

set_option maxRecDepth 100000 in
set_option maxHeartbeats 4000000 in
theorem rGcd_both (w : World) (x y : Num) (hx : x.ok w w.heap.size) (hy : y.ok w w.heap.size) (hn : x.n ≤ 800) (hn' : y.n ≤ 800) (h1 : x.N ≠ 0) (h2 : y.N ≠ 0) :
    Calls Tryd.prog 14 #[.slice x.A x.n x.c, .slice y.A y.n y.c] w (Gives w (Nat.gcd x.N y.N)) := by
  have hE0 : Env w [x, y] w := Env.start (by simp; exact ⟨hx, hy⟩)
  have HLx := Lib.hid (lenL_le.2 hx.1.1)
  have HLy := Lib.hid (lenL_le.2 hy.1.1)
  have H1 := Lib.hid h1
  have H2 := Lib.hid h2
  have H1' := Lib.hid (lenL_pos h1)
  have H2' := Lib.hid (lenL_pos h2)
  clear hx hy h1 h2
  go_enter Tryd.func14, Tryd.ntmps14
  go_wp2_with fail
  refine (rTrim_E (x := x) hE0 (by simp)).mono ?_
  rintro e W1 ⟨a, rfl, aN, an, hE1, -⟩
  have ab : a.n ≤ 800 := by rw [an]; have := HLx.out; omega
  have a0 : 0 < a.n := by rw [an]; exact H1'.out
  have a1 : ((a.n : Int) == 0) = false := by rw [beq_eq_false_iff_ne]; omega
  replace aN := Lib.hid aN
  replace an := Lib.hid an
  go_wp2_with fail
  refine (rTrim_E (x := y) hE1 (by simp)).mono ?_
  rintro e W2 ⟨b, rfl, bN, bn, hE2, -⟩
  have bb : b.n ≤ 800 := by rw [bn]; have := HLy.out; omega
  have b0 : 0 < b.n := by rw [bn]; exact H2'.out
  have b1 : ((b.n : Int) == 0) = false := by rw [beq_eq_false_iff_ne]; omega
  replace bN := Lib.hid bN
  replace bn := Lib.hid bn
  go_wp2_with fail
  refine (twos_E (x := a) hE2 (by simp) (by omega) (by rw [aN.out]; exact H1.out)).mono ?_
  rintro e W3 ⟨k1, rfl, hk1, hkb1, rfl⟩
  replace hk1 := Lib.hid hk1
  go_wp2_with fail
  refine (twos_E (x := b) hE2 (by simp) (by omega) (by rw [bN.out]; exact H2.out)).mono ?_
  rintro e W3 ⟨k2, rfl, hk2, hkb2, rfl⟩
  replace hk2 := Lib.hid hk2
  obtain ⟨D, hI, hG⟩ : ∃ D, GcdInv D a.N b.N ∧ Nat.gcd x.N y.N = D * 2 ^ min k1 k2 := by
    obtain ⟨m, e1, o1⟩ := hk1.out
    obtain ⟨m', e2, o2⟩ := hk2.out
    refine ⟨Nat.gcd m m', by rw [e1, e2]; exact gcd_start o1 o2, ?_⟩
    rw [← gcd_twos o1 o2, ← e1, ← e2, aN.out, bN.out]
  have HI := Lib.hid hI
  have HG := Lib.hid hG
  have HA := Lib.hid (show a.n = lenL a.N by rw [an.out, aN.out])
  clear hI hG
  go_wp2
  all_goals
    go_loopg [0, 1] (a.N + b.N) (fun k av bv wr => ∃ r s : Num, av = .slice r.A r.n r.c ∧ bv = .slice s.A s.n s.c ∧ r.n ≤ 800 ∧ s.n ≤ 800 ∧ Hid (r.n = lenL r.N) ∧ Hid (Env w [r, s] wr) ∧ Hid (GcdInv D r.N s.N) ∧ Hid (r.N + s.N ≤ k))
    case atStart => exact ⟨a, b, rfl, rfl, ab, bb, HA, Lib.hid (hE2.pick (by simp)), HI, Lib.hid (Nat.le_refl _)⟩
    case round =>
      obtain ⟨r, s, rfl, rfl, rb, sb, hr, henv, hinv, hle⟩ := hrel
      by_cases h0 : r.N = 0
      · have r0 : r.n = 0 := by rw [hr.out, h0]; rfl
        have HD := Lib.hid (show s.N = D from gcd_end (by rw [← h0]; exact hinv.out))
        clear h0 hr
        go_wp2_with fail
        refine (rUp_E (x := s) henv.out (by simp) (by omega) (by omega)).mono ?_
        intro e W9 hb
        rw [HD.out] at hb
        first
        | (rw [show min ((k1 : Int)).toNat 65536 = min k1 k2 by omega, ← HG.out] at hb)
        | (rw [show min ((k2 : Int)).toNat 65536 = min k1 k2 by omega, ← HG.out] at hb)
        obtain ⟨A, c, rfl, g1, g2, g3, g4⟩ := gives_of_back hb henv.out.1.size
        go_wp2
        go_ret
        exact ⟨A, c, rfl, g1, g2, g3, g4⟩
      · have r0 : 0 < r.n := by rw [hr.out]; exact lenL_pos h0
        have H0 := Lib.hid h0
        clear h0 hr
        go_wp2_with fail
        refine (twos_E (x := r) henv.out (by simp) (by omega) H0.out).mono ?_
        rintro e W4 ⟨k3, rfl, ⟨m, hm1, hm2⟩, hkb3, rfl⟩
        have hlm : lenL m ≤ 800 := by
          have h1 := lenL_mono (show m ≤ r.N by rw [hm1]; exact Nat.le_mul_of_pos_left m (Nat.two_pow_pos k3))
          have h2 := lenL_le.2 (henv.out.2 r (by simp)).1.1
          omega
        replace hm1 := Lib.hid hm1
        replace hm2 := Lib.hid hm2
        go_wp2_with fail
        refine (rDown_E (x := r) henv.out (by simp) (by omega) (by omega)).mono ?_
        rintro e W5 ⟨r1, rfl, r1N, r1n, hE5, -⟩
        rw [show min ((k3 : Int)).toNat 65536 = k3 by omega, hm1.out, Nat.mul_div_cancel_left _ (Nat.two_pow_pos k3)] at r1N r1n
        replace r1N := Lib.hid r1N
        replace r1n := Lib.hid r1n
        go_wp2_with fail
        refine (twos_E (x := s) hE5 (by simp) (by omega) hinv.out.2.1).mono ?_
        rintro e W6 ⟨k4, rfl, ⟨m', hm3, hm4⟩, hkb4, rfl⟩
        have hlm' : lenL m' ≤ 800 := by
          have h1 := lenL_mono (show m' ≤ s.N by rw [hm3]; exact Nat.le_mul_of_pos_left m' (Nat.two_pow_pos k4))
          have h2 := lenL_le.2 (henv.out.2 s (by simp)).1.1
          omega
        replace hm3 := Lib.hid hm3
        replace hm4 := Lib.hid hm4
        go_wp2_with fail
        refine (rDown_E (x := s) hE5 (by simp) (by omega) (by omega)).mono ?_
        rintro e W7 ⟨s1, rfl, s1N, s1n, hE7, -⟩
        rw [show min ((k4 : Int)).toNat 65536 = k4 by omega, hm3.out, Nat.mul_div_cancel_left _ (Nat.two_pow_pos k4)] at s1N s1n
        replace s1N := Lib.hid s1N
        replace s1n := Lib.hid s1n
        have rb1 : r1.n ≤ 800 := by rw [r1n.out]; exact hlm
        have sb1 : s1.n ≤ 800 := by rw [s1n.out]; exact hlm'
        have HN := Lib.hid (gcd_halved (D := D) (k := k3) (k' := k4) hm4.out (by rw [← hm1.out, ← hm3.out]; exact hinv.out) hm2.out)
        have HS := Lib.hid (show m ≤ r.N ∧ m' ≤ s.N from ⟨by rw [hm1.out]; exact Nat.le_mul_of_pos_left m (Nat.two_pow_pos k3), by rw [hm3.out]; exact Nat.le_mul_of_pos_left m' (Nat.two_pow_pos k4)⟩)
        go_wp2_with fail
        refine (rCmp_E (x := r1) (y := s1) hE7 (by simp) (by simp)).mono ?_
        rintro e W8 ⟨rfl, hE8⟩
        rw [r1N.out, s1N.out]
        by_cases hlt : m < m'
        · have hc : cmpN m m' < 0 := by rw [cmpN_lt hlt]; decide
          have HLT := Lib.hid hlt
          clear hlt
          go_wp2_with fail
          refine (rSub_E (x := s1) (y := r1) hE8 (by simp) (by simp) (by omega) (by omega) (by rw [r1N.out, s1N.out]; exact Nat.le_of_lt HLT.out)).mono ?_
          rintro e W9 ⟨d, rfl, dN, dn, hE9, -⟩
          rw [r1N.out, s1N.out] at dN dn
          have db : d.n ≤ 800 := by rw [dn]; have := lenL_mono (Nat.sub_le m' m); omega
          replace dN := Lib.hid dN
          replace dn := Lib.hid dn
          go_wp2
          go_roundg (m' - m + m)
          case rel => exact ⟨d, r1, rfl, rfl, db, rb1, Lib.hid (by rw [dn.out, dN.out]), Lib.hid (hE9.pick (by simp)), Lib.hid (by rw [dN.out, r1N.out]; exact gcd_next hm2.out (Nat.le_of_lt HLT.out) (gcd_swap HN.out)), Lib.hid (by rw [dN.out, r1N.out]; exact Nat.le_refl _)⟩
          case measure => have h1 := hle.out; have h2 := HS.out; have h3 := HLT.out; have h4 := hm2.out; omega
        · have hc : 0 ≤ cmpN m m' := cmpN_ge (by omega)
          have HLT := Lib.hid (show m' ≤ m by omega)
          clear hlt
          go_wp2_with fail
          refine (rSub_E (x := r1) (y := s1) hE8 (by simp) (by simp) (by omega) (by omega) (by rw [r1N.out, s1N.out]; exact HLT.out)).mono ?_
          rintro e W9 ⟨d, rfl, dN, dn, hE9, -⟩
          rw [r1N.out, s1N.out] at dN dn
          have db : d.n ≤ 800 := by rw [dn]; have := lenL_mono (Nat.sub_le m m'); omega
          replace dN := Lib.hid dN
          replace dn := Lib.hid dn
          go_wp2
          go_roundg (m - m' + m')
          case rel => exact ⟨d, s1, rfl, rfl, db, sb1, Lib.hid (by rw [dn.out, dN.out]), Lib.hid (hE9.pick (by simp)), Lib.hid (by rw [dN.out, s1N.out]; exact gcd_next hm4.out HLT.out HN.out), Lib.hid (by rw [dN.out, s1N.out]; exact Nat.le_refl _)⟩
          case measure => have h1 := hle.out; have h2 := HS.out; have h3 := HLT.out; have h4 := hm4.out; omega
end Go.Proofs.YtkijjcladecooaaDoor

/- Contracts of the reference's Gcd, All, Reduce, Lcm, Coprime of layer 4. -/
namespace Go.Proofs.YtkijjcladecooaaDoor
open Go Go.RowKit

theorem rGcd_any (w : World) (x y : Num) (hx : x.ok w w.heap.size) (hy : y.ok w w.heap.size) (hn : x.n ≤ 800) (hn' : y.n ≤ 800) :
    Calls Tryd.prog 14 #[.slice x.A x.n x.c, .slice y.A y.n y.c] w (Gives w (Nat.gcd x.N y.N)) := by
  by_cases h1 : x.N = 0
  · exact rGcd_first w x y hx hy hn hn' h1
  · by_cases h2 : y.N = 0
    · exact rGcd_second w x y hx hy hn hn' h1 h2
    · exact rGcd_both w x y hx hy hn hn' h1 h2

section
variable {w W : World} {e : List Num} {x y : Num}
theorem rGcd_E (h : Env w e W) (hx : x ∈ e) (hy : y ∈ e) (bx : x.n ≤ 800) (by' : y.n ≤ 800) :
    Calls Tryd.prog 14 #[.slice x.A x.n x.c, .slice y.A y.n y.c] W (Back w e W.heap.size (Nat.gcd x.N y.N) (fun r => .slice r.A r.n r.c)) :=
  (rGcd_any W x y (h.2 x hx) (h.2 y hy) bx by').mono fun _ _ hg => back_of_gives h hg (Nat.le_trans (gcd_len (h.2 x hx).1.1 (h.2 y hy).1.1 bx by') (by omega))

set_option maxRecDepth 100000 in
set_option maxHeartbeats 2000000 in
theorem rReduce_E (h : Env w e W) (hx : x ∈ e) (hy : y ∈ e) (bx : x.n ≤ 800) (by' : y.n ≤ 800) :
    Calls Tryd.prog 11 #[.slice x.A x.n x.c, .slice y.A y.n y.c] W fun e' W' =>
      ∃ p q : Num, e' = .returned (.tuple #[.slice p.A p.n p.c, .slice q.A q.n q.c]) ∧ p.N = x.N / Nat.gcd x.N y.N ∧ p.n = lenL (x.N / Nat.gcd x.N y.N) ∧ q.N = y.N / Nat.gcd x.N y.N ∧ q.n = lenL (y.N / Nat.gcd x.N y.N) ∧ Env w (p :: q :: e) W' := by
  have HL := Lib.hid (gcd_len (h.2 x hx).1.1 (h.2 y hy).1.1 bx by')
  have hE0 := h
  by_cases h0 : Nat.gcd x.N y.N = 0
  · have hE : Env w (⟨none, 0, 0, 0⟩ :: ⟨none, 0, 0, 0⟩ :: e) W := hE0.nought.nought
    have H0 := Lib.hid h0
    clear h0 h
    go_enter Tryd.func11, Tryd.ntmps11
    go_wp2_with fail
    refine (rGcd_E (x := x) (y := y) hE0 hx hy bx by').mono ?_
    rintro e1 W1 ⟨⟨gA, gn, gc, gN⟩, rfl, hgN, hgn, hE1, -⟩
    rw [H0.out] at hgN hgn
    obtain rfl : gn = 0 := hgn
    go_wp2
    go_ret2
    refine ⟨⟨none, 0, 0, 0⟩, ⟨none, 0, 0, 0⟩, rfl, ?_, ?_, ?_, ?_, (hE1.pick (fun z hz => List.mem_cons_of_mem _ hz)).nought.nought⟩ <;> rw [H0.out, Nat.div_zero]
    · rfl
    · rfl
  · have H0 := Lib.hid (lenL_pos h0)
    have HQ := Lib.hid h0
    clear h0 h
    go_enter Tryd.func11, Tryd.ntmps11
    go_wp2_with fail
    refine (rGcd_E (x := x) (y := y) hE0 hx hy bx by').mono ?_
    rintro e1 W1 ⟨g, rfl, gN, gn, hE1, -⟩
    have g0 : 0 < g.n := by rw [gn]; exact H0.out
    have gb : g.n ≤ 800 := by rw [gn]; exact HL.out
    have g1 : ((g.n : Int) == 0) = false := by rw [beq_eq_false_iff_ne]; omega
    replace gN := Lib.hid gN
    replace gn := Lib.hid gn
    go_wp2_with fail
    refine (rDiv_E (x := x) (y := g) hE1 (by simp [hx]) (by simp) bx gb).mono ?_
    rintro e1 W2 ⟨p, pr, rfl, pN, pn, -, -, hE2⟩
    rw [gN.out] at pN pn ⊢
    replace pN := Lib.hid pN
    replace pn := Lib.hid pn
    go_wp2_with fail
    refine (rDiv_E (x := y) (y := g) hE2 (by simp [hy]) (by simp) by' gb).mono ?_
    rintro e1 W3 ⟨q, qr, rfl, qN, qn, -, -, hE3⟩
    rw [gN.out] at qN qn ⊢
    replace qN := Lib.hid qN
    replace qn := Lib.hid qn
    go_wp2
    go_ret2
    exact ⟨p, q, rfl, pN.out, pn.out, qN.out, qn.out, hE3.pick (fun z hz => by
      simp only [List.mem_cons] at hz ⊢
      rcases hz with rfl | rfl | hz
      · simp
      · simp
      · simp [hz])⟩

set_option maxRecDepth 100000 in
set_option maxHeartbeats 2000000 in
theorem rLcm_E (h : Env w e W) (hx : x ∈ e) (hy : y ∈ e) (bx : x.n ≤ 800) (by' : y.n ≤ 800) :
    Calls Tryd.prog 18 #[.slice x.A x.n x.c, .slice y.A y.n y.c] W (Back w e W.heap.size (x.N / Nat.gcd x.N y.N * y.N) (fun r => .slice r.A r.n r.c)) := by
  have HL := Lib.hid (Nat.le_trans (lenL_mono (Nat.div_le_self x.N (Nat.gcd x.N y.N))) (lenL_le.2 (h.2 x hx).1.1))
  have hE0 : Env W (x :: y :: e) W := Env.start (fun z hz => by
    simp only [List.mem_cons] at hz
    rcases hz with rfl | rfl | hz
    · exact h.2 _ hx
    · exact h.2 _ hy
    · exact h.2 z hz)
  have hE := h
  clear h
  go_enter Tryd.func18, Tryd.ntmps18
  go_wp2_with fail
  refine (rReduce_E (x := x) (y := y) hE0 (by simp) (by simp) bx by').mono ?_
  rintro e1 W1 ⟨p, q, rfl, pN, pn, -, -, hE1⟩
  have pb : p.n ≤ 800 := by rw [pn]; have := HL.out; omega
  replace pN := Lib.hid pN
  replace pn := Lib.hid pn
  go_wp2_with fail
  refine (rMul_E (x := p) (y := y) hE1 (by simp) (by simp) (by omega) (by omega)).mono ?_
  rintro e1 W2 ⟨r, rfl, rN, rn, hE2, hF⟩
  rw [pN.out] at rN rn
  replace rN := Lib.hid rN
  replace rn := Lib.hid rn
  have HF := Lib.hid (hF.from hE1.1.size)
  clear hF
  go_wp2
  go_ret
  exact ⟨r, rfl, rN.out, rn.out, ((hE.step hE2.1).add (hE2.2 r (by simp))), HF.out⟩

set_option maxRecDepth 100000 in
set_option maxHeartbeats 2000000 in
theorem rCoprime_E (h : Env w e W) (hx : x ∈ e) (hy : y ∈ e) (bx : x.n ≤ 800) (by' : y.n ≤ 800) :
    Calls Tryd.prog 20 #[.slice x.A x.n x.c, .slice y.A y.n y.c] W fun e' W' => e' = .returned (.bool (coprB x.N y.N)) ∧ Env w e W' := by
  have hE0 := h
  clear h
  by_cases h1 : lenL (Nat.gcd x.N y.N) = 1
  · go_enter Tryd.func20, Tryd.ntmps20
    have H1 := Lib.hid h1
    clear h1
    go_wp2_with fail
    refine (rGcd_E (x := x) (y := y) hE0 hx hy bx by').mono ?_
    rintro e1 W1 ⟨⟨gA, gn, gc, gN⟩, rfl, hgN, hgn, hE1, -⟩
    rw [H1.out] at hgn
    obtain rfl : gn = 1 := hgn
    obtain ⟨g, rfl, hc⟩ := one_cell (hE1.2 _ (List.mem_cons_self ..)).1 rfl
    have HN := Lib.hid (show gN = Nat.gcd x.N y.N from hgN)
    clear hgN
    go_wp2
    go_ret
    refine ⟨ret_bool ?_, hE1.pick (fun z hz => List.mem_cons_of_mem _ hz)⟩
    unfold coprB
    rw [← HN.out]
    by_cases h2 : gN = 1
    · simp [h2]
    · have h3 : ((gN : Int) == 1) = false := by rw [beq_eq_false_iff_ne]; omega
      simp [h2, h3]
  · have H1 := Lib.hid (show coprB x.N y.N = false by
      unfold coprB
      rw [beq_eq_false_iff_ne]
      exact fun e => h1 (by rw [e]; decide))
    go_enter Tryd.func20, Tryd.ntmps20
    have H2 := Lib.hid h1
    clear h1
    go_wp2_with fail
    refine (rGcd_E (x := x) (y := y) hE0 hx hy bx by').mono ?_
    rintro e1 W1 ⟨g, rfl, gN, gn, hE1, -⟩
    have g1 : ((g.n : Int) == 1) = false := by rw [beq_eq_false_iff_ne]; have := H2.out; omega
    replace gN := Lib.hid gN
    replace gn := Lib.hid gn
    go_wp2
    go_ret
    exact ⟨by rw [H1.out]; rfl, hE1.pick (fun z hz => List.mem_cons_of_mem _ hz)⟩
end

set_option maxRecDepth 100000 in
set_option maxHeartbeats 1000000 in
theorem rGAll_any (w : World) (A : Option Addr) (c : Nat) (l : List Num) (h : Rds w w.heap.size A l) (hl : l.length ≤ 100000000000000) (hb : ∀ x ∈ l, x.n ≤ 800) :
    Calls Tryd.prog 16 #[.slice A l.length c] w (Gives w (gcdN l)) := by
  have HS := Lib.hid (fun k => gcdAt_len (k := k) h hb)
  have H1 := Lib.hid (Has.zero w)
  go_enter Tryd.func16, Tryd.ntmps16
  go_wp2
  go_loopw [3, 4] (fun ov i wr => ∃ k : Nat, k ≤ l.length ∧ i = .int .i64 k ∧ Has w (gcdAt l k) ov wr) (fun _ i _ => l.length - (intOf i).toNat)
  case atStart => exact ⟨0, Nat.zero_le _, rfl, H1.out⟩
  case round =>
    obtain ⟨k, hk, rfl, RA, Rc, rfl, r1, r2, r3, hB⟩ := hrel
    have hr4 := HS.out k
    obtain ⟨P, hP⟩ : ∃ P, gcdAt l k = P := ⟨_, rfl⟩
    rw [hP] at r1 r3 hr4 ⊢
    obtain ⟨m, hm⟩ : ∃ m, lenL P = m := ⟨_, rfl⟩
    have R3 := Lib.hid r3
    rw [hm] at R3 hr4 r1 ⊢
    have HP := Lib.hid hP
    have HMm := Lib.hid hm
    clear r3 hP hm
    by_cases hlt : k < l.length
    · obtain ⟨⟨ad, rfl, hadb, hc⟩, hr⟩ := (h.below hB) k hlt
      have HN := Lib.hid (show Nat.gcd P l[k].N = gcdAt l (k + 1) by rw [gcdAt_succ hlt, HP.out])
      have hln := hb _ (List.getElem_mem hlt)
      have E := Lib.hid (rGcd_any wr ⟨RA, m, Rc, P⟩ l[k] ⟨R3.out.rd, r1, r2, by show m ≤ _; omega⟩ ((hr).more hB.size) (by show m ≤ _; omega) hln)
      clear hr
      go_wp2_with fail
      refine E.out.mono ?_
      rw [show Nat.gcd (Num.mk RA m Rc P).N l[k].N = gcdAt l (k + 1) from HN.out]
      rintro e w' ⟨A2, c2, rfl, g1, g2, g3, g4⟩
      have hG := Lib.hid (show Has w (gcdAt l (k + 1)) (.slice A2 (lenL (gcdAt l (k + 1))) c2) w' from ⟨A2, c2, rfl, g1, g2, g3.from hB.size, hB.trans (g4.mono hB.size)⟩)
      clear g1 g2 g3 g4
      go_wp2
      go_roundw
      case rel => exact ⟨k + 1, by omega, by go_num, hG.out⟩
      case measure => simp [intOf]; omega
    · obtain rfl : k = l.length := by omega
      go_wp2
      go_ret
      have := HP.out
      rw [gcdAt_all] at this
      subst this
      have := HMm.out
      subst this
      exact ⟨_, _, rfl, r1, r2, R3.out, hB⟩
theorem rGAll_EL {w W : World} {e l : List Num} {A : Option Addr} {c : Nat} (h : Env w e W) (hR : Rds W W.heap.size A l) (hl : l.length ≤ 1000) (hb : ∀ z ∈ l, z.n ≤ 800) :
    Calls Tryd.prog 16 #[.slice A l.length c] W (Back w e W.heap.size (gcdN l) (fun r => .slice r.A r.n r.c)) :=
  (rGAll_any W A c l hR (by omega) hb).mono fun _ _ hg => back_of_gives h hg (by have := gcdAt_len (k := l.length) hR hb; rw [gcdAt_all] at this; omega)
end Go.Proofs.YtkijjcladecooaaDoor
