/- What the program's functions of package quot answer, over numbers at hand: the condition QuotTold, paid by their contracts. -/
import Derived.Test.YtfijbocblmhdbaaQuotE
import Derived.Test.YtfijbocblmhdbaaGQuotB
import Derived.Test.YtfijbocblmhdbaaGProdC
import Derived.Test.YtfijbocblmhdbaaGNatA
namespace Go.Proofs.Ytfijbocblmhdbaa
open Go Go.RowKit

theorem divTold : DivTold := fun w W e x y h hx hy bx by' => by
  obtain ⟨a1, a2, a3, _⟩ := h.2 x hx
  obtain ⟨b1, b2, b3, _⟩ := h.2 y hy
  refine (div_any _ _ _ _ _ _ _ _ W a1 b1 a2 a3 b2 b3 (by omega) (by omega)).mono ?_
  rintro e' W' ⟨A, c, A', c', rfl, x1, x2, y1, y2, x3, y3, x4⟩
  have l1 := lenL_mono (Nat.div_le_self x.N y.N)
  have l2 := lenL_mono (restN_le x.N y.N)
  have l3 := lenL_le.2 a1.1
  exact ⟨⟨A, _, c, _⟩, ⟨A', _, c', _⟩, rfl, rfl, rfl, rfl, rfl, ((h.step x4).add (y3.ok y1 y2 (by omega))).add (x3.ok x1 x2 (by omega))⟩

theorem shortTold : ShortTold := fun w W e x M h hx bx hM => by
  obtain ⟨a1, a2, a3, _⟩ := h.2 x hx
  rcases Nat.eq_zero_or_pos M with h0 | h0
  · subst h0
    refine (short_zero W _ _ _).mono ?_
    rintro e' W' ⟨rfl, hb⟩
    exact ⟨⟨none, 0, 0, 0⟩, rfl, by simp, by simp [lenL_zero], (h.step hb).nought⟩
  · refine (short_any _ _ _ _ _ W a1 a2 a3 (by omega) h0 hM).mono ?_
    rintro e' W' ⟨A, c, rfl, x1, x2, x3, x4⟩
    have l1 := lenL_mono (Nat.div_le_self x.N M)
    have l3 := lenL_le.2 a1.1
    exact ⟨⟨A, lenL (x.N / M), c, x.N / M⟩, by rw [restN_pos (by omega), zeroE_pos (by omega)], rfl, rfl, (h.step x4).add (x3.ok x1 x2 (by omega))⟩

variable {w W : World} {e : List Num} {x y : Num}

set_option maxHeartbeats 400000 in
theorem isNought_E (h : Env w e W) (hx : x ∈ e) : Calls Try.prog 26 #[.slice x.A x.n x.c] W fun e' W' => e' = .returned (.bool (decide (x.N = 0))) ∧ W = W' := by
  obtain ⟨a1, a2, a3, a4⟩ := h.2 x hx
  have E := Lib.hid (pBits_any W _ _ _ _ _ a1 a2 a3 a4)
  have hb : (((bitsN x.N : Nat) : Int) == 0) = decide (x.N = 0) := by
    have h1 := @bitsN_le x.N 0
    rw [Bool.eq_iff_iff, beq_iff_eq, decide_eq_true_eq]
    constructor
    · intro h; have := h1.1 (by omega); omega
    · intro h; have := h1.2 (by omega); omega
  clear a1 a2 a3 a4
  go_enter Try.func26, Try.ntmps26
  go_wp2_with (go_at_call 36; refine E.out.mono ?_; rintro e w' ⟨rfl, rfl⟩)
  go_ret
  exact ⟨rfl, rfl⟩

theorem mult_dec {N M : Nat} (hM : M ≠ 0) : decide (restN N M = 0) = decide (M ∣ N) := by
  rw [restN_pos hM, decide_eq_decide, Nat.dvd_iff_mod_eq_zero]

set_option maxHeartbeats 1000000 in
theorem isMultiple_E (h : Env w e W) (hx : x ∈ e) (hy : y ∈ e) (bx : x.n ≤ 100000) (by' : y.n ≤ 100000) :
    Calls Try.prog 25 #[.slice x.A x.n x.c, .slice y.A y.n y.c] W fun e' W' => e' = .returned (.bool (decide (y.N ∣ x.N))) ∧ Env w e W' := by
  have ED := Lib.hid (divTold w W e x y h hx hy bx by')
  have HX := Lib.hid hx
  go_enter Try.func25, Try.ntmps25
  go_wp2_with fail
  refine ED.out.mono ?_
  rintro e1 W1 ⟨q, r, rfl, q1, q2, r1, r2, hE⟩
  replace hE := Lib.hid hE
  replace q1 := Lib.hid q1
  replace q2 := Lib.hid q2
  replace r1 := Lib.hid r1
  replace r2 := Lib.hid r2
  by_cases hM : y.N = 0
  · have HZ := Lib.hid (show zeroE y.N = 30 by rw [hM]; rfl)
    have HD := Lib.hid (show decide (x.N = 0) = decide (y.N ∣ x.N) by rw [hM, decide_eq_decide, Nat.zero_dvd])
    have EN := Lib.hid (isNought_E hE.out (x := x) (by simp [HX.out]))
    rw [HZ.out, HD.out] at *
    clear hM
    go_wp2_with (go_at_call 26; refine EN.out.mono ?_; rintro e w' ⟨rfl, rfl⟩)
    go_ret
    exact ⟨rfl, hE.out.pick (fun z hz => by simp [hz])⟩
  · have HZ := Lib.hid (show zeroE y.N = 0 from zeroE_pos hM)
    have EN := Lib.hid (isNought_E hE.out (x := r) (by simp))
    have HD := Lib.hid (show decide (r.N = 0) = decide (y.N ∣ x.N) by rw [r1.out]; exact mult_dec hM)
    rw [HZ.out]
    rw [HD.out] at EN
    clear hM
    go_wp2_with (go_at_call 26; refine EN.out.mono ?_; rintro e w' ⟨rfl, rfl⟩)
    go_ret
    exact ⟨rfl, hE.out.pick (fun z hz => by simp [hz])⟩

theorem all_take {P : Num → Prop} {l : List Num} {k : Nat} (hk : k < l.length) (h : ∀ z ∈ l.take k, P z) (hz : P l[k]) : ∀ z ∈ l.take (k + 1), P z := by
  intro z hz'
  rw [List.take_succ_eq_append_getElem hk] at hz'
  rcases List.mem_append.1 hz' with h1 | h1
  · exact h z h1
  · rw [List.mem_singleton.1 h1]; exact hz

set_option maxHeartbeats 2000000 in
theorem dividesTold : DividesTold := fun w W e x A c l h hx bx hR hlc hc hl hz => by
  have HX := Lib.hid hx
  have HZ := Lib.hid hz
  have HE := Lib.hid (Env.start h.2)
  have HW := Lib.hid h
  clear hx hz h
  go_enter Try.func15, Try.ntmps15
  go_wp2
  go_loopw [9] (fun i wr => ∃ k : Nat, k ≤ l.length ∧ i = .int .i64 k ∧ Hid (∀ z ∈ l.take k, x.N ∣ z.N) ∧ Hid (Env W e wr)) (fun i _ => l.length - (intOf i).toNat)
  case atStart => exact ⟨0, Nat.zero_le _, rfl, Lib.hid (by simp), HE⟩
  case round =>
    obtain ⟨k, hk, rfl, ht, hE⟩ := hrel
    have hB := hE.out.1
    by_cases hlt : k < l.length
    · obtain ⟨⟨ad, rfl, hab, hcell⟩, hok⟩ := (hR.below hB) k hlt
      have hE2 := hE.out.add (hok.more hB.size)
      have EM := Lib.hid (isMultiple_E hE2 (x := l[k]) (y := x) (by simp) (by simp [HX.out]) (HZ.out _ (List.getElem_mem hlt)) bx)
      have HOK := Lib.hid hok
      clear hE2 hok
      go_wp2_with fail
      refine EM.out.mono ?_
      rintro e' W2 ⟨rfl, hE3⟩
      replace hE3 := Lib.hid (hE3.pick (e' := e) (fun z hz => by simp [hz]))
      by_cases hd : x.N ∣ l[k].N
      · have hdd : decide (x.N ∣ l[k].N) = true := by simp [hd]
        rw [hdd]
        have HT := Lib.hid (all_take hlt ht.out hd)
        clear hd hdd
        go_wp2
        go_roundw
        case rel => exact ⟨k + 1, by omega, by go_num, HT, hE3⟩
        case measure => simp [intOf]; omega
      · have hdd : decide (x.N ∣ l[k].N) = false := by simp [hd]
        have HF := Lib.hid (show decide (∀ z ∈ l, x.N ∣ z.N) = false by rw [decide_eq_false_iff_not]; exact fun h => hd (h _ (List.getElem_mem hlt)))
        rw [hdd]
        clear hd hdd
        go_wp2
        go_ret
        exact ⟨by rw [HF.out]; rfl, HW.out.step hE3.out.1⟩
    · obtain rfl : k = l.length := by omega
      have HF := Lib.hid (show decide (∀ z ∈ l, x.N ∣ z.N) = true by have := ht.out; rw [List.take_length] at this; rw [decide_eq_true_eq]; exact this)
      go_wp2
      go_ret
      exact ⟨by rw [HF.out]; rfl, HW.out.step hE.out.1⟩

theorem pow_bits {M k N n : Nat} (hM : 2 ≤ M) (hN : N < Bw ^ n) (h0 : N ≠ 0) (h : M ^ k ∣ N) : k < 32 * n := by
  have h1 := Nat.le_of_dvd (Nat.pos_of_ne_zero h0) h
  have h2 : 2 ^ k ≤ M ^ k := Nat.pow_le_pow_left hM k
  rw [Bw_pow] at hN
  exact (Nat.pow_lt_pow_iff_right (by omega : 1 < 2)).1 (Nat.lt_of_le_of_lt (Nat.le_trans h2 h1) hN)

/-- What 'strip' answers. -/
def StripPost (w : World) (e : List Num) (N M : Nat) (e' : Ending) (W' : World) : Prop :=
  ∃ (k : Nat) (z : Num), e' = .returned (.tuple #[.int .i64 (k : Nat), .slice z.A z.n z.c]) ∧ N = M ^ k * z.N ∧ ¬ M ∣ z.N ∧ k < 320000 ∧ z.n ≤ 10000 ∧ Env w (z :: e) W'
def StripAt (m : Nat) : Prop := ∀ (w W : World) (e : List Num) (x y : Num), Env w e W → x ∈ e → y ∈ e → x.n ≤ 10000 → y.n ≤ 10000 → x.N < m → x.N ≠ 0 → 2 ≤ y.N →
  Calls Try.prog 29 #[.slice x.A x.n x.c, .slice y.A y.n y.c] W (StripPost w e x.N y.N)

set_option maxHeartbeats 4000000 in
theorem strip_step (m : Nat) (HS : StripAt m) : StripAt (m + 1) := fun w W e x y h hx hy bx by' hm h0 hM => by
  have ED := Lib.hid (divTold w W e x y h hx hy (by omega) (by omega))
  have HX := Lib.hid hx
  have HY := Lib.hid hy
  have HM0 := Lib.hid (show y.N ≠ 0 by omega)
  have HN := Lib.hid (h.2 x hx).1.1
  go_enter Try.func29, Try.ntmps29
  go_wp2_with fail
  refine ED.out.mono ?_
  rintro e1 W1 ⟨q, r, rfl, q1, q2, r1, r2, hE⟩
  replace hE := Lib.hid hE
  replace q1 := Lib.hid q1
  replace q2 := Lib.hid q2
  replace r1 := Lib.hid r1
  replace r2 := Lib.hid r2
  have EN := Lib.hid (isNought_E hE.out (x := r) (by simp))
  have hres : r.N = x.N % y.N := by rw [r1.out, restN_pos HM0.out]
  have hdm := Nat.mod_add_div x.N y.N
  by_cases hr : r.N = 0
  · have hdr : decide (r.N = 0) = true := by simp [hr]
    rw [hdr] at EN
    have hNq : x.N = y.N * q.N := by rw [q1.out]; omega
    have hq0 : q.N ≠ 0 := fun e => by rw [e, Nat.mul_zero] at hNq; exact h0 hNq
    have hqx : q.N < x.N := by
      rw [hNq]
      calc q.N < 2 * q.N := by omega
        _ ≤ y.N * q.N := Nat.mul_le_mul_right _ hM
    obtain ⟨c1, c2, c3, c4⟩ := hE.out.2 q (by simp)
    obtain ⟨d1, d2, d3, d4⟩ := hE.out.2 y (by simp [HY.out])
    have EC := Lib.hid (Cmp_any q.A y.A q.n y.n q.c y.c q.N y.N W1 c1 d1 (by omega) (by omega))
    have HNQ := Lib.hid hNq
    have hlq : lenL q.N ≤ 10000 := Nat.le_trans (lenL_mono (Nat.le_of_lt hqx)) (Nat.le_trans (lenL_le.2 HN.out) bx)
    rw [q1.out] at hlq
    by_cases hq : q.N < y.N
    · rw [cmpN_lt hq] at EC
      have HND := Lib.hid (show ¬ y.N ∣ q.N from fun hd => by have := Nat.le_of_dvd (Nat.pos_of_ne_zero hq0) hd; omega)
      clear c1 d1 hNq hres hdm hr hdr hq hq0 hqx
      go_wp2_with (first | (go_at_call 26; (with_reducible refine EN.out.mono ?_); rintro e w' ⟨rfl, rfl⟩) | (go_at_call 27; (with_reducible refine EC.out.mono ?_); rintro e W2 ⟨rfl, hB2⟩))
      go_ret2
      refine ⟨1, q, rfl, by rw [Nat.pow_one]; exact HNQ.out, HND.out, by omega, by rw [q2.out]; exact hlq, (hE.out.step hB2).pick (fun z hz => ?_)⟩
      rcases List.mem_cons.1 hz with h | h <;> simp [h]
    · obtain ⟨cv, hcv⟩ : ∃ cv, cmpN q.N y.N = cv := ⟨_, rfl⟩
      have hc0 : 0 ≤ cv := by rw [← hcv]; exact cmpN_ge (by omega)
      have hc1 : ¬ cv < 0 := by omega
      rw [hcv] at EC
      have hMM : y.N * y.N ≤ x.N := by rw [hNq]; exact Nat.mul_le_mul_left _ (by omega)
      have hlM : lenL (y.N * y.N) ≤ 10000 := Nat.le_trans (lenL_mono hMM) (Nat.le_trans (lenL_le.2 HN.out) bx)
      have hM4 : 2 ≤ y.N * y.N := Nat.le_trans hM (Nat.le_mul_of_pos_left _ (by omega))
      have HQ := Lib.hid (show q.N < m ∧ q.N ≠ 0 by omega)
      have HLQ := Lib.hid (show q.n ≤ 10000 by rw [q2.out]; exact hlq)
      have HX0 := Lib.hid h0
      clear c1 d1 hNq hres hdm hr hdr hq hq0 hqx hcv hMM hlq h0 hm
      go_wp2_with (first | (go_at_call 26; (with_reducible refine EN.out.mono ?_); rintro e w' ⟨rfl, rfl⟩) | (go_at_call 27; (with_reducible refine EC.out.mono ?_); rintro e W2 ⟨rfl, hB2⟩))
      have hE2 := hE.out.step hB2
      obtain ⟨d1, d2, d3, d4⟩ := hE2.2 y (by simp [HY.out])
      have EM := Lib.hid ((pMul_any W2 _ _ _ _ _ _ _ _ d1 d1 d2 d3 d2 d3 (by omega) (by omega)).mono fun _ _ hg => back_of_gives hE2 hg (by omega))
      clear d1 hE2
      refine EM.out.mono ?_
      rintro e W3 ⟨m2, rfl, m21, m22, hE3, -⟩
      replace hE3 := Lib.hid hE3
      have ES := Lib.hid (HS w W3 (m2 :: q :: r :: e) q m2 hE3.out (by simp) (by simp) HLQ.out (by omega) HQ.out.1 HQ.out.2 (by rw [m21]; exact hM4))
      have M21 := Lib.hid m21
      clear m21 m22 EM hM4
      go_wp2_with fail
      refine ES.out.mono ?_
      rintro e' W4 ⟨p, z, rfl, s1, s2, s3, s4, hE4⟩
      rw [M21.out] at s1 s2
      have S1 := Lib.hid s1
      have S2 := Lib.hid s2
      have hz0 : z.N ≠ 0 := fun e0 => HQ.out.2 (by rw [s1, e0, Nat.mul_zero])
      have ED2 := Lib.hid (divTold w W4 (z :: m2 :: q :: r :: e) z y hE4 (by simp) (by simp [HY.out]) (by omega) (by omega))
      clear s1 s2 ES hE3
      go_wp2_with fail
      refine ED2.out.mono ?_
      rintro e' W5 ⟨q', r', rfl, u1, u2, v1, v2, hE5⟩
      have hdm := Nat.mod_add_div z.N y.N
      have hres : r'.N = z.N % y.N := by rw [v1, restN_pos HM0.out]
      have EN2 := Lib.hid (isNought_E hE5 (x := r') (by simp))
      have HE5 := Lib.hid hE5
      clear hE5 ED2 hE4
      have hNp : x.N = y.N ^ (2 * p + 1) * z.N := by
        rw [HNQ.out, S1.out, Nat.pow_succ, Nat.pow_mul, Nat.pow_two]
        ac_rfl
      by_cases hr2 : r'.N = 0
      · have hd2 : decide (r'.N = 0) = true := by simp [hr2]
        rw [hd2] at EN2
        have hzq : z.N = y.N * q'.N := by rw [u1]; omega
        have hNp2 : x.N = y.N ^ (2 * p + 2) * q'.N := by rw [hNp, hzq, ← Nat.mul_assoc, ← Nat.pow_succ]
        have HF := Lib.hid (show x.N = y.N ^ (2 * p + 2) * q'.N ∧ ¬ y.N ∣ q'.N ∧ 2 * p + 2 < 320000 ∧ q'.n ≤ 10000 from ⟨hNp2, fun hd => S2.out (by rw [hzq]; exact Nat.mul_dvd_mul_left _ hd), by
          have := pow_bits hM HN.out HX0.out (k := 2 * p + 2) ⟨_, hNp2⟩
          omega, by
          rw [u2]
          have l1 := lenL_mono (Nat.div_le_self z.N y.N)
          have l2 := lenL_le.2 (HE5.out.2 z (by simp)).1.1
          omega⟩)
        have HI := Lib.hid (show (1 : Int) + 2 * (p : Int) + 1 = ((2 * p + 2 : Nat) : Int) by omega)
        clear hNp hNp2 hzq hr2 hd2 hres hdm u1 u2 v1 v2
        go_wp2_with (go_at_call 26; (with_reducible refine EN2.out.mono ?_); rintro e w' ⟨rfl, rfl⟩)
        go_ret2
        refine ⟨2 * p + 2, q', ?_, HF.out.1, HF.out.2.1, HF.out.2.2.1, HF.out.2.2.2, HE5.out.pick (fun z hz => ?_)⟩
        · rw [← HI.out]; rfl
        · rcases List.mem_cons.1 hz with h | h <;> simp [h]
      · have hd2 : decide (r'.N = 0) = false := by simp [hr2]
        rw [hd2] at EN2
        have HF := Lib.hid (show x.N = y.N ^ (2 * p + 1) * z.N ∧ ¬ y.N ∣ z.N ∧ 2 * p + 1 < 320000 from ⟨hNp, fun hd => hr2 (by rw [hres]; exact Nat.mod_eq_zero_of_dvd hd), by
          have := pow_bits hM HN.out HX0.out (k := 2 * p + 1) ⟨_, hNp⟩
          omega⟩)
        have HI := Lib.hid (show (1 : Int) + 2 * (p : Int) = ((2 * p + 1 : Nat) : Int) by omega)
        clear hNp hr2 hd2 hres hdm u1 u2 v1 v2
        go_wp2_with (go_at_call 26; (with_reducible refine EN2.out.mono ?_); rintro e w' ⟨rfl, rfl⟩)
        go_ret2
        refine ⟨2 * p + 1, z, ?_, HF.out.1, HF.out.2.1, HF.out.2.2, s4, HE5.out.pick (fun z hz => ?_)⟩
        · rw [← HI.out]; rfl
        · rcases List.mem_cons.1 hz with h | h <;> simp [h]
  · have hdr : decide (r.N = 0) = false := by simp [hr]
    rw [hdr] at EN
    have HND := Lib.hid (show ¬ y.N ∣ x.N from fun hd => hr (by rw [hres]; exact Nat.mod_eq_zero_of_dvd hd))
    clear hres hdm hr hdr
    go_wp2_with (go_at_call 26; refine EN.out.mono ?_; rintro e w' ⟨rfl, rfl⟩)
    go_ret2
    refine ⟨0, x, rfl, by rw [Nat.pow_zero, Nat.one_mul], HND.out, by omega, bx, hE.out.pick (fun z hz => ?_)⟩
    rcases List.mem_cons.1 hz with h | h
    · rw [h]; simp [HX.out]
    · simp [h]

theorem stripAt (m : Nat) : StripAt m := by
  induction m with
  | zero => exact fun w W e x y h hx hy bx by' hm => absurd hm (by omega)
  | succ m ih => exact strip_step m ih

theorem times_of {N M k L : Nat} (h : N = M ^ k * L) (hL : ¬ M ∣ L) (h0 : N ≠ 0) (hM : 2 ≤ M) : TimesIs N M k := by
  refine ⟨fun h => by omega, fun _ _ => ⟨⟨L, h⟩, fun ⟨c, hc⟩ => hL ⟨c, ?_⟩⟩⟩
  rw [h, Nat.pow_succ, Nat.mul_assoc] at hc
  exact Nat.eq_of_mul_eq_mul_left (Nat.pow_pos (by omega)) hc

set_option maxHeartbeats 4000000 in
theorem timesTold : TimesTold := fun w W e x y h hx hy bx by' => by
  have EN := Lib.hid (isNought_E h hx)
  have HX := Lib.hid hx
  have HY := Lib.hid hy
  by_cases h0 : x.N = 0
  · have hd : decide (x.N = 0) = true := by simp [h0]
    rw [hd] at EN
    have HT := Lib.hid (show TimesIs x.N y.N 0 from ⟨fun _ => rfl, fun hh => absurd h0 hh⟩)
    clear hd h0
    go_enter Try.func16, Try.ntmps16
    go_wp2_with (go_at_call 26; refine EN.out.mono ?_; rintro e w' ⟨rfl, rfl⟩)
    go_ret
    exact ⟨0, rfl, HT.out, h⟩
  · have hd : decide (x.N = 0) = false := by simp [h0]
    rw [hd] at EN
    have EO := Lib.hid ((Of_any W 2 (by omega)).mono fun _ _ hg => back_of_gives h hg (Nat.le_trans (lenL_le.2 (by rw [Bw_eq]; omega) : lenL 2 ≤ 1) (by omega)))
    have H0 := Lib.hid h0
    clear hd h0
    go_enter Try.func16, Try.ntmps16
    go_wp2_with fail
    refine EN.out.mono ?_
    rintro e' w' ⟨rfl, rfl⟩
    go_wp2_with fail
    refine EO.out.mono ?_
    rintro e' W1 ⟨two, rfl, t1, t2, hE, -⟩
    obtain ⟨c1, c2, c3, c4⟩ := hE.2 y (by simp [HY.out])
    obtain ⟨d1, d2, d3, d4⟩ := hE.2 two (by simp)
    have EC := Lib.hid (Cmp_any y.A two.A y.n two.n y.c two.c y.N two.N W1 c1 d1 (by omega) (by omega))
    have HE := Lib.hid hE
    rw [t1] at EC
    clear c1 d1 t1 t2 hE EO EN
    by_cases hM : y.N < 2
    · rw [cmpN_lt hM] at EC
      have HT := Lib.hid (show TimesIs x.N y.N 0 from ⟨fun _ => rfl, fun _ hh => by omega⟩)
      clear hM
      go_wp2_with (go_at_call 27; refine EC.out.mono ?_; rintro e W2 ⟨rfl, hB2⟩)
      go_ret
      exact ⟨0, rfl, HT.out, (HE.out.step hB2).pick (fun z hz => by simp [hz])⟩
    · obtain ⟨cv, hcv⟩ : ∃ cv, cmpN y.N 2 = cv := ⟨_, rfl⟩
      have hc0 : 0 ≤ cv := by rw [← hcv]; exact cmpN_ge (by omega)
      have hc1 : ¬ cv < 0 := by omega
      rw [hcv] at EC
      have HM := Lib.hid (show 2 ≤ y.N by omega)
      clear hcv hM
      go_wp2_with fail
      refine EC.out.mono ?_
      rintro e' W2 ⟨rfl, hB2⟩
      have ES := Lib.hid (stripAt (x.N + 1) w W2 (two :: e) x y (HE.out.step hB2) (by simp [HX.out]) (by simp [HY.out]) bx by' (by omega) H0.out HM.out)
      go_wp2_with fail
      refine ES.out.mono ?_
      rintro e' W3 ⟨k, z, rfl, s1, s2, s3, s4, hE4⟩
      have HT := Lib.hid (times_of s1 s2 H0.out HM.out)
      have HE4 := Lib.hid hE4
      clear s1 s2 hE4
      go_wp2
      go_ret
      exact ⟨k, rfl, HT.out, HE4.out.pick (fun z hz => by simp [hz])⟩

theorem quotTold : QuotTold := ⟨divTold, shortTold, dividesTold, timesTold⟩
end Go.Proofs.Ytfijbocblmhdbaa
