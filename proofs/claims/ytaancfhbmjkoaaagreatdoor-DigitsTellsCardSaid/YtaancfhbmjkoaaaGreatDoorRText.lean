/- Contract of the reference's Text of layer 6: nine digits at a time. -/
import Derived.Laws.IdiomStrings
import Derived.Test.YtaancfhbmjkoaaaGreatDoorDigM
import Derived.Test.YtaancfhbmjkoaaaGreatDoorRDiv
namespace Go.Proofs.YtaancfhbmjkoaaaGreatDoor
open Go Go.RowKit

/-- How long a text is. -/
def lenOf (v : Value) : Nat := match v with | .string b => b.size | _ => 0
theorem lenOf_str (l : List UInt8) : lenOf (.string ⟨l.toArray⟩) = l.length := str_size l

theorem dg_form {d : Nat} : (48 : UInt8) + UInt8.ofNat d = dg d := (UInt8.ofNat_add 48 d).symm
theorem string_one (w : World) (v : Int) :
    (convert 48 9 (.slice (some ⟨w.heap.size, 0, none⟩) 1 1)).run Tryz.prog (w.alloc (.cells #[.int .u8 v] 5)) = .ok (.string ⟨#[UInt8.ofNat v.toNat]⟩) (w.alloc (.cells #[.int .u8 v] 5)) := by
  rw [run_convert_bytes_string (P := Tryz.prog) _ 48 9 5 _ 1 1 (by kernel_rfl) (by kernel_rfl) (by kernel_rfl)]
  rw [run_bytesToString (P := Tryz.prog) _ _ 1 1 [v] (run_loadCells_list (P := Tryz.prog) _ _ [.int .u8 v] (fun j u hj => by
    have hj0 : j = 0 := by
      have := (List.getElem?_eq_some_iff.1 hj).1
      simpa using this
    subst hj0
    have hu : Value.int .u8 v = u := by simpa using hj
    subst hu
    show (w.alloc _).cell? (Addr.add ⟨w.heap.size, 0, none⟩ 0) = _
    exact World.cell?_alloc_mark w _ _ _ 0))]
  rfl
attribute [local go_sem] string_one

set_option maxRecDepth 100000 in
set_option maxHeartbeats 2000000 in
theorem rText_zero {w W : World} {e : List Num} {x : Num} (h : Env w e W) (hx : x ∈ e) (h0 : x.N = 0) :
    Calls Tryz.prog 17 #[.slice x.A x.n x.c] W (Says w e (dec x.N)) := by
  have H0 := Lib.hid h0
  go_enter Tryz.func17, Tryz.ntmps17
  go_wp2_with fail
  refine (rTrim_E h hx).mono ?_
  rintro e W1 ⟨⟨aA, an, ac, aN⟩, rfl, haN, han, hE1, -⟩
  rw [H0.out] at haN han
  obtain rfl : aN = 0 := haN
  obtain rfl : an = 0 := han
  go_wp2
  go_ret
  exact ⟨by rw [H0.out]; rfl, hE1.pick fun z hz => List.mem_cons_of_mem _ hz⟩

/-- The first digit of what is left goes ahead of the text. -/
theorem text_step {q n k X : Nat} {l : List UInt8} (hk : k < 9) (h : decz (q * 10 ^ (9 - k) + n) ++ l = decz X) (hn : n < 10 ^ (9 - k)) (hp : n ≠ 0 ∨ q ≠ 0) :
    decz (q * 10 ^ (9 - (k + 1)) + n / 10) ++ (dg (n % 10) :: l) = decz X ∧ n / 10 < 10 ^ (9 - (k + 1)) := by
  have e : 10 ^ (9 - k) = 10 * 10 ^ (9 - (k + 1)) := by
    rw [show 9 - k = (9 - (k + 1)) + 1 by omega, Nat.pow_succ, Nat.mul_comm]
  generalize 10 ^ (9 - (k + 1)) = D at e ⊢
  rw [e] at h hn
  have h1 : q * (10 * D) + n = 10 * (q * D + n / 10) + n % 10 := by
    rw [Nat.mul_left_comm, Nat.mul_add]; omega
  rw [h1, decz_step (by omega) (by
    intro h0
    have h2 : q * D + n / 10 = 0 ∧ n % 10 = 0 := by omega
    rcases hp with hp | hp
    · omega
    · have h3 : q * D = 0 := by omega
      rcases Nat.mul_eq_zero.mp h3 with h4 | h4
      · exact hp h4
      · rw [h4] at hn; omega), List.append_assoc] at h
  exact ⟨h, by omega⟩
theorem text_end {q n k X : Nat} {l : List UInt8} (h : decz (q * 10 ^ (9 - k) + n) ++ l = decz X) (hn : n < 10 ^ (9 - k)) (hp : 9 ≤ k ∨ n = 0 ∧ q = 0) : decz q ++ l = decz X := by
  rcases hp with hp | ⟨rfl, rfl⟩
  · have e : 9 - k = 0 := by omega
    rw [e, Nat.pow_zero] at h hn
    obtain rfl : n = 0 := by omega
    simpa using h
  · simpa using h
theorem text_len {z X : Nat} {l : List UInt8} (h : decz z ++ l = decz X) : l.length ≤ (decz X).length := by rw [← h]; simp

theorem text_out {w V : World} {e : List Num} {q : Num} {X zN k n : Nat} {l m : List UInt8} (hqn : q.n = lenL q.N) (hqX : q.N ≤ X) (hd : decz (q.N * 10 ^ (9 - k) + n) ++ m = decz X) (hnk : n < 10 ^ (9 - k))
    (hex : 9 ≤ k ∨ n = 0 ∧ q.N = 0) (hm : m.length = l.length + k) (hk : 0 < k) (_hzl : decz zN ++ l = decz X) (hV : Env w (q :: e) V) :
    (∃ (z : Num) (l : List UInt8), Value.slice q.A q.n q.c = Value.slice z.A z.n z.c ∧ Value.string ⟨m.toArray⟩ = Value.string ⟨l.toArray⟩ ∧ Hid (z.n = lenL z.N) ∧ Hid (z.N ≤ X) ∧ Hid (decz z.N ++ l = decz X) ∧ Hid (Env w (z :: e) V)) ∧
      (decz X).length - lenOf (Value.string ⟨m.toArray⟩) < (decz X).length - lenOf (Value.string ⟨l.toArray⟩) := by
  have h1 := text_end hd hnk hex
  refine ⟨⟨q, m, rfl, rfl, Lib.hid hqn, Lib.hid hqX, Lib.hid h1, Lib.hid hV⟩, ?_⟩
  rw [lenOf_str, lenOf_str]
  have h2 := text_len h1
  omega
theorem rtext_in {w V : World} {e : List Num} {q : Num} {X k n L : Nat} {m : List UInt8} (hk : k < 9) (hn : n < 1000000000) (hd : decz (q.N * 10 ^ (9 - k) + n) ++ m = decz X) (hnk : n < 10 ^ (9 - k))
    (hp : n ≠ 0 ∨ q.N ≠ 0) (hm : m.length = L + k) (hV : Env w (q :: e) V) (o : Obj) :
    (∃ (k_1 n_1 : Nat) (m_1 : List UInt8), k_1 ≤ 9 ∧ n_1 < 1000000000 ∧ Value.int .i64 (k + 1) = Value.int .i64 k_1 ∧ Value.int .u32 (n / 10) = Value.int .u32 n_1 ∧
      Value.string (⟨#[48 + UInt8.ofNat (n % 10)]⟩ ++ ⟨m.toArray⟩) = Value.string ⟨m_1.toArray⟩ ∧ Hid (m_1.length = L + k_1) ∧ Hid (decz (q.N * 10 ^ (9 - k_1) + n_1) ++ m_1 = decz X) ∧ Hid (n_1 < 10 ^ (9 - k_1)) ∧
      Hid (k_1 = 0 → n_1 ≠ 0 ∨ q.N ≠ 0) ∧ Hid (Env w (q :: e) (V.alloc o))) ∧ 9 - (intOf (Value.int .i64 (k + 1))).toNat < 9 - (intOf (Value.int .i64 k)).toNat := by
  obtain ⟨h1, h2⟩ := text_step hk hd hnk hp
  refine ⟨⟨k + 1, n / 10, dg (n % 10) :: m, by omega, by omega, congrArg _ (by omega), congrArg _ (by omega), ?_, Lib.hid (by simp only [List.length_cons]; omega), Lib.hid h1, Lib.hid h2, Lib.hid (by omega), Lib.hid (hV.alloc o)⟩, by simp [intOf]; omega⟩
  rw [dg_form]
  exact congrArg _ (str_app [dg (n % 10)] m)

set_option maxRecDepth 100000 in
set_option maxHeartbeats 2000000 in
theorem rText_pos {w W : World} {e : List Num} {x : Num} (h : Env w e W) (hx : x ∈ e) (h0 : x.N ≠ 0) (bx : x.n ≤ 700) :
    Calls Tryz.prog 17 #[.slice x.A x.n x.c] W (Says w e (dec x.N)) := by
  have H0 := Lib.hid h0
  have HB := Lib.hid (lenL_le.2 (h.2 x hx).1.1)
  have HX : Hid ((decz x.N).length ≤ 7000) := Lib.hid (by
    have h1 := decz_len (digits_of_limbs (h.2 x hx).1.1)
    omega)
  go_enter Tryz.func17, Tryz.ntmps17
  go_wp2_with fail
  refine (rTrim_E h hx).mono ?_
  rintro e W1 ⟨⟨aA, an, ac, aN⟩, rfl, haN, han, hE1, -⟩
  obtain rfl : aN = x.N := haN
  have hp : 0 < an := by have h1 : an = lenL x.N := han; rw [h1]; exact lenL_pos h0
  have hp0 : ((an : Int) == 0) = false := by rw [beq_eq_false_iff_ne]; omega
  have HL := Lib.hid han
  clear han h0
  go_wp2
  go_loopw [0, 3] (fun av sv V => ∃ (z : Num) (l : List UInt8), av = .slice z.A z.n z.c ∧ sv = .string ⟨l.toArray⟩ ∧ Hid (z.n = lenL z.N) ∧ Hid (z.N ≤ x.N) ∧ Hid (decz z.N ++ l = decz x.N) ∧ Hid (Env w (z :: e) V)) (fun _ sv _ => (decz x.N).length - lenOf sv)
  case atStart => exact ⟨⟨aA, an, ac, x.N⟩, [], rfl, rfl, HL, Lib.hid (Nat.le_refl _), Lib.hid (by simp), Lib.hid hE1⟩
  case round =>
    obtain ⟨z, l, rfl, rfl, hzn, hzX, hzl, hE⟩ := hrel
    by_cases hz : z.N = 0
    · have hz0 : z.n = 0 := by rw [hzn.out, hz, lenL_zero]
      have HT : Hid (l = dec x.N) := Lib.hid (by
        have h1 := hzl.out
        rw [hz, decz_zero] at h1
        rw [dec_pos H0.out]; simpa using h1)
      clear hz hzn hzX hzl
      rw [hz0]
      go_wp2
      go_ret
      exact ⟨by rw [HT.out]; rfl, hE.out.pick fun z hz => List.mem_cons_of_mem _ hz⟩
    · have hz1 : 0 < z.n := by rw [hzn.out]; exact lenL_pos hz
      have hz2 : z.n ≤ 700 := by rw [hzn.out]; exact Nat.le_trans (lenL_mono hzX.out) (Nat.le_trans HB.out bx)
      have Hz := Lib.hid hz
      clear hz
      go_wp2_with fail
      refine (rDiv_E (x := z) (y := ⟨some ⟨wr.heap.size, 0, none⟩, 1, 1, 1000000000⟩) (hE.out.lit (N := 1000000000) rfl rfl (by decide)) (by simp) (by simp) (by omega) (by simp)).mono ?_
      rintro e W2 ⟨q, r, rfl, hqN, hqn, hrN, hrn, hE2⟩
      have hqN' : Hid (q.N = z.N / 1000000000) := Lib.hid hqN
      have hrN' : r.N = z.N % 1000000000 := by rw [hrN, restN_pos (by simp)]
      have hr9 : r.N < 1000000000 := by rw [hrN']; exact Nat.mod_lt _ (by omega)
      have hrn' : r.n = lenL r.N := by rw [hrn, hrN]
      have hqn' : Hid (q.n = lenL q.N) := Lib.hid (by rw [hqn, hqN])
      have hqr : Hid (q.N * 10 ^ 9 + r.N = z.N) := Lib.hid (by rw [hqN'.out, hrN']; have := Nat.div_add_mod z.N 1000000000; omega)
      clear hqN hqn hrN hrn
      have hzE : zeroE 1000000000 = 0 := zeroE_pos (by omega)
      rw [hzE]
      have HE2 := Lib.hid hE2
      by_cases hr0 : r.N = 0
      · have hrn0 : r.n = 0 := by rw [hrn', hr0, lenL_zero]
        rw [hrn0]
        have HNZ : Hid (0 ≠ 0 ∨ q.N ≠ 0) := Lib.hid (.inr (by have := Hz.out; have := hqr.out; omega))
        have HE3 : Hid (Env w (q :: e) W2) := Lib.hid (HE2.out.pick (by intro u hu; simp only [List.mem_cons] at hu ⊢; rcases hu with hu | hu <;> simp [hu]))
        clear hrn' hrN' hE2
        go_wp2
        go_loopw [3, 7, 8] (fun sv nv kv V => ∃ (k n : Nat) (m : List UInt8), k ≤ 9 ∧ n < 1000000000 ∧ kv = .int .i64 k ∧ nv = .int .u32 n ∧ sv = .string ⟨m.toArray⟩ ∧ Hid (m.length = l.length + k) ∧ Hid (decz (q.N * 10 ^ (9 - k) + n) ++ m = decz x.N) ∧ Hid (n < 10 ^ (9 - k)) ∧ Hid (k = 0 → n ≠ 0 ∨ q.N ≠ 0) ∧ Hid (Env w (q :: e) V)) (fun _ _ kv _ => 9 - (intOf kv).toNat)
        case atStart => exact ⟨0, 0, l, by omega, by omega, rfl, rfl, rfl, Lib.hid rfl, Lib.hid (by rw [← hzl.out, ← hqr.out]; rw [hr0]), Lib.hid (by first | exact hr9 | decide), Lib.hid (fun _ => HNZ.out), HE3⟩
        case round =>
          obtain ⟨k, n, m, hk, hn, rfl, rfl, rfl, hm, hd, hnk, hfirst, hV⟩ := hrel
          by_cases h9 : k < 9
          · have h9' : decide ((k : Int) < 9) = true := by rw [decide_eq_true_eq]; omega
            have hmk : m.length + 1 ≤ 100000 := by have := text_len hd.out; have := HX.out; omega
            by_cases hn0 : n = 0
            · have hng : ¬ 0 < n := by omega
              by_cases hq0 : q.N = 0
              · have hqz : ¬ 0 < q.n := by rw [hqn'.out, hq0, lenL_zero]; omega
                have HEX : Hid (9 ≤ k ∨ n = 0 ∧ q.N = 0) := Lib.hid (.inr ⟨hn0, hq0⟩)
                have HK0 : Hid (0 < k) := Lib.hid (by
                  have h1 := hfirst.out
                  rcases Nat.eq_zero_or_pos k with h2 | h2
                  · rcases h1 h2 with h3 | h3
                    · exact absurd hn0 h3
                    · exact absurd hq0 h3
                  · exact h2)
                clear hn0 hq0
                go_wp2
                exact text_out hqn'.out (by rw [hqN'.out]; exact Nat.le_trans (Nat.div_le_self _ _) hzX.out) hd.out hnk.out HEX.out hm.out HK0.out hzl.out hV.out
              · have hqz : 0 < q.n := by rw [hqn'.out]; exact lenL_pos hq0
                have HP : Hid (n ≠ 0 ∨ q.N ≠ 0) := Lib.hid (.inr hq0)
                clear hn0 hq0
                go_wp2
                exact rtext_in h9 hn hd.out hnk.out HP.out hm.out hV.out _
            · have hn1 : 0 < n := by omega
              have HP : Hid (n ≠ 0 ∨ q.N ≠ 0) := Lib.hid (.inl hn0)
              clear hn0
              go_wp2
              exact rtext_in h9 hn hd.out hnk.out HP.out hm.out hV.out _
          · have h9' : decide ((k : Int) < 9) = false := by rw [decide_eq_false_iff_not]; omega
            have HEX : Hid (9 ≤ k ∨ n = 0 ∧ q.N = 0) := Lib.hid (.inl (by omega))
            have HK0 : Hid (0 < k) := Lib.hid (by omega)
            go_wp2
            exact text_out hqn'.out (by rw [hqN'.out]; exact Nat.le_trans (Nat.div_le_self _ _) hzX.out) hd.out hnk.out HEX.out hm.out HK0.out hzl.out hV.out
      · have hrn1 : r.n = 1 := by
          rw [hrn']
          have h1 := lenL_pos hr0
          have h2 : lenL r.N ≤ 1 := lenL_le.2 (by rw [Nat.pow_one, Bw_eq]; omega)
          omega
        obtain ⟨ad, hA, _, hc⟩ := (hE2.2 r (by simp)).1.at_ (k := 0) (by omega)
        have hd0 : dig r.N 0 = r.N := by unfold dig; rw [Nat.pow_zero, Nat.div_one, Bw_eq, Nat.mod_eq_of_lt (by omega)]
        rw [hd0] at hc
        rw [hrn1, hA]
        clear hrn' hrN' hE2 hd0
        have HNZ : Hid (r.N ≠ 0 ∨ q.N ≠ 0) := Lib.hid (.inl hr0)
        have hc0 : W2.cell? ad = some (.int .u32 (r.N : Nat)) := hc
        have HE3 : Hid (Env w (q :: e) W2) := Lib.hid (HE2.out.pick (by intro u hu; simp only [List.mem_cons] at hu ⊢; rcases hu with hu | hu <;> simp [hu]))
        go_wp2
        go_loopw [3, 7, 8] (fun sv nv kv V => ∃ (k n : Nat) (m : List UInt8), k ≤ 9 ∧ n < 1000000000 ∧ kv = .int .i64 k ∧ nv = .int .u32 n ∧ sv = .string ⟨m.toArray⟩ ∧ Hid (m.length = l.length + k) ∧ Hid (decz (q.N * 10 ^ (9 - k) + n) ++ m = decz x.N) ∧ Hid (n < 10 ^ (9 - k)) ∧ Hid (k = 0 → n ≠ 0 ∨ q.N ≠ 0) ∧ Hid (Env w (q :: e) V)) (fun _ _ kv _ => 9 - (intOf kv).toNat)
        case atStart => exact ⟨0, r.N, l, by omega, by omega, rfl, rfl, rfl, Lib.hid rfl, Lib.hid (by rw [← hzl.out, ← hqr.out]), Lib.hid (by first | exact hr9 | decide), Lib.hid (fun _ => HNZ.out), HE3⟩
        case round =>
          obtain ⟨k, n, m, hk, hn, rfl, rfl, rfl, hm, hd, hnk, hfirst, hV⟩ := hrel
          by_cases h9 : k < 9
          · have h9' : decide ((k : Int) < 9) = true := by rw [decide_eq_true_eq]; omega
            have hmk : m.length + 1 ≤ 100000 := by have := text_len hd.out; have := HX.out; omega
            by_cases hn0 : n = 0
            · have hng : ¬ 0 < n := by omega
              by_cases hq0 : q.N = 0
              · have hqz : ¬ 0 < q.n := by rw [hqn'.out, hq0, lenL_zero]; omega
                have HEX : Hid (9 ≤ k ∨ n = 0 ∧ q.N = 0) := Lib.hid (.inr ⟨hn0, hq0⟩)
                have HK0 : Hid (0 < k) := Lib.hid (by
                  have h1 := hfirst.out
                  rcases Nat.eq_zero_or_pos k with h2 | h2
                  · rcases h1 h2 with h3 | h3
                    · exact absurd hn0 h3
                    · exact absurd hq0 h3
                  · exact h2)
                clear hn0 hq0
                go_wp2
                exact text_out hqn'.out (by rw [hqN'.out]; exact Nat.le_trans (Nat.div_le_self _ _) hzX.out) hd.out hnk.out HEX.out hm.out HK0.out hzl.out hV.out
              · have hqz : 0 < q.n := by rw [hqn'.out]; exact lenL_pos hq0
                have HP : Hid (n ≠ 0 ∨ q.N ≠ 0) := Lib.hid (.inr hq0)
                clear hn0 hq0
                go_wp2
                exact rtext_in h9 hn hd.out hnk.out HP.out hm.out hV.out _
            · have hn1 : 0 < n := by omega
              have HP : Hid (n ≠ 0 ∨ q.N ≠ 0) := Lib.hid (.inl hn0)
              clear hn0
              go_wp2
              exact rtext_in h9 hn hd.out hnk.out HP.out hm.out hV.out _
          · have h9' : decide ((k : Int) < 9) = false := by rw [decide_eq_false_iff_not]; omega
            have HEX : Hid (9 ≤ k ∨ n = 0 ∧ q.N = 0) := Lib.hid (.inl (by omega))
            have HK0 : Hid (0 < k) := Lib.hid (by omega)
            go_wp2
            exact text_out hqn'.out (by rw [hqN'.out]; exact Nat.le_trans (Nat.div_le_self _ _) hzX.out) hd.out hnk.out HEX.out hm.out HK0.out hzl.out hV.out

theorem rText_E {w W : World} {e : List Num} {x : Num} (h : Env w e W) (hx : x ∈ e) (bx : x.n ≤ 700) :
    Calls Tryz.prog 17 #[.slice x.A x.n x.c] W (Says w e (dec x.N)) := by
  by_cases h0 : x.N = 0
  · exact rText_zero h hx h0
  · exact rText_pos h hx h0 bx
set_option maxHeartbeats 1000000 in
theorem rCount6_E {w W : World} {e : List Num} {x : Num} (h : Env w e W) (hx : x ∈ e) (bx : x.n ≤ 700) :
    Calls Tryz.prog 21 #[.slice x.A x.n x.c] W fun e' W' => e' = .returned (.int .i64 (dec x.N).length) ∧ Env w e W' := by
  go_enter Tryz.func21, Tryz.ntmps21
  go_wp2_with fail
  refine (rText_E h hx bx).mono ?_
  rintro e' W' ⟨rfl, hE⟩
  go_wp2
  go_ret
  exact ⟨by first | rfl | simp [str_size], hE⟩
end Go.Proofs.YtaancfhbmjkoaaaGreatDoor
