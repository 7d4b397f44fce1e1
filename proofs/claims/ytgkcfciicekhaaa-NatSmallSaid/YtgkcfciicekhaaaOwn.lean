/- NatOwn: what is told is in memory of its own, and trimmed; proved for all arguments. -/
import Derived.Laws.BitsAllLaws
import Derived.Test.YtgkcfciicekhaaaApp
import Derived.Test.YtgkcfciicekhaaaEnv
import Derived.Test.YtgkcfciicekhaaaLaw
namespace Go.Proofs.Ytgkcfciicekhaaa
open Go Go.ChangeShapes Go.WideShapes Go.ChangeAt Go.RowKit Go.Deep

set_option maxRecDepth 100000 in
set_option maxHeartbeats 2000000 in
theorem own_great (w : World) (x y : Num) (hx : x.ok w w.heap.size) (hy : y.ok w w.heap.size) (hg : greatB [x, y] = true) :
    Calls Try.prog 7 #[.slice x.A x.n x.c, .slice y.A y.n y.c] w fun e w' => e = .returned (.bool true) ∧ Below w.heap.size w w' := by
  have hE : Env w [x, y] w := Env.start (by simp; exact ⟨hx, hy⟩)
  have HG := Lib.hid hg
  clear hg hx hy
  go_enter Try.func7, Try.ntmps7
  go_wp2_with fail
  refine (Great_E2 (x := x) (y := y) hE (by simp) (by simp) rfl).mono ?_
  rintro e W ⟨rfl, hE1⟩
  rw [HG.out]
  go_wp2_with fail
  refine (wakes_E hE1).mono ?_
  rintro e W2 ⟨rfl, hE2⟩
  go_wp2
  go_ret
  exact ⟨rfl, hE2.1⟩

/-- A fresh copy of a number. -/
theorem copy_own {W : World} {x : Num} {v' : Value} {W' : World} (hx : x.ok W W.heap.size)
    (hown : W'.ownsRow W.heap.size 43 1 v' (0 + x.n) ([] ++ limbs x.N x.n)) (hg : (W.alloc (.cells #[] 43)).grownBy W' (some W.heap.size)) :
    ∃ r : Num, v' = .slice r.A r.n r.c ∧ r.N = x.N ∧ r.n = x.n ∧ r.ok W' W'.heap.size ∧ Below W.heap.size W W' := by
  rw [Nat.zero_add, List.nil_append] at hown
  obtain ⟨A, c, rfl, h1, h2, h3⟩ := Fr.of_own hown hx.1.1 (fun j hj => limbs_at hj)
  exact ⟨⟨A, x.n, c, x.N⟩, rfl, rfl, rfl, ⟨h3.rd, h1, h2, hx.2.2.2⟩, ((Below.refl _ W).alloc (Nat.le_refl _) _).grown hg (by simp) (fun k e => by cases e; exact Nat.le_refl _)⟩

theorem limbs_read {W : World} {x : Num} (hx : x.ok W W.heap.size) : ∀ j u, (limbs x.N x.n)[j]? = some u → ∃ ad : Addr, x.A = some ad ∧ (W.alloc (.cells #[] 43)).cell? (ad.add j) = some u := fun j u hu => by
  obtain ⟨hj, rfl⟩ := limbs_get hu
  obtain ⟨ad, e, hb, hc⟩ := (hx.alloc (.cells #[] 43)).1.at_ (k := j) hj
  exact ⟨ad, e, hc⟩

theorem sameB_refl (n N : Nat) : sameB n n N N = true := by simp [sameB]

/-- A number that is the call's own, in blocks from lo to hi. -/
def Mine (W : World) (lo hi : Nat) (r : Num) : Prop := Fr W lo hi r.A r.n r.N ∧ r.n = lenL r.N ∧ r.n ≤ 35184372087808
theorem Mine.step {W W' : World} {lo hi : Nat} {r : Num} (h : Mine W lo hi r) (hb : Below hi W W') : Mine W' lo hi r := ⟨h.1.keep hb, h.2⟩

theorem Mine.wide {W W' : World} {lo hi lo' hi' : Nat} {r : Num} (h : Mine W lo hi r) (hb : Below hi W W') (h1 : lo' ≤ lo) (h2 : hi ≤ hi') : Mine W' lo' hi' r := ⟨((h.1.keep hb).from h1).more h2, h.2⟩

theorem Sub_own {w W : World} {l : List Num} {x y : Num} (h : Env w l W) (hx : x ∈ l) (hy : y ∈ l) :
    Calls Try.prog 12 #[.slice x.A x.n x.c, .slice y.A y.n y.c] W fun e W' => ∃ (r : Num) (k : Int), e = .returned (.tuple #[.slice r.A r.n r.c, .int .i64 k]) ∧ Env w l W' ∧ Mine W' W.heap.size W'.heap.size r := by
  rcases Nat.lt_or_ge x.N y.N with hlt | hle
  · exact (Sub_no_E h hx hy hlt).mono fun e W' ⟨he, hE⟩ => ⟨⟨none, 0, 0, 0⟩, 10, he, hE, Fr.nil, rfl, by simp⟩
  · exact (Sub_yes_E h hx hy hle).mono fun e W' ⟨r, he, hN, hn, hE, hF⟩ => ⟨r, 0, he, ⟨hE.1, fun z hz => hE.2 z (by simp [hz])⟩, hF, by rw [hn, hN], (hE.2 r (by simp)).2.2.2⟩

theorem mine_of_back {w W' : World} {l : List Num} {lo N : Nat} {f : Num → Value} {e : Ending} (h : Back w l lo N f e W') : ∃ r : Num, e = .returned (f r) ∧ Env w l W' ∧ Mine W' lo W'.heap.size r := by
  obtain ⟨r, he, hN, hn, hE, hF⟩ := h
  exact ⟨r, he, ⟨hE.1, fun z hz => hE.2 z (by simp [hz])⟩, hF, by rw [hn, hN], (hE.2 r (by simp)).2.2.2⟩

theorem Env.size {w W : World} {l : List Num} (h : Env w l W) : w.heap.size ≤ W.heap.size := h.1.size

def Apart (xs : List Num) : Prop := xs.Pairwise (fun a b => 0 < a.n → 0 < b.n → a.A ≠ b.A)
theorem mine_apart {W W' : World} {lo hi lo' hi' : Nat} {a b : Num} (ha : Mine W lo hi a) (hb : Mine W' lo' hi' b) (h : hi ≤ lo' ∨ hi' ≤ lo) (h1 : 0 < a.n) (h2 : 0 < b.n) : a.A ≠ b.A := by
  obtain ⟨g, e, p1, p2, _⟩ := ha.1.2 h1
  obtain ⟨g', e', p1', p2', _⟩ := hb.1.2 h2
  rw [e, e']
  intro e2
  have : g = g' := by injection e2 with e2; injection e2
  omega

/-- Between two rounds: the row of the five; those that have not come are as they were; what lay below W2's end is as it was. -/
def Five (W2 : World) (L : Nat) (xs : List Num) (k : Nat) (W : World) : Prop :=
  Below W2.heap.size W2 W ∧ (∀ j (h : j < xs.length), W.cell? ⟨L, j, none⟩ = some (.slice xs[j].A xs[j].n xs[j].c)) ∧ (∀ j (h : j < xs.length), k ≤ j → Mine W W2.heap.size L xs[j]) ∧ L < W.heap.size

/-- Within a round: the limbs from i on are as they were; nothing has turned but the number's block. -/
def Flip (W : World) (x : Num) (i : Nat) (W' : World) : Prop :=
  (∀ g, x.A = some ⟨g, 0, none⟩ → W.grownBy W' (some g)) ∧ (x.n = 0 → W' = W) ∧ ∀ j, i ≤ j → j < x.n → ∃ g, x.A = some ⟨g, 0, none⟩ ∧ W'.cell? ⟨g, j, none⟩ = some (.int .u32 (dig x.N j : Nat)) ∧ W'.frozen? ⟨g, j, none⟩ = false
theorem Flip.start {W : World} {lo hi : Nat} {x : Num} (h : Mine W lo hi x) : Flip W x 0 W :=
  ⟨fun g _ => World.grownBy.refl W _, fun _ => rfl, fun j _ hj => by
    obtain ⟨g, e, _, _, hc⟩ := h.1.2 (by omega)
    exact ⟨g, e, hc j hj⟩⟩
theorem Flip.write {W W' : World} {x : Num} {i g : Nat} (h : Flip W x i W') (hg : x.A = some ⟨g, 0, none⟩) (hi : i < x.n) (v : Value) : Flip W x (i + 1) (W'.setCell ⟨g, i, none⟩ v) := by
  refine ⟨fun g' e => ?_, fun h0 => by omega, fun j h1 h2 => ?_⟩
  · rw [hg] at e
    cases e
    exact (h.1 g hg).trans ⟨rfl, rfl, rfl, (KeepsWalks.setCell W' _ v).size, fun k _ hk => Below.heap_setCell _ _ _ k (fun e => hk (by rw [e]))⟩
  · obtain ⟨g', e, hc, hf⟩ := h.2.2 j (by omega) h2
    rw [hg] at e
    cases e
    exact ⟨g, hg, by rw [World.cell?_setCell_other W' ⟨g, i, none⟩ ⟨g, j, none⟩ v (by first | (simp; done) | (simp; omega))]; exact hc, by rw [World.frozen?_setCell]; exact hf⟩
theorem Five.next {W2 W W' : World} {L k : Nat} {xs : List Num} (h : Five W2 L xs k W) (hA : Apart xs) (hk : k < xs.length) (hF : Flip W xs[k] xs[k].n W') : Five W2 L xs (k + 1) W' := by
  obtain ⟨h1, h2, h3, h4⟩ := h
  rcases Nat.eq_zero_or_pos xs[k].n with h0 | h0
  · rw [hF.2.1 h0]
    exact ⟨h1, h2, fun j hj hkj => h3 j hj (by omega), h4⟩
  · obtain ⟨g, e, p1, p2, _⟩ := (h3 k hk (Nat.le_refl _)).1.2 h0
    have hg := hF.1 g e
    refine ⟨h1.grown hg h1.size (fun q hq => by cases hq; omega), fun j hj => ?_, fun j hj hkj => ?_, Nat.lt_of_lt_of_le h4 hg.size⟩
    · exact (World.cell?_of_block (hg.block L h4 (by simp; omega))).trans (h2 j hj)
    · obtain ⟨q1, q2, q3⟩ := h3 j hj (by omega)
      refine ⟨⟨q1.1, fun hn => ?_⟩, q2, q3⟩
      obtain ⟨g', e', r1, r2, r3⟩ := q1.2 hn
      have hne : xs[k].A ≠ xs[j].A := (List.pairwise_iff_getElem.1 hA) k j hk hj (by omega) h0 hn
      have hgg : g' ≠ g := fun e2 => hne (by rw [e, e', e2])
      have hb := hg.block g' (by omega) (by simp; exact hgg)
      exact ⟨g', e', r1, r2, fun i hi => ⟨(World.cell?_of_block hb).trans (r3 i hi).1, (World.frozen?_of_block hb).trans (r3 i hi).2⟩⟩

set_option maxRecDepth 100000 in
set_option maxHeartbeats 2000000 in
theorem own_go (w : World) (x y : Num) (hx : x.ok w w.heap.size) (hy : y.ok w w.heap.size) (hg : greatB [x, y] = false) :
    Calls Try.prog 7 #[.slice x.A x.n x.c, .slice y.A y.n y.c] w fun e w' => e = .returned (.bool true) ∧ Below w.heap.size w w' := by
  have hE : Env w [x, y] w := Env.start (by simp; exact ⟨hx, hy⟩)
  obtain ⟨bx, by'⟩ := sizeN2 hg
  have HG := Lib.hid hg
  clear hg hx hy
  obtain ⟨i0, hi, hz0, hz1, hz2⟩ := info_parts info_u32
  go_enter Try.func7, Try.ntmps7
  go_wp2_with fail
  refine (Great_E2 (x := x) (y := y) hE (by simp) (by simp) rfl).mono ?_
  rintro e W ⟨rfl, hE1⟩
  rw [HG.out]
  have okx := hE1.2 x (by simp)
  go_wp2_with (first
    | (at_builtin; refine wpList_append_row _ rfl (.tmp 17) (.tmp 18) _ rfl W.heap.size 43 i0 (.int .u32 0) 4 Try.underlying23 hi hz0 hz1 hz2 rfl (.slice (some ⟨W.heap.size, 0, none⟩) 0 0) 0 [] rfl (World.ownsRow_lit W #[] 0 (Nat.le_refl _) (by simp) rfl) x.A x.n x.c (limbs x.N x.n) rfl (limbs_length _ _) (limbs_read okx) limbs_one (by simp only [maxLen]; omega) (by omega) (by simp) ?_; intro v1 W1 hown1 hg1 _; obtain ⟨was, rfl, hwN, hwn, okwas, hb1⟩ := copy_own okx hown1 hg1; clear hown1 hg1; replace hwN := Lib.hid hwN; replace hwn := Lib.hid hwn; have hE2 := (hE1.step hb1).add okwas; have oky := hE2.2 y (by simp); clear okx hE1)
    | (at_builtin; refine wpList_append_row _ rfl (.tmp 20) (.tmp 21) _ rfl W1.heap.size 43 i0 (.int .u32 0) 4 Try.underlying23 hi hz0 hz1 hz2 rfl (.slice (some ⟨W1.heap.size, 0, none⟩) 0 0) 0 [] rfl (World.ownsRow_lit W1 #[] 0 (Nat.le_refl _) (by simp) rfl) y.A y.n y.c (limbs y.N y.n) rfl (limbs_length _ _) (limbs_read oky) limbs_one (by simp only [maxLen]; omega) (by omega) (by simp) ?_; intro v2 W2 hown2 hg2 _; obtain ⟨old, rfl, hoN, hon, okold, hb2⟩ := copy_own oky hown2 hg2; clear hown2 hg2; replace hoN := Lib.hid hoN; replace hon := Lib.hid hon; have hE3 := (hE2.step hb2).add okold; clear oky hE2))
  have hE4 : Env W2 [⟨none, 0, 0, 0⟩, old, was, x, y] W2 := Env.start (by
    intro z hz
    rcases List.mem_cons.1 hz with rfl | hz
    · exact ⟨Rd.none_, Nat.le_refl _, by simp [maxLen], by simp⟩
    · exact hE3.2 z hz)
  have hBw := Lib.hid hE3.1
  have hE4b := Lib.hid hE4.2
  clear hE3 hb1 hb2 okwas okold hE
  refine (Sub_own (x := x) (y := y) hE4 (by simp) (by simp)).mono ?_
  rintro e W3 ⟨d, k3, rfl, hE5, hd⟩
  have hE5' : Env W3 _ W3 := Env.start hE5.2
  go_wp2_with fail
  refine (Trim_E (x := x) hE5' (by simp)).mono ?_
  intro e W4 hbk
  obtain ⟨t, rfl, hE6, ht⟩ := mine_of_back hbk
  have hE6' : Env W4 _ W4 := Env.start hE6.2
  clear hbk
  go_wp2_with fail
  refine (Add_E1 (x := x) hE6' (by simp) rfl).mono ?_
  intro e W5 hbk
  obtain ⟨s1, rfl, hE7, hs1⟩ := mine_of_back hbk
  have hE7' : Env W5 _ W5 := Env.start hE7.2
  clear hbk
  go_wp2_with fail
  refine (Add_E2 (x := x) (y := y) hE7' (by simp) (by simp) rfl (by omega) (by omega)).mono ?_
  intro e W6 hbk
  obtain ⟨s2, rfl, hE8, hs2⟩ := mine_of_back hbk
  have hE8' : Env W6 _ W6 := Env.start hE8.2
  clear hbk
  go_wp2_with fail
  refine (Add_E2 (x := ⟨none, 0, 0, 0⟩) (y := x) hE8' (by simp) (by simp) rfl (by simp) (by omega)).mono ?_
  intro e W7 hbk
  obtain ⟨s3, rfl, hE9, hs3⟩ := mine_of_back hbk
  clear hbk
  go_wp2_with fail
  obtain ⟨xs, hxs⟩ : ∃ xs, [t, s1, s2, s3, d] = xs := ⟨_, rfl⟩
  have hlen : xs.length = 5 := by rw [← hxs]; rfl
  have hAp : Apart xs := by
    rw [← hxs]
    have m3 := hE5.size
    have m4 := hE6.size
    have m5 := hE7.size
    have m6 := hE8.size
    have m7 := hE9.size
    simp only [Apart, List.pairwise_cons, List.mem_cons, List.not_mem_nil, or_false, forall_eq_or_imp, forall_eq, false_imp_iff, implies_true, List.Pairwise.nil, and_true]
    refine ⟨⟨?_, ?_, ?_, ?_⟩, ⟨?_, ?_, ?_⟩, ⟨?_, ?_⟩, ?_⟩
    · exact mine_apart ht hs1 (by omega)
    · exact mine_apart ht hs2 (by omega)
    · exact mine_apart ht hs3 (by omega)
    · exact mine_apart ht hd (by omega)
    · exact mine_apart hs1 hs2 (by omega)
    · exact mine_apart hs1 hs3 (by omega)
    · exact mine_apart hs1 hd (by omega)
    · exact mine_apart hs2 hs3 (by omega)
    · exact mine_apart hs2 hd (by omega)
    · exact mine_apart hs3 hd (by omega)
  have hF0 : Five W2 W7.heap.size xs 0 (W7.alloc (.cells #[.slice t.A t.n t.c, .slice s1.A s1.n s1.c, .slice s2.A s2.n s2.c, .slice s3.A s3.n s3.c, .slice d.A d.n d.c] 23)) := by
    have m3 := hE5.size
    have m4 := hE6.size
    have m5 := hE7.size
    have m6 := hE8.size
    have m7 := hE9.size
    have b8 : Below W7.heap.size W7 (W7.alloc (.cells #[.slice t.A t.n t.c, .slice s1.A s1.n s1.c, .slice s2.A s2.n s2.c, .slice s3.A s3.n s3.c, .slice d.A d.n d.c] 23)) := (Below.refl _ _).alloc (Nat.le_refl _) _
    have b7 := hE9.1.trans (b8.mono m7)
    have b6 := hE8.1.trans (b7.mono m6)
    have b5 := hE7.1.trans (b6.mono m5)
    have b4 := hE6.1.trans (b5.mono m4)
    refine ⟨hE5.1.trans (b4.mono m3), fun j hj => ?_, fun j hj _ => ?_, by simp⟩
    · have h := World.alloc_heap_new' W7 (.cells #[.slice t.A t.n t.c, .slice s1.A s1.n s1.c, .slice s2.A s2.n s2.c, .slice s3.A s3.n s3.c, .slice d.A d.n d.c] 23)
      subst hxs
      simp only [World.cell?, h]
      match j, hj with
      | 0, _ => rfl
      | 1, _ => rfl
      | 2, _ => rfl
      | 3, _ => rfl
      | 4, _ => rfl
    · subst hxs
      match j, hj with
      | 0, _ => exact ht.wide b5 m3 (by omega)
      | 1, _ => exact hs1.wide b6 (by omega) (by omega)
      | 2, _ => exact hs2.wide b7 (by omega) (by omega)
      | 3, _ => exact hs3.wide b8 (by omega) (by omega)
      | 4, _ => exact hd.wide b4 (by omega) (by omega)
  obtain ⟨W8, hW8⟩ : ∃ W8, W7.alloc (.cells #[.slice t.A t.n t.c, .slice s1.A s1.n s1.c, .slice s2.A s2.n s2.c, .slice s3.A s3.n s3.c, .slice d.A d.n d.c] 23) = W8 := ⟨_, rfl⟩
  rw [hW8] at hF0 ⊢
  have HF0 := Lib.hid hF0
  have HX := Lib.hid hlen
  clear hW8 hF0 hlen hxs hE4 hE5 hE6 hE7 hE8 hE9 hE5' hE6' hE7' hE8' ht hs1 hs2 hs3 hd
  go_loopw [44] (fun i wr => ∃ k : Nat, k ≤ 5 ∧ i = .int .i64 k ∧ Five W2 W7.heap.size xs k wr) (fun i _ => 5 - (intOf i).toNat)
  case atStart => exact ⟨0, by omega, rfl, HF0.out⟩
  case round =>
    obtain ⟨k, hk, rfl, hF⟩ := hrel
    by_cases hlt : k < 5
    · have hkx : k < xs.length := by rw [HX.out]; exact hlt
      have hc := hF.2.1 k hkx
      have hM := hF.2.2.1 k hkx (Nat.le_refl _)
      obtain ⟨x0, hx0⟩ : ∃ x0, xs[k] = x0 := ⟨_, rfl⟩
      have HX0 := Lib.hid hx0
      rw [hx0] at hc hM
      have hfl := Lib.hid (Flip.start hM)
      have hnl := hM.2.2
      have HM := Lib.hid hM
      have HFv := Lib.hid hF
      clear hx0 hM hF
      rcases Nat.eq_zero_or_pos x0.n with h0 | h0
      · obtain ⟨A0, m0, c0, N0⟩ := x0
        dsimp only at h0 hc hnl
        subst h0
        have HN := Lib.hid (HFv.out.next hAp hkx (by have := hfl.out; rw [HX0.out]; exact this))
        obtain ⟨wo, hwo⟩ : ∃ wo, wo = wr := ⟨_, rfl⟩
        have HWO := Lib.hid hwo
        clear hwo
        go_wp2
        go_loopw [62] (fun i wi => i = .int .i64 0 ∧ wi = wr) (fun _ _ => 0)
        case atStart => exact ⟨rfl, rfl⟩
        case round =>
          obtain ⟨rfl, hwi⟩ := hrel
          subst hwi
          go_wp2
          go_roundw
          case rel => exact ⟨k + 1, by omega, by go_num, HN.out⟩
          case measure => simp [intOf]; omega
      · obtain ⟨A0, m0, c0, N0⟩ := x0
        dsimp only at h0 hc hnl
        obtain ⟨m, rfl⟩ : ∃ m, m0 = m + 1 := ⟨m0 - 1, by omega⟩
        obtain ⟨g, e, _, _, hcs⟩ := HM.out.1.2 h0
        dsimp only at e
        subst e
        have hct := (hcs m (by simp)).1
        have hb : ((dig N0 m : Int) == 0) = false := by
          have := dig_top (N := N0) (k := m) HM.out.2.1.symm
          rw [beq_eq_false_iff_ne]
          omega
        dsimp only at hct
        clear hcs h0
        have HN : ∀ W', Flip wr ⟨some ⟨g, 0, none⟩, m + 1, c0, N0⟩ (m + 1) W' → Five W2 W7.heap.size xs (k + 1) W' := fun W' h => HFv.out.next hAp hkx (by rw [HX0.out]; exact h)
        obtain ⟨wo, rfl⟩ : ∃ wo, wo = wr := ⟨_, rfl⟩
        go_wp2
        go_loopw [62] (fun i wi => ∃ j : Nat, j ≤ m + 1 ∧ i = .int .i64 j ∧ Flip wo ⟨some ⟨g, 0, none⟩, m + 1, c0, N0⟩ j wi) (fun i _ => m + 1 - (intOf i).toNat)
        case atStart => exact ⟨0, Nat.zero_le _, rfl, hfl.out⟩
        case round =>
          obtain ⟨j, hj, rfl, hFl⟩ := hrel
          by_cases hjm : j < m + 1
          · obtain ⟨g', e, hcj, hfj⟩ := hFl.2.2 j (Nat.le_refl _) hjm
            have e2 : g = g' := by injection e with e; injection e
            subst e2
            clear e
            have hdl := dig_lt N0 j
            have HFl := Lib.hid hFl
            clear hFl hct hb
            dsimp only at hcj
            go_wp2
            go_roundw
            case rel => exact ⟨j + 1, by omega, by go_num, HFl.out.write rfl hjm _⟩
            case measure => simp [intOf]; omega
          · obtain rfl : j = m + 1 := by omega
            have HFl := Lib.hid (HN _ hFl)
            clear hFl hct hb
            go_wp2
            go_roundw
            case rel => exact ⟨k + 1, by omega, by go_num, HFl.out⟩
            case measure => simp [intOf]; omega
    · obtain rfl : k = 5 := by omega
      have hB := hF.1
      have hEe : Env W2 [⟨none, 0, 0, 0⟩, old, was, x, y] wr := ⟨hB, fun z hz => (hE4b.out z hz).later hB⟩
      clear hF hB
      go_wp2_with fail
      refine (same_E (x := x) (y := was) hEe (by simp) (by simp)).mono ?_
      rintro e V1 ⟨rfl, hV1⟩
      rw [hwN.out, hwn.out, sameB_refl]
      go_wp2_with fail
      refine (same_E (x := y) (y := old) hV1 (by simp) (by simp)).mono ?_
      rintro e V2 ⟨rfl, hV2⟩
      rw [hoN.out, hon.out, sameB_refl]
      go_wp2_with fail
      refine (wakes_E hV2).mono ?_
      rintro e V3 ⟨rfl, hV3⟩
      go_wp2
      go_ret
      exact ⟨rfl, hBw.out.trans (hV3.1.mono hBw.out.size)⟩
end Go.Proofs.Ytgkcfciicekhaaa
