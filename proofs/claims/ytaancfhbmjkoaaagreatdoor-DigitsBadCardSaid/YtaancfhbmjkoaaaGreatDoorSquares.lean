/- Contract of package digits' squares: the place's base, its square, that one's square, and so on, in a row of the call's own. -/
import Derived.Test.YtaancfhbmjkoaaaGreatDoorPlacesM
import Derived.Test.YtaancfhbmjkoaaaGreatDoorRowN
import Derived.Test.YtaancfhbmjkoaaaGreatDoorGNatA
import Derived.Test.YtaancfhbmjkoaaaGreatDoorGProdC
import Derived.Test.YtaancfhbmjkoaaaGreatDoorGQuotA
namespace Go.Proofs.YtaancfhbmjkoaaaGreatDoor
open Go Go.RowKit

/-- The value's block is none of the number's. -/
def OutV (v : Value) (x : Num) : Prop := 0 < x.n → ∀ ad, x.A = some ad → v.ownBlock ≠ some ad.block
/-- The powers are told, in a row of the call's own; the next one is at hand. -/
structure SqI (W0 : World) (X : Nat) (W : World) (v : Value) (l : List Num) (r : Num) : Prop where
  bel : Below W0.heap.size W0 W
  own : W.ownsRow W0.heap.size 23 1 v l.length (rowV l)
  nums : ∀ z ∈ r :: l, Fr W W0.heap.size W.heap.size z.A z.n z.N ∧ z.n ≤ z.c ∧ z.c ≤ maxLen ∧ z.n ≤ 1000 ∧ OutV v z
  pows : ∀ k (h : k < l.length), l[k].N = P9 k
  next : r.N = P9 l.length ∧ r.n = lenL r.N
  low : ∀ k, k < l.length → P9 k ≤ X

theorem SqI.later {W0 W W' : World} {X : Nat} {v : Value} {l : List Num} {r : Num} (h : SqI W0 X W v l r) (hb : Below W.heap.size W W') : SqI W0 X W' v l r :=
  ⟨h.bel.trans (hb.mono h.bel.size), h.own.kept (grown_of_below (r := none) hb) (by
      cases h1 : v.ownBlock with
      | none => exact .inl rfl
      | some g => exact .inr (by simp)),
    fun z hz => by
      obtain ⟨h1, h2, h3, h4, h5⟩ := h.nums z hz
      exact ⟨(h1.keep hb).more hb.size, h2, h3, h4, h5⟩, h.pows, h.next, h.low⟩

theorem pow_small {k n X : Nat} (h : P9 k ≤ X) (hX : X < Bw ^ n) (hn : n ≤ 100) : k < 12 := by
  have h1 : 2 ^ 2 ^ k < 2 ^ (32 * n) := by
    refine Nat.lt_of_le_of_lt (P9_two k) (Nat.lt_of_le_of_lt h ?_)
    have e : Bw ^ n = 2 ^ (32 * n) := by rw [Bw_eq, Nat.pow_mul]
    rw [← e]; exact hX
  have h2 := (Nat.pow_lt_pow_iff_right (by omega : 1 < 2)).mp h1
  rcases Nat.lt_or_ge k 12 with h3 | h3
  · exact h3
  · have := Nat.pow_le_pow_right (show 0 < 2 by omega) h3
    omega

/-- The next power is appended. -/
theorem SqI.put {W0 W : World} {X : Nat} {v : Value} {l : List Num} {r : Num} (h : SqI W0 X W v l r) (hX : P9 l.length ≤ X) (hl : l.length ≤ 1000) :
    ∃ v' WC, (Builtin.append_ #[26, 26] 26 #[v, .slice (some ⟨W.heap.size, 0, none⟩) 1 1]).run Tryz.prog (W.alloc (.cells #[.slice r.A r.n r.c] 23)) = .ok v' WC ∧
      (∃ A' n' c', v' = .slice A' n' c') ∧ WC.heap.size = WC.heap.size ∧ Below W0.heap.size W0 WC ∧ WC.ownsRow W0.heap.size 23 1 v' (l ++ [r]).length (rowV (l ++ [r])) ∧
      (∀ z ∈ l ++ [r], Fr WC W0.heap.size WC.heap.size z.A z.n z.N ∧ z.n ≤ z.c ∧ z.c ≤ maxLen ∧ z.n ≤ 1000 ∧ OutV v' z) ∧ (∀ k (hk : k < (l ++ [r]).length), (l ++ [r])[k].N = P9 k) ∧ ∀ k, k < (l ++ [r]).length → P9 k ≤ X := by
  obtain ⟨v', WC, h1, h2, h3, h4⟩ := row_append h.own h.bel.size (by omega) r rfl 0
  have hs := h3.size
  refine ⟨v', WC, h1, own_slice h2, rfl, h.bel.grown h3 h.bel.size (fun k hk => (h.own.lt k hk).1), h2, fun z hz => ?_, fun k hk => ?_, fun k hk => ?_⟩
  · obtain ⟨n1, n2, n3, n4, n5⟩ := h.nums z (by simp only [List.mem_append, List.mem_cons, List.not_mem_nil, or_false] at hz ⊢; rcases hz with hz | hz <;> simp [hz])
    refine ⟨⟨n1.1, fun hn => ?_⟩, n2, n3, n4, fun hn ad e => ?_⟩
    · obtain ⟨g, e, g1, g2, g3⟩ := n1.2 hn
      have hb := h3.block g g2 (fun e2 => n5 hn ⟨g, 0, none⟩ e e2.symm)
      exact ⟨g, e, g1, by omega, fun j hj => ⟨(World.cell?_of_block (a := ⟨g, j, none⟩) hb).trans (g3 j hj).1, (World.frozen?_of_block (a := ⟨g, j, none⟩) hb).trans (g3 j hj).2⟩⟩
    · obtain ⟨g, e', g1, g2, g3⟩ := n1.2 hn
      rw [e] at e'
      cases e'
      rcases h4 with h4 | ⟨j, h4, hj⟩
      · rw [h4]; exact n5 hn _ e
      · rw [h4]; intro e2; injection e2 with e2; simp only at e2; omega
  · by_cases hkl : k < l.length
    · rw [List.getElem_append_left hkl]; exact h.pows k hkl
    · have hke : k = l.length := by simp at hk; omega
      subst hke
      simp only [List.getElem_append_right (Nat.le_refl _), Nat.sub_self, List.getElem_cons_zero]
      exact h.next.1
  · by_cases hkl : k < l.length
    · exact h.low k hkl
    · have hke : k = l.length := by simp at hk; omega
      rw [hke]; exact hX

/-- What squares hands back. -/
def SqPost (W0 : World) (X : Nat) (e : Ending) (W : World) : Prop :=
  ∃ (v : Value) (l : List Num), e = .returned v ∧ (∃ A' n' c', v = .slice A' n' c') ∧ Below W0.heap.size W0 W ∧ W.ownsRow W0.heap.size 23 1 v l.length (rowV l) ∧
    (∀ z ∈ l, Fr W W0.heap.size W.heap.size z.A z.n z.N ∧ z.n ≤ z.c ∧ z.c ≤ maxLen ∧ z.n ≤ 1000) ∧ (∀ k (h : k < l.length), l[k].N = P9 k) ∧ X < P9 l.length ∧ l.length ≤ 12

def lenV (v : Value) : Nat := match v with | .slice _ n _ => n | _ => 0
theorem own_len {v : Value} {W : World} {base : Nat} {e : TypeId} {k : Nat} {xs : List Value} (h : W.ownsRow base e 1 v k xs) : lenV v = k := by
  rcases h.2 with ⟨rfl, h0⟩ | ⟨g, cap, cur, rfl, _⟩
  · exact h0.symm
  · rfl

set_option maxRecDepth 100000 in
set_option maxHeartbeats 2000000 in
theorem squares_any (w : World) (x : Num) (hx : x.ok w w.heap.size) (hb : x.n ≤ 100) :
    Calls Tryz.prog 34 #[.slice x.A x.n x.c] w (SqPost w x.N) := by
  have EO := Lib.hid (Of_any w 1000000000 (by omega))
  have HX := Lib.hid hx
  clear hx
  go_enter Tryz.func34, Tryz.ntmps34
  go_wp2_with (go_at_call 53; refine EO.out.mono ?_; rintro e w1 ⟨A, c, rfl, h1, h2, h3, h4⟩)
  have hi0 : SqI w x.N w1 (.slice none 0 0) [] ⟨A, lenL 1000000000, c, 1000000000⟩ :=
    ⟨h4, World.ownsRow_nil _ _ _ _, fun z hz => by
      simp only [List.mem_cons, List.not_mem_nil, or_false] at hz
      subst hz
      exact ⟨h3, h1, h2, by have := lenL_le.2 (show 1000000000 < Bw ^ 1 by rw [Nat.pow_one, Bw_eq]; omega); simp only; omega, fun _ ad _ => by simp [Value.ownBlock]⟩,
      fun k h => absurd h (by simp), ⟨P9_zero.symm, rfl⟩, fun k h => absurd h (by simp)⟩
  have HI0 := Lib.hid hi0
  clear hi0 h1 h2 h3 h4
  go_loopw [3, 4] (fun lv pv V => ∃ (l : List Num) (r : Num), pv = .slice r.A r.n r.c ∧ Hid (SqI w x.N V lv l r)) (fun lv _ _ => 100 - lenV lv)
  case atStart => exact ⟨[], ⟨A, _, c, 1000000000⟩, rfl, HI0⟩
  case round =>
    obtain ⟨l, r, rfl, HI⟩ := hrel
    obtain ⟨r1, r2, r3, r4, r5⟩ := HI.out.nums r (by simp)
    have hxW := HX.out.below HI.out.bel
    have hsz := HI.out.bel.size
    have EC := Cmp_any r.A x.A r.n x.n r.c x.c r.N x.N wr r1.rd (hxW.1.more hsz) (by omega) (by omega)
    obtain ⟨cc, hcc⟩ : ∃ cc, cmpN r.N x.N = cc := ⟨_, rfl⟩
    rw [hcc] at EC
    have HEC := Lib.hid EC
    by_cases hle : r.N ≤ x.N
    · have hd : decide (cc ≤ 0) = true := by rw [decide_eq_true_eq, ← hcc]; unfold cmpN; split <;> (try split) <;> omega
      have hl12 := pow_small (k := l.length) (n := x.n) (by rw [← HI.out.next.1]; exact hle) HX.out.1.1 hb
      have HLE := Lib.hid hle
      clear hcc hle EC hxW hsz r1 r2 r3 r4 r5
      go_wp2_with fail
      refine HEC.out.mono ?_
      rintro e W2 ⟨rfl, hb2⟩
      replace hb2 := Lib.hid hb2
      have HI2 := HI.out.later hb2.out
      obtain ⟨v', WC, happ, ⟨A', n', c', rfl⟩, -, q1, q2, q3, q4, q5⟩ := HI2.put (by rw [← HI2.next.1]; exact HLE.out) (by omega)
      obtain ⟨m1, m2, m3, m4, m5⟩ := q3 r (by simp)
      have EM := Lib.hid (pMul_any WC r.A r.A r.n r.n r.c r.c r.N r.N m1.rd m1.rd m2 m3 m2 m3 (by omega) (by omega))
      have hlr : lenL (r.N * r.N) ≤ 1000 := by
        have e1 : lenL r.N ≤ 100 := Nat.le_trans (lenL_mono HLE.out) (Nat.le_trans (lenL_le.2 HX.out.1.1) hb)
        have := mul_len (lt_pow_lenL r.N) (lt_pow_lenL r.N)
        omega
      have HN := Lib.hid HI2.next
      have HA := Lib.hid happ
      clear happ
      have HLR := Lib.hid hlr
      have Q := Lib.hid (And.intro q1 (And.intro q2 (And.intro q3 (And.intro q4 q5))))
      have hm1 := own_len HI2.own
      have hm2 := own_len q2
      clear HI2 q1 q2 q3 q4 q5 m1 m2 m3 m4 m5 hlr
      go_wp2_with (at_builtin; refine wpList_append_run rfl _ _ _ rfl _ _ _ rfl rfl HA.out ?_)
      refine EM.out.mono ?_
      rintro e W3 ⟨A3, c3, rfl, x1, x2, x3, x4⟩
      obtain ⟨q1, q2, q3, q4, q5⟩ := Q.out
      have hsC := q1.size
      have hnew : SqI w x.N W3 (.slice A' n' c') (l ++ [r]) ⟨A3, lenL (r.N * r.N), c3, r.N * r.N⟩ := by
        refine ⟨q1.trans (x4.mono hsC), q2.kept (grown_of_below (r := none) x4) ?_, fun z hz => ?_, q4, ⟨?_, rfl⟩, q5⟩
        · cases h1 : (Value.slice A' n' c').ownBlock with
          | none => exact .inl rfl
          | some g => exact .inr (by simp)
        · simp only [List.mem_cons] at hz
          rcases hz with rfl | hz
          · refine ⟨x3.from hsC, x1, x2, HLR.out, fun hn ad e => ?_⟩
            obtain ⟨g, e', g1, _⟩ := x3.2 hn
            rw [show A3 = some ad from e] at e'
            cases e'
            intro e2
            have := own_lt q2 _ e2
            simp only at this
            omega
          · obtain ⟨n1, n2, n3, n4, n5⟩ := q3 z hz
            exact ⟨(n1.keep x4).more x4.size, n2, n3, n4, n5⟩
        · show r.N * r.N = P9 (l ++ [r]).length
          rw [List.length_append, List.length_singleton, P9_succ, HN.out.1]
      have HNEW := Lib.hid hnew
      clear hnew q1 q2 q3 q4 q5 x1 x2 x3 x4
      go_wp2
      go_roundw
      case rel => exact ⟨l ++ [r], ⟨A3, lenL (r.N * r.N), c3, r.N * r.N⟩, rfl, HNEW⟩
      case measure => rw [hm1, hm2]; simp; omega
    · have hd : decide (cc ≤ 0) = false := by rw [decide_eq_false_iff_not, ← hcc]; unfold cmpN; rw [if_neg (by omega)]; split <;> omega
      have HLT := Lib.hid (show x.N < r.N by omega)
      clear hcc hle EC hxW hsz r1 r2 r3 r4 r5
      go_wp2_with (go_at_call 54; refine HEC.out.mono ?_; rintro e W2 ⟨rfl, hb2⟩; replace hb2 := Lib.hid hb2)
      have HI2 := HI.out.later hb2.out
      obtain ⟨A0, n0, c0, rfl⟩ := own_slice HI2.own
      go_ret
      refine ⟨_, l, rfl, ⟨_, _, _, rfl⟩, HI2.bel, HI2.own, fun z hz => ?_, HI2.pows, by rw [← HI2.next.1]; exact HLT.out, ?_⟩
      · obtain ⟨n1, n2, n3, n4, -⟩ := HI2.nums z (List.mem_cons_of_mem _ hz)
        exact ⟨n1, n2, n3, n4⟩
      · rcases Nat.eq_zero_or_pos l.length with h0 | h0
        · omega
        · have := pow_small (k := l.length - 1) (n := x.n) (HI2.low _ (by omega)) HX.out.1.1 hb
          omega
end Go.Proofs.YtaancfhbmjkoaaaGreatDoor
