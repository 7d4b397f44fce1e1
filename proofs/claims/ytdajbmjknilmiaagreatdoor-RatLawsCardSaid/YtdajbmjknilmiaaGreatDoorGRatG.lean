/- Contracts of the document's layer 7: plain, Of, New, Norm. -/
import Derived.Test.YtdajbmjknilmiaaGreatDoorGRatF
import Derived.Test.YtdajbmjknilmiaaGreatDoorGRefE
import Derived.Test.YtdajbmjknilmiaaGreatDoorGRefH
import Derived.Test.YtdajbmjknilmiaaGreatDoorGRef4
import Derived.Test.YtdajbmjknilmiaaGreatDoorGSintB
import Derived.Test.YtdajbmjknilmiaaGreatDoorGRefF
import Derived.Test.YtdajbmjknilmiaaGreatDoorGRefA
import Derived.Test.YtdajbmjknilmiaaGreatDoorGNum
import Derived.Test.YtdajbmjknilmiaaGreatDoorGReR
namespace Go.Proofs.YtdajbmjknilmiaaGreatDoor
open Go Go.RowKit
variable {w W : World} {e : List Num} {x y : Num}

/-- The value is a rational of a told integer and a trimmed number. -/
def RepQ7 (Z : Int) (K : Nat) (v : Value) (V : World) : Prop := ∃ p k : Num, v = .agg #[.bool (decide (Z < 0)), .slice p.A p.n p.c, .slice k.A k.n k.c] ∧ p.N = Z.natAbs ∧ p.n = lenL Z.natAbs ∧ k.N = K ∧ k.n = lenL K ∧ p.ok V V.heap.size ∧ k.ok V V.heap.size
theorem RepQ7.keep {Z : Int} {K : Nat} {v : Value} {V V' : World} (h : RepQ7 Z K v V) (hb : Below V.heap.size V V') : RepQ7 Z K v V' := by
  obtain ⟨p, k, h1, h2, h3, h4, h5, h6, h7⟩ := h
  exact ⟨p, k, h1, h2, h3, h4, h5, h6.later hb, h7.later hb⟩

end Go.Proofs.YtdajbmjknilmiaaGreatDoor

/- Contracts of the document's layer 7: Norm, Sign. -/
namespace Go.Proofs.YtdajbmjknilmiaaGreatDoor
open Go Go.RowKit
variable {w W : World} {e : List Num} {x y : Num}

end Go.Proofs.YtdajbmjknilmiaaGreatDoor

/- Contracts of the document's Told of layers 5 and 7: as they are told, the same? (of the same parts) -/
namespace Go.Proofs.YtdajbmjknilmiaaGreatDoor
open Go Go.RowKit
variable {w W : World} {e : List Num} {x y x' y' : Num}

theorem rSame1_E (h : Env w e W) (hx : x ∈ e) (hy : y ∈ e) (h1 : x.n = y.n) (h2 : x.N = y.N) :
    Calls Tryz.prog 43 #[.slice x.A x.n x.c, .slice y.A y.n y.c] W fun e' W' => e' = .returned (.bool true) ∧ Env w e W' := by
  obtain ⟨a1, a2, a3, a4⟩ := h.2 x hx
  obtain ⟨b1, b2, b3, b4⟩ := h.2 y hy
  refine (rSame_any W _ _ _ _ _ _ _ _ _ _ a1 b1 (by omega)).mono ?_
  rintro e' W' ⟨rfl, hb⟩
  exact ⟨by rw [show sameB x.n y.n x.N y.N = true by simp [sameB, h1, h2]], h.step hb⟩

set_option maxHeartbeats 1000000 in
theorem r5Told_E (b : Bool) (h : Env w e W) (hx : x ∈ e) (hy : y ∈ e) (h1 : x.n = y.n) (h2 : x.N = y.N) :
    Calls Tryz.prog 37 #[.agg #[.bool b, .slice x.A x.n x.c], .agg #[.bool b, .slice y.A y.n y.c]] W fun e' W' => e' = .returned (.bool true) ∧ Env w e W' := by
  have HE := (h.alloc (.cells #[.bool b, .slice x.A x.n x.c] 25)).alloc (.cells #[.bool b, .slice y.A y.n y.c] 25)
  have B1 := (Box2.new W 25 (.bool b) (.slice x.A x.n x.c)).alloc (.cells #[.bool b, .slice y.A y.n y.c] 25)
  have B2 := Box2.new (W.alloc (.cells #[.bool b, .slice x.A x.n x.c] 25)) 25 (.bool b) (.slice y.A y.n y.c)
  rw [World.size_alloc] at B2
  have ES := Lib.hid (rSame1_E HE hx hy h1 h2)
  obtain ⟨W2, hW2⟩ : ∃ W2, (W.alloc (.cells #[.bool b, .slice x.A x.n x.c] 25)).alloc (.cells #[.bool b, .slice y.A y.n y.c] 25) = W2 := ⟨_, rfl⟩
  rw [hW2] at B1 B2 ES
  obtain ⟨c1, c2, -, -⟩ := B1.cells
  obtain ⟨d1, d2, -, -⟩ := B2.cells
  clear HE B1 B2 h h1 h2
  cases b
  all_goals
    go_enter Tryz.func37, Tryz.ntmps37
    go_wp2_with fail
    refine ES.out.mono ?_
    rintro e' W' ⟨rfl, hE⟩
    go_wp2
    go_ret
    exact ⟨rfl, hE⟩

set_option maxHeartbeats 2000000 in
theorem r7Told_E {q : Rat} {b b' : Bool} (h : Env w e W) (hx : x ∈ e) (hy : y ∈ e) (hx' : x' ∈ e) (hy' : y' ∈ e) (hq : IsQ q b x y) (hq' : IsQ q b' x' y') :
    Calls Tryz.prog 50 #[.agg #[.bool b, .slice x.A x.n x.c, .slice y.A y.n y.c], .agg #[.bool b', .slice x'.A x'.n x'.c, .slice y'.A y'.n y'.c]] W fun e' W' => e' = .returned (.bool true) ∧ Env w e W' := by
  obtain ⟨rfl, s1, s2, s3, s4⟩ := hq.same hq'
  have HE := (h.alloc (.cells #[.bool b, .slice x.A x.n x.c, .slice y.A y.n y.c] 27)).alloc (.cells #[.bool b, .slice x'.A x'.n x'.c, .slice y'.A y'.n y'.c] 27)
  have B1 := (Box3.new W 27 (.bool b) (.slice x.A x.n x.c) (.slice y.A y.n y.c)).alloc (.cells #[.bool b, .slice x'.A x'.n x'.c, .slice y'.A y'.n y'.c] 27)
  have B2 := Box3.new (W.alloc (.cells #[.bool b, .slice x.A x.n x.c, .slice y.A y.n y.c] 27)) 27 (.bool b) (.slice x'.A x'.n x'.c) (.slice y'.A y'.n y'.c)
  rw [World.size_alloc] at B2
  obtain ⟨W2, hW2⟩ : ∃ W2, (W.alloc (.cells #[.bool b, .slice x.A x.n x.c, .slice y.A y.n y.c] 27)).alloc (.cells #[.bool b, .slice x'.A x'.n x'.c, .slice y'.A y'.n y'.c] 27) = W2 := ⟨_, rfl⟩
  rw [hW2] at B1 B2 HE
  have ES := Lib.hid (r5Told_E b HE.here hx hx' s2 s1)
  have P1 := Lib.hid B1
  have P2 := Lib.hid B2
  have HB := Lib.hid HE.1
  have HS := Lib.hid (And.intro s3 s4)
  have HM := Lib.hid (And.intro hy hy')
  obtain ⟨c1, c2, c3, -, -, -⟩ := B1.cells
  obtain ⟨d1, d2, d3, -, -, -⟩ := B2.cells
  clear HE B1 B2 h s1 s2 s3 s4 hq hq' hx hx' hy hy'
  go_enter Tryz.func50, Tryz.ntmps50
  go_wp2_with fail
  clear hW2
  refine ES.out.mono ?_
  rintro e1 W3 ⟨rfl, hE⟩
  have Q1 := P1.out.below hE.1 P1.out.lt
  have Q2 := P2.out.below hE.1 P2.out.lt
  have ES2 := Lib.hid (rSame1_E (hE.over HB.out) HM.out.1 HM.out.2 HS.out.2 HS.out.1)
  clear c1 c2 c3 d1 d2 d3 hE ES
  obtain ⟨c1, c2, c3, -, -, -⟩ := Q1.cells
  obtain ⟨d1, d2, d3, -, -, -⟩ := Q2.cells
  clear Q1 Q2
  go_wp2_with fail
  refine ES2.out.mono ?_
  rintro e2 W4 ⟨rfl, hE2⟩
  go_wp2
  go_ret
  exact ⟨rfl, hE2⟩
end Go.Proofs.YtdajbmjknilmiaaGreatDoor

/- The document's New, Norm, Sign, Of, Told of layer 7, told of values. -/
namespace Go.Proofs.YtdajbmjknilmiaaGreatDoor
open Go Go.RowKit
variable {v v' : Value} {V : World} {K K' N M : Nat} {Z Z' : Int} {q q' : Rat} {ls : List (Tmp × Value)} {lb : List Bx} {w V' : World} {e : List Num} {a : Act} {o : Oper} {t t1 t2 t3 : Tmp} {v1 v2 v3 : Value}

theorem nt_nil : NT 0 0 (.slice none 0 0) V := ⟨⟨none, 0, 0, 0⟩, rfl, rfl, rfl, Nat.le_refl _, (Env.start (w := V) (l := []) (by simp)).nought.2 _ (by simp)⟩
/-- An error's number where what is divided by is nought. -/
def erz (N : Nat) : Int := if N = 0 then 30 else 0
theorem gq {f : FuncId} {args : Array Value} (h : Calls Tryz.prog f args V (ToldQ V e q)) (h1 : q.num.natAbs < Bw ^ K) (h2 : q.den < Bw ^ K) : Calls Tryz.prog f args V (Gives1 V (QT K q)) := h.mono (by
  rintro en V' ⟨b, x, y, rfl, hq, hE⟩
  exact ⟨_, rfl, ⟨b, x, y, rfl, hq, by rw [hq.2.2.1, hq.2.1]; exact lenL_le.2 h1, by rw [hq.2.2.2.2, hq.2.2.2.1]; exact lenL_le.2 h2, hE.2 x (by simp), hE.2 y (by simp)⟩, hE.1⟩)
end Go.Proofs.YtdajbmjknilmiaaGreatDoor

/- Contracts of the document's over, two, Neg of layer 7. -/
namespace Go.Proofs.YtdajbmjknilmiaaGreatDoor
open Go Go.RowKit
variable {v v' : Value} {V : World} {K K' N M : Nat} {q q' : Rat}

end Go.Proofs.YtdajbmjknilmiaaGreatDoor

/- Facts of rationals that the document's layer 7 leans on: quotients, floors, sums and products of rows, how great their parts get. No function of the program. -/
namespace Go.Proofs.YtdajbmjknilmiaaGreatDoor
open Go Go.RowKit

def erq (q : Rat) : Int := if q = 0 then 30 else 0
theorem floor_div (z : Int) (d : Nat) (q : Rat) (hd : d ≠ 0) (h : q * d = z) : q.floor = z.fdiv d := by
  have h0 : (0 : Rat) < (d : Nat) := Rat.natCast_pos.mpr (by omega)
  have hq : q = mkRat z d := by
    rw [Rat.mkRat_eq_div]
    grind
  subst hq
  rw [Int.fdiv_eq_ediv_of_nonneg _ (by omega), Rat.floor_def]
  have hp := mkRat_parts (z := z) hd
  rw [hp.1, hp.2]
  have hg : 0 < Nat.gcd z.natAbs d := Nat.gcd_pos_of_pos_right _ (by omega)
  have h1 : ((Nat.gcd z.natAbs d : Nat) : Int) ∣ z := by
    rw [Int.ofNat_dvd_left]; exact Nat.gcd_dvd_left _ _
  have h2 : Nat.gcd z.natAbs d ∣ d := Nat.gcd_dvd_right _ _
  obtain ⟨x, hx⟩ := h1
  obtain ⟨y, hy⟩ := h2
  generalize Nat.gcd z.natAbs d = g at hg hx hy
  subst hx hy
  rw [Int.mul_ediv_cancel_left _ (by omega), Nat.mul_div_cancel_left _ hg, Int.natCast_mul, Int.mul_ediv_mul_of_pos _ _ (by omega)]
open Classical in
noncomputable def roomB (lo hi : Rat) (s : Nat) : Bool := decide (room lo hi s)
/-- Rows: how great sums and products of the first ones get. -/
def Sm (k : Nat) (q : Rat) : Prop := q.num.natAbs < Bw ^ k ∧ q.den < Bw ^ k
theorem Bw_pow2 (k : Nat) : Bw ^ k = 2 ^ (32 * k) := by rw [show Bw = 2 ^ 32 by rw [Bw_eq], ← Nat.pow_mul]
open Classical in
open Classical in
open Classical in
/-- The simplest dyadic strictly between; nought where there is none. -/
noncomputable def btwQ (lo hi : Rat) : Rat := if h : lo < hi then btw lo hi (Classical.choose (least_room h)) else 0
end Go.Proofs.YtdajbmjknilmiaaGreatDoor

/- Contracts of the document's Add, Mul of layer 7: sums, products of rows. -/
namespace Go.Proofs.YtdajbmjknilmiaaGreatDoor
open Go Go.RowKit
variable {v v' v1 v2 : Value} {V : World} {K K' N M : Nat} {q q' q1 q2 : Rat}

theorem QT.sml (h : QT K q v V) (hs : Sm K' q) : QT K' q v V := h.lim hs.1 hs.2
theorem Sm.mono (h : Sm K q) (hk : K ≤ K') : Sm K' q := ⟨Nat.lt_of_lt_of_le h.1 (pow_le hk), Nat.lt_of_lt_of_le h.2 (pow_le hk)⟩
theorem Sm.neg (h : Sm K q) : Sm K (-q) := ⟨by rw [show (-q).num = -q.num from rfl, Int.natAbs_neg]; exact h.1, h.2⟩
theorem Sm.add (h : Sm K q1) (h' : Sm K' q2) : Sm (K + K' + 1) (q1 + q2) := by
  have := add_parts_le q1 q2
  have e1 := Nat.mul_lt_mul'' h.1 h'.2
  have e2 := Nat.mul_lt_mul'' h'.1 h.2
  have e3 := Nat.mul_lt_mul'' h.2 h'.2
  rw [Nat.mul_comm (Bw ^ K') (Bw ^ K), ← Nat.pow_add] at e2
  rw [← Nat.pow_add] at e1 e3
  refine ⟨Nat.lt_of_le_of_lt this.1 (twoq_lt e1 e2), Nat.lt_of_le_of_lt this.2 (Nat.lt_of_lt_of_le e3 (pow_le (by omega)))⟩
theorem Sm.mul (h : Sm K q1) (h' : Sm K' q2) : Sm (K + K') (q1 * q2) := by
  have := mul_parts_le q1 q2
  have e1 := Nat.mul_lt_mul'' h.1 h'.1
  have e3 := Nat.mul_lt_mul'' h.2 h'.2
  rw [← Nat.pow_add] at e1 e3
  exact ⟨Nat.lt_of_le_of_lt this.1 e1, Nat.lt_of_le_of_lt this.2 e3⟩
theorem isq_lim {b : Bool} {x y : Num} (h : IsQ q b x y) (hs : Sm K q) : x.n ≤ K ∧ y.n ≤ K :=
  ⟨by rw [h.2.2.1, h.2.1]; exact lenL_le.2 hs.1, by rw [h.2.2.2.2, h.2.2.2.1]; exact lenL_le.2 hs.2⟩
theorem QRow.to {l : List Rat} (h : QRow K l v V) (hk : K ≤ K') : QRow K' l v V := by
  obtain ⟨A, c, ps, h1, h2, h3, h4, h5⟩ := h
  exact ⟨A, c, ps, h1, h2, h3, fun p hp => ⟨Nat.le_trans (h4 p hp).1 hk, Nat.le_trans (h4 p hp).2 hk⟩, h5⟩
theorem sm_zero : Sm 1 0 := ⟨by show (0 : Nat) < _; rw [Bw_eq]; decide, by show (1 : Nat) < _; rw [Bw_eq]; decide⟩
theorem sm_one : Sm 1 1 := ⟨by show (1 : Nat) < _; rw [Bw_eq]; decide, by show (1 : Nat) < _; rw [Bw_eq]; decide⟩
end Go.Proofs.YtdajbmjknilmiaaGreatDoor
