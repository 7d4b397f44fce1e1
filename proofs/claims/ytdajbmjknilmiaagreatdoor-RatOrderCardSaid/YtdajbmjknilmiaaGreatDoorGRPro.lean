/- The program's functions of packages nat, prod, quot, gcd, sint that rationals lean on, told of values. -/
import Derived.Test.YtdajbmjknilmiaaGreatDoorGReR
import Derived.Test.YtdajbmjknilmiaaGreatDoorGNatB
import Derived.Test.YtdajbmjknilmiaaGreatDoorGProdC
import Derived.Test.YtdajbmjknilmiaaGreatDoorGProdB
import Derived.Test.YtdajbmjknilmiaaGreatDoorGGcdC
import Derived.Test.YtdajbmjknilmiaaGreatDoorGSintD
import Derived.Test.YtdajbmjknilmiaaGreatDoorGSintF
import Derived.Test.YtdajbmjknilmiaaGreatDoorGSintC
import Derived.Test.YtdajbmjknilmiaaGreatDoorGROps
namespace Go.Proofs.YtdajbmjknilmiaaGreatDoor
open Go Go.RowKit
variable {v v' v1 v2 : Value} {V V' : World} {K K' N M : Nat} {Z Z' : Int}

/-- The tables that the program reads. -/
structure TT (V : World) : Prop where
  tabs : Tabs V
  signs : Signs V
theorem TT.keep (h : TT V) (hb : Below V.heap.size V V') : TT V' := ⟨h.tabs.keep hb, h.signs.keep hb⟩
theorem gg {f : FuncId} {args : Array Value} (h : Calls Tryz.prog f args V (Gives V N)) (hl : N < Bw ^ K) (hK : K ≤ 35184372087808) : Calls Tryz.prog f args V (Gives1 V (NT K N)) := by
  refine h.mono ?_
  intro en V' hg
  obtain ⟨r, rfl, h1, h2, hE⟩ := tellsA_of_gives (e := []) (Env.start (by simp)) hg (Nat.le_trans (lenL_le.2 hl) hK)
  exact ⟨_, rfl, ⟨r, rfl, h1, h2, by rw [h2]; exact lenL_le.2 hl, hE.2 r (by simp)⟩, hE.1⟩
theorem gsame {f : FuncId} {args : Array Value} {c : Value} (h : Calls Tryz.prog f args V fun en V' => en = .returned c ∧ V = V') : Calls Tryz.prog f args V (Gives1 V fun v _ => v = c) := h.mono (by
  rintro en V' ⟨rfl, rfl⟩
  exact ⟨_, rfl, rfl, Below.refl _ _⟩)
theorem gbel {f : FuncId} {args : Array Value} {c : Value} (h : Calls Tryz.prog f args V fun en V' => en = .returned c ∧ Below V.heap.size V V') : Calls Tryz.prog f args V (Gives1 V fun v _ => v = c) := h.mono (by
  rintro en V' ⟨rfl, hb⟩
  exact ⟨_, rfl, rfl, hb⟩)
theorem pOf1 : Calls Tryz.prog 67 #[.int .u64 1] V (Gives1 V (NT 1 1)) := gg (Of_any V 1 (by decide)) (by rw [Bw_eq]; decide) (by decide)
theorem pBits (h : N1 K N v V) : Calls Tryz.prog 81 #[v] V (Gives1 V fun v _ => v = .int .i64 (bitsN N : Nat)) := by
  obtain ⟨x, rfl, rfl, hk, h1, h2, h3, h4⟩ := h
  exact gsame (pBits_any V _ _ _ _ _ h1 h2 h3 h4)
theorem pMul (h : N1 K N v1 V) (h' : N1 K' M v2 V) (b : K ≤ 1000000) (b' : K' ≤ 1000000) : Calls Tryz.prog 88 #[v1, v2] V (Gives1 V (NT (K + K') (N * M))) := by
  have l1 := h.lt
  have l2 := h'.lt
  obtain ⟨x, rfl, rfl, hk, h1, h2, h3, h4⟩ := h
  obtain ⟨y, rfl, rfl, hk', h1', h2', h3', h4'⟩ := h'
  refine gg (pMul_any V _ _ _ _ _ _ _ _ h1 h1' h2 h3 h2' h3' (by omega) (by omega)) ?_ (by omega)
  rw [Nat.pow_add]
  exact Nat.mul_lt_mul'' l1 l2
theorem pCmp (h : N1 K N v1 V) (h' : N1 K' M v2 V) : Calls Tryz.prog 89 #[v1, v2] V (Gives1 V fun v _ => v = .int .i64 (cmpN N M)) := by
  obtain ⟨x, rfl, rfl, hk, h1, h2, h3, h4⟩ := h
  obtain ⟨y, rfl, rfl, hk', h1', h2', h3', h4'⟩ := h'
  exact gbel (Cmp_any _ _ _ _ _ _ _ _ V h1 h1' (by omega) (by omega))
theorem pUp {k : Nat} (h : N1 K N v V) (b : K ≤ 1000000) (hk : k ≤ 65536) : Calls Tryz.prog 76 #[v, .int .i64 (k : Nat)] V (Gives1 V (NT (K + k / 32 + 1) (N * 2 ^ k))) := by
  have l1 := h.lt
  obtain ⟨x, rfl, rfl, hx, h1, h2, h3, h4⟩ := h
  have := pUp_any V _ _ _ _ (k : Int) h1 h2 h3 (by omega) (by omega)
  rw [Int.toNat_natCast, Nat.min_eq_left hk] at this
  exact gg this (upq_lt l1) (by omega)
/-- Two naturals; two naturals and an error's number. -/
def N2 (K K' N M : Nat) (v : Value) (V : World) : Prop := ∃ v1 v2, v = .tuple #[v1, v2] ∧ NT K N v1 V ∧ NT K' M v2 V
def NE (K N : Nat) (er : Int) (v : Value) (V : World) : Prop := ∃ v1, v = .tuple #[v1, .int .i64 er] ∧ NT K N v1 V
def N2E (K K' N M : Nat) (er : Int) (v : Value) (V : World) : Prop := ∃ v1 v2, v = .tuple #[v1, v2, .int .i64 er] ∧ NT K N v1 V ∧ NT K' M v2 V
theorem N2.keep (h : N2 K K' N M v V) (hb : Below V.heap.size V V') : N2 K K' N M v V' := by obtain ⟨a, b, h1, h2, h3⟩ := h; exact ⟨a, b, h1, h2.keep hb, h3.keep hb⟩
theorem NE.keep {er : Int} (h : NE K N er v V) (hb : Below V.heap.size V V') : NE K N er v V' := by obtain ⟨a, h1, h2⟩ := h; exact ⟨a, h1, h2.keep hb⟩
theorem N2E.keep {er : Int} (h : N2E K K' N M er v V) (hb : Below V.heap.size V V') : N2E K K' N M er v V' := by obtain ⟨a, b, h1, h2, h3⟩ := h; exact ⟨a, b, h1, h2.keep hb, h3.keep hb⟩
section
variable {shs : List (TypeId × Nat)} {g : Nat} {vs : List Value}
theorem N2.keepS (h : N2 K K' N M v V) (hb : Sto shs g vs V V') : N2 K K' N M v V' := by obtain ⟨a, b, h1, h2, h3⟩ := h; exact ⟨a, b, h1, h2.keepS hb, h3.keepS hb⟩
theorem NE.keepS {er : Int} (h : NE K N er v V) (hb : Sto shs g vs V V') : NE K N er v V' := by obtain ⟨a, h1, h2⟩ := h; exact ⟨a, h1, h2.keepS hb⟩
theorem N2E.keepS {er : Int} (h : N2E K K' N M er v V) (hb : Sto shs g vs V V') : N2E K K' N M er v V' := by obtain ⟨a, b, h1, h2, h3⟩ := h; exact ⟨a, b, h1, h2.keepS hb, h3.keepS hb⟩
end
theorem num_nt {x : Num} (h1 : x.N = N) (h2 : x.n = lenL N) (hl : N < Bw ^ K) (ho : x.ok V V.heap.size) : NT K N (.slice x.A x.n x.c) V := ⟨x, rfl, h1, h2, by rw [h2]; exact lenL_le.2 hl, ho⟩
theorem pReduce (T : TT V) (h : N1 K N v1 V) (h' : N1 K' M v2 V) (b : K ≤ 10000) (b' : K' ≤ 10000) : Calls Tryz.prog 82 #[v1, v2] V (Gives1 V (N2 K K' (N / Nat.gcd N M) (M / Nat.gcd N M))) := by
  have l1 := h.lt
  have l2 := h'.lt
  obtain ⟨x, rfl, rfl, hk, ho⟩ := h
  obtain ⟨y, rfl, rfl, hk', ho'⟩ := h'
  refine (reduceTold T.tabs V [x, y] x y (env2 ho ho') (by simp) (by simp) (by omega) (by omega)).mono ?_
  rintro en V' ⟨p, q, rfl, h1, h2, h3, h4, hE⟩
  exact ⟨_, rfl, ⟨_, _, rfl, num_nt h1 h2 (Nat.lt_of_le_of_lt (Nat.div_le_self _ _) l1) (hE.2 p (by simp)), num_nt h3 h4 (Nat.lt_of_le_of_lt (Nat.div_le_self _ _) l2) (hE.2 q (by simp))⟩, hE.1⟩
theorem psOf {n : Int} (hn : -9223372036854775808 ≤ n ∧ n ≤ 9223372036854775807) : Calls Tryz.prog 66 #[.int .i64 n] V (Gives1 V (ZT 2 n)) := by
  refine gz (ofTold V V [] n (Below.refl _ _) (Env.start (by simp)) hn) ?_
  rw [show Bw ^ 2 = 18446744073709551616 by rw [Bw_eq]]
  omega
theorem psSign (T : TT V) (h : Z1 K Z v V) (b : K ≤ 10000) : Calls Tryz.prog 87 #[v] V (Gives1 V fun v _ => v = .int .i64 Z.sign) := by
  obtain ⟨bb, x, rfl, hz, hk, ho⟩ := h
  exact gv (signTold T.signs V V [x] bb x Z (Below.refl _ _) (env1 ho) (by simp) (by omega) hz)
theorem psCmp (T : TT V) (h : Z1 K Z v V) (h' : Z1 K' Z' v' V) (b : K ≤ 10000) (b' : K' ≤ 10000) : Calls Tryz.prog 90 #[v, v'] V (Gives1 V fun v _ => v = .int .i64 (cmpZ Z Z')) := by
  obtain ⟨bb, x, rfl, hz, hk, ho⟩ := h
  obtain ⟨bb', y, rfl, hz', hk', ho'⟩ := h'
  exact gv (cmpTold T.signs V V [x, y] bb x bb' y Z Z' (Below.refl _ _) (env2 ho ho') (by simp) (by simp) (by omega) (by omega) hz hz')
theorem psAdd (h : ZRow K [Z, Z'] v V) (b : K ≤ 10000) : Calls Tryz.prog 96 #[v] V (Gives1 V (ZT (K + 1) (Z + Z'))) := by
  obtain ⟨A, c, ps, rfl, hR, hm, hb, hl, hc⟩ := h
  have h0 : ZRow K [Z, Z'] (.slice A ps.length c) V := ⟨A, c, ps, rfl, hR, hm, hb, hl, hc⟩
  obtain ⟨A', c', p, p', he, hR', rfl, rfl, k1, k2, l1, l2⟩ := zrow2 h0
  have h1 := addTold (w0 := V) V V [] A' c' [p, p'] (Below.refl _ _) (Env.start (by simp)) hR'
  injection he with e1 e2 e3
  subst e1 e3
  have h2 := h1 (by simp; omega) (by simp only [maxLen]; omega) (by simp) (by simp; omega)
  rw [show sumZ [p, p'] = zP p + zP p' by simp [sumZ]] at h2
  rw [e2]
  refine gz h2 ?_
  have := twoq_lt l1 l2
  have := Int.natAbs_add_le (zP p) (zP p')
  omega
theorem psDiv (T : TT V) (h : Z1 K Z v V) (h' : Z1 K' Z' v' V) (b : K ≤ 10000) (b' : K' ≤ 10000) : Calls Tryz.prog 77 #[v, v'] V (Gives1 V (ZDiv K K' Z Z')) := by
  have l1 := h.lt
  have l2 := h'.lt
  obtain ⟨bb, x, rfl, hz, hk, ho⟩ := h
  obtain ⟨bb', y, rfl, hz', hk', ho'⟩ := h'
  have ha := fdiv_abs Z Z'
  have p1 := pow_pos_Bw K
  have e1 : (Z.fdiv Z').natAbs < Bw ^ (K + 1) := by
    have : Bw ^ (K + 1) = Bw ^ K * 4294967296 := by rw [Nat.pow_succ]; rw [Bw_eq]
    omega
  have e2 : (rmz Z Z').natAbs < Bw ^ (max K K' + 1) := by
    have a1 := Nat.lt_of_lt_of_le l1 (pow_le (show K ≤ max K K' by omega))
    have a2 := Nat.lt_of_lt_of_le l2 (pow_le (show K' ≤ max K K' by omega))
    have := twoq_lt a1 a2
    omega
  refine (divZTold T.signs V V [x, y] bb x bb' y Z Z' (Below.refl _ _) (env2 ho ho') (by simp) (by simp) (by omega) (by omega) hz hz').mono ?_
  rintro en V' ⟨p, r, rfl, q1, q2, q3, q4, hE⟩
  exact ⟨_, rfl, ⟨_, _, rfl, ⟨_, p, rfl, ⟨rfl, q1, q2⟩, by rw [q2]; exact lenL_le.2 e1, hE.2 p (by simp)⟩, ⟨_, r, rfl, ⟨rfl, q3, q4⟩, by rw [q4]; exact lenL_le.2 e2, hE.2 r (by simp)⟩⟩, hE.1⟩
abbrev aG (b : Bool) (x y : Num) : Value := .agg #[.bool b, .slice x.A x.n x.c, .slice y.A y.n y.c]
abbrev aL (b : Bool) (x y : Num) : List Value := [.bool b, .slice x.A x.n x.c, .slice y.A y.n y.c]
abbrev aZ (b : Bool) (x : Num) : Value := .agg #[.bool b, .slice x.A x.n x.c]
abbrev aS (x : Num) : Value := .slice x.A x.n x.c
abbrev pT (g o : Nat) : Value := .pointer (some ⟨g, o, none⟩)
abbrev tG (a : Act) (t : Tmp) (v : Value) : Prop := a.tmps.getD t undef = v
end Go.Proofs.YtdajbmjknilmiaaGreatDoor
