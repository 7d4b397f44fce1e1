/- Steps of a region that is told by facts, of integers: boxes that are loaded, rows that are laid, calls. No function of the law package. -/
import Derived.Deep.RegionWith
import Derived.Shelf.Abstract
import Derived.Test.YtolldhfcnbbelaaGreatDoorGFactG
import Derived.Test.YtolldhfcnbbelaaGreatDoorGSintA
import Derived.Test.YtolldhfcnbbelaaGreatDoorGNatA
import Derived.Test.YtolldhfcnbbelaaGreatDoorGProdB
import Derived.Test.YtolldhfcnbbelaaGreatDoorNSmall
namespace Go.Proofs.YtolldhfcnbbelaaGreatDoor
open Go Go.RowKit

/-- The value is that integer (of at most 10000 limbs); as it is told. -/
def RepZ (Z : Int) (v : Value) (V : World) : Prop := ∃ (b : Bool) (r : Num), v = .agg #[.bool b, .slice r.A r.n r.c] ∧ zOf b r.N = Z ∧ r.n ≤ 10000 ∧ r.ok V V.heap.size
def RepT (Z : Int) (v : Value) (V : World) : Prop := ∃ r : Num, v = .agg #[.bool (decide (Z < 0)), .slice r.A r.n r.c] ∧ r.N = Z.natAbs ∧ r.n = lenL Z.natAbs ∧ r.ok V V.heap.size
/-- The value is a row of these integers. -/
def RepRow (l : List Int) (v : Value) (V : World) : Prop := ∃ (A : Option Addr) (c : Nat) (ps : List (Bool × Num)), v = .slice A ps.length c ∧ ZRds V V.heap.size A ps ∧ ps.map zP = l ∧ (∀ p ∈ ps, p.2.n ≤ 10000) ∧ ps.length ≤ c ∧ c ≤ maxLen ∧ ps.length ≤ 1000
theorem RepZ.keep {Z : Int} {v : Value} {V V' : World} (h : RepZ Z v V) (hb : Below V.heap.size V V') : RepZ Z v V' := by
  obtain ⟨b, r, h1, h2, h3, h4⟩ := h
  exact ⟨b, r, h1, h2, h3, h4.later hb⟩
theorem RepT.keep {Z : Int} {v : Value} {V V' : World} (h : RepT Z v V) (hb : Below V.heap.size V V') : RepT Z v V' := by
  obtain ⟨r, h1, h2, h3, h4⟩ := h
  exact ⟨r, h1, h2, h3, h4.later hb⟩
theorem RepRow.keep {l : List Int} {v : Value} {V V' : World} (h : RepRow l v V) (hb : Below V.heap.size V V') : RepRow l v V' := by
  obtain ⟨A, c, ps, h1, h2, h3⟩ := h
  exact ⟨A, c, ps, h1, (h2.below hb).more hb.size, h3⟩
theorem RepT.z {Z : Int} {v : Value} {V : World} (h : RepT Z v V) (hl : lenL Z.natAbs ≤ 10000) : RepZ Z v V := by
  obtain ⟨r, h1, h2, h3, h4⟩ := h
  exact ⟨_, r, h1, by rw [h2, zOf_told], by omega, h4⟩

variable {ops : Array Oper} {Q : Exit → Act → World → Prop} {C : World → Prop} {a : Act} {V : World} {i : Nat} {t : Tmp} {o : Oper} {F : Value → World → Prop}
variable {t1 t2 t3 : Tmp} {v1 v2 v3 : Value} {Z Z1 Z2 Z3 : Int} {g : Nat} {T : TypeId} {x y : Value}

theorem fz_load {tb : Tmp} (ho : ops[i]? = some o) (hd : o.dst = some t) (hw : Region.wanted o (yielded ops a.tmps) = true) (hop : o.op = .load 25 (.tmp tb)) (he : a.tmps[tb]?.getD undef = .pointer (some ⟨g, 0, none⟩)) (B : Box2 V g T x y) (hC : C V) (hF : F (.agg #[x, y]) V) :
    wpOp Tryz.prog ops Q i (fun a' w' => ∃ v, a' = a.put (some t) v ∧ F v w' ∧ Below V.heap.size V w' ∧ C w') a V := by
  obtain ⟨c1, c2, -, -⟩ := B.cells
  refine step_value (v := .agg #[x, y]) ho hd hw ?_ hC hF
  obtain ⟨dst, op, ty, pos, after, guard⟩ := o
  simp only at hop
  subst hop
  go_simp
theorem fz_two (ho : ops[i]? = some o) (hd : o.dst = some t) (hw : Region.wanted o (yielded ops a.tmps) = true) (hop : o.op = .buildSlice 26 2 #[(0, .tmp t1), (1, .tmp t2)]) (h1 : a.tmps[t1]?.getD undef = v1) (h2 : a.tmps[t2]?.getD undef = v2) (r1 : RepZ Z1 v1 V) (r2 : RepZ Z2 v2 V)
    (hC : ∀ V', Below V.heap.size V V' → C V') (hF : ∀ v V', RepRow [Z1, Z2] v V' → F v V') :
    wpOp Tryz.prog ops Q i (fun a' w' => ∃ v, a' = a.put (some t) v ∧ F v w' ∧ Below V.heap.size V w' ∧ C w') a V := by
  obtain ⟨b, r, rfl, hz, hn, hk⟩ := r1
  obtain ⟨b', s, rfl, hz', hn', hk'⟩ := r2
  have hE : Env V [r, s] V := Env.start (by simp [hk, hk'])
  have hR := ZRds.two (x := r) (y := s) (t := 25) b b' hE (by simp) (by simp)
  have hb : Below V.heap.size V (V.alloc (.cells #[.bool b, .slice r.A r.n r.c, .bool b', .slice s.A s.n s.c] 25)) := (Below.refl _ _).alloc (Nat.le_refl _) _
  refine step_grow (v := .slice (some ⟨V.heap.size, 0, none⟩) 2 2) (w' := V.alloc (.cells #[.bool b, .slice r.A r.n r.c, .bool b', .slice s.A s.n s.c] 25)) ho hd hw ?_ hb (hC _ hb) (hF _ _ ⟨_, 2, [(b, r), (b', s)], rfl, by rw [World.size_alloc]; exact hR, by simp [zP, hz, hz'], by simp [hn, hn'], by simp, by simp [maxLen], by simp⟩)
  obtain ⟨dst, op, ty, pos, after, guard⟩ := o
  simp only at hop
  subst hop
  go_simp
theorem fz_three (ho : ops[i]? = some o) (hd : o.dst = some t) (hw : Region.wanted o (yielded ops a.tmps) = true) (hop : o.op = .buildSlice 26 3 #[(0, .tmp t1), (1, .tmp t2), (2, .tmp t3)]) (h1 : a.tmps[t1]?.getD undef = v1) (h2 : a.tmps[t2]?.getD undef = v2) (h3 : a.tmps[t3]?.getD undef = v3) (r1 : RepZ Z1 v1 V) (r2 : RepZ Z2 v2 V) (r3 : RepZ Z3 v3 V)
    (hC : ∀ V', Below V.heap.size V V' → C V') (hF : ∀ v V', RepRow [Z1, Z2, Z3] v V' → F v V') :
    wpOp Tryz.prog ops Q i (fun a' w' => ∃ v, a' = a.put (some t) v ∧ F v w' ∧ Below V.heap.size V w' ∧ C w') a V := by
  obtain ⟨b, r, rfl, hz, hn, hk⟩ := r1
  obtain ⟨b', s, rfl, hz', hn', hk'⟩ := r2
  obtain ⟨b'', u, rfl, hz'', hn'', hk''⟩ := r3
  have hE : Env V [r, s, u] V := Env.start (by simp [hk, hk', hk''])
  have hR := ZRds.three (x := r) (y := s) (z := u) (t := 25) b b' b'' hE (by simp) (by simp) (by simp)
  have hb : Below V.heap.size V (V.alloc (.cells #[.bool b, .slice r.A r.n r.c, .bool b', .slice s.A s.n s.c, .bool b'', .slice u.A u.n u.c] 25)) := (Below.refl _ _).alloc (Nat.le_refl _) _
  refine step_grow (v := .slice (some ⟨V.heap.size, 0, none⟩) 3 3) (w' := V.alloc (.cells #[.bool b, .slice r.A r.n r.c, .bool b', .slice s.A s.n s.c, .bool b'', .slice u.A u.n u.c] 25)) ho hd hw ?_ hb (hC _ hb) (hF _ _ ⟨_, 3, [(b, r), (b', s), (b'', u)], rfl, by rw [World.size_alloc]; exact hR, by simp [zP, hz, hz', hz''], by simp [hn, hn', hn''], by simp, by simp [maxLen], by simp⟩)
  obtain ⟨dst, op, ty, pos, after, guard⟩ := o
  simp only at hop
  subst hop
  go_simp
theorem fz_one (ho : ops[i]? = some o) (hd : o.dst = some t) (hw : Region.wanted o (yielded ops a.tmps) = true) (hop : o.op = .buildSlice 26 1 #[(0, .tmp t1)]) (h1 : a.tmps[t1]?.getD undef = v1) (r1 : RepZ Z1 v1 V)
    (hC : ∀ V', Below V.heap.size V V' → C V') (hF : ∀ v V', RepRow [Z1] v V' → F v V') :
    wpOp Tryz.prog ops Q i (fun a' w' => ∃ v, a' = a.put (some t) v ∧ F v w' ∧ Below V.heap.size V w' ∧ C w') a V := by
  obtain ⟨b, r, rfl, hz, hn, hk⟩ := r1
  have hE : Env V [r] V := Env.start (by simp [hk])
  have hR := ZRds.one (x := r) (t := 25) b hE (by simp)
  have hb : Below V.heap.size V (V.alloc (.cells #[.bool b, .slice r.A r.n r.c] 25)) := (Below.refl _ _).alloc (Nat.le_refl _) _
  refine step_grow (v := .slice (some ⟨V.heap.size, 0, none⟩) 1 1) (w' := V.alloc (.cells #[.bool b, .slice r.A r.n r.c] 25)) ho hd hw ?_ hb (hC _ hb) (hF _ _ ⟨_, 1, [(b, r)], rfl, by rw [World.size_alloc]; exact hR, by simp [zP, hz], by simp [hn], by simp, by simp [maxLen], by simp⟩)
  obtain ⟨dst, op, ty, pos, after, guard⟩ := o
  simp only at hop
  subst hop
  go_simp
theorem sum_of {ps : List (Bool × Num)} {l : List Int} (h : ps.map zP = l) : sumZ ps = l.sum := by unfold sumZ; rw [h]
theorem prod_of {ps : List (Bool × Num)} {l : List Int} (h : ps.map zP = l) : prodZ ps = l.foldr (· * ·) 1 := by unfold prodZ; rw [h]
/-- A call with one plain argument: what stands in its slot is handed over. -/
theorem call1_run {f : FuncId} (hop : ∃ ts, o.op = .call { callee := .value (.func f), args := #[.tmp t1], argTypes := ts }) (h1 : a.tmps[t1]?.getD undef = v1) (en : ∀ args w, (callFunc f args).run Tryz.prog w = .ok (.enter f args) w) :
    (execOp a.eval o).run Tryz.prog V = .ok (.enter f #[v1]) V := by
  obtain ⟨dst, op, ty, pos, after, guard⟩ := o
  obtain ⟨ts, hop⟩ := hop
  simp only at hop
  subst hop
  have := en #[v1] V
  go_simp
theorem call2_run {f : FuncId} (hop : ∃ ts, o.op = .call { callee := .value (.func f), args := #[.tmp t1, .tmp t2], argTypes := ts }) (h1 : a.tmps[t1]?.getD undef = v1) (h2 : a.tmps[t2]?.getD undef = v2) (en : ∀ args w, (callFunc f args).run Tryz.prog w = .ok (.enter f args) w) :
    (execOp a.eval o).run Tryz.prog V = .ok (.enter f #[v1, v2]) V := by
  obtain ⟨dst, op, ty, pos, after, guard⟩ := o
  obtain ⟨ts, hop⟩ := hop
  simp only at hop
  subst hop
  have := en #[v1, v2] V
  go_simp
theorem callc_run {f : FuncId} (hop : ∃ ts, o.op = .call { callee := .value (.func f), args := #[.const v1], argTypes := ts }) (en : ∀ args w, (callFunc f args).run Tryz.prog w = .ok (.enter f args) w) :
    (execOp a.eval o).run Tryz.prog V = .ok (.enter f #[v1]) V := by
  obtain ⟨dst, op, ty, pos, after, guard⟩ := o
  obtain ⟨ts, hop⟩ := hop
  simp only at hop
  subst hop
  have := en #[v1] V
  go_simp

section
variable {f : FuncId} (ho : ops[i]? = some o) (hd : o.dst = some t) (hw : Region.wanted o (yielded ops a.tmps) = true)
variable (hC : ∀ V', Below V.heap.size V V' → C V')
include ho hd hw hC
theorem fz_zs {args : Array Value} {e : List Num} (hr : (execOp a.eval o).run Tryz.prog V = .ok (.enter f args) V) (hc : Calls Tryz.prog f args V (Zs V e Z)) (hF : ∀ v V', RepT Z v V' → F v V') :
    wpOp Tryz.prog ops Q i (fun a' w' => ∃ v, a' = a.put (some t) v ∧ F v w' ∧ Below V.heap.size V w' ∧ C w') a V := by
  refine step_call ho hd hw hr (hc.mono ?_)
  rintro e' V' ⟨r, rfl, h1, h2, hE⟩
  exact ⟨_, rfl, hF _ _ ⟨r, rfl, h1, h2, hE.2 r (by simp)⟩, hE.1, hC _ hE.1⟩
/-- A sum, a product of a row. -/
theorem fz_all {G : List (Bool × Num) → Int} {l : List Int} (S : SAllTold V f G) (hr : (execOp a.eval o).run Tryz.prog V = .ok (.enter f #[v1]) V) (h : RepRow l v1 V) (hg : ∀ ps, ps.map zP = l → G ps = Z) (hF : ∀ v V', RepT Z v V' → F v V') :
    wpOp Tryz.prog ops Q i (fun a' w' => ∃ v, a' = a.put (some t) v ∧ F v w' ∧ Below V.heap.size V w' ∧ C w') a V := by
  obtain ⟨A, c, ps, rfl, hR, hm, hb, h1, h2, h3⟩ := h
  have := S V V [] A c ps (Below.refl _ _) (Env.start (by simp)) hR h1 h2 h3 hb
  rw [hg ps hm] at this
  exact fz_zs ho hd hw hC hr this hF
theorem fz_nil {G : List (Bool × Num) → Int} (S : SAllTold V f G) (hr : (execOp a.eval o).run Tryz.prog V = .ok (.enter f #[.slice none 0 0]) V) (hg : G [] = Z) (hF : ∀ v V', RepT Z v V' → F v V') :
    wpOp Tryz.prog ops Q i (fun a' w' => ∃ v, a' = a.put (some t) v ∧ F v w' ∧ Below V.heap.size V w' ∧ C w') a V := by
  have := S V V [] none 0 [] (Below.refl _ _) (Env.start (by simp)) (fun k hk => by simp at hk) (by simp) (by simp [maxLen]) (by simp) (by simp)
  rw [hg] at this
  exact fz_zs ho hd hw hC hr this hF
theorem fz_of1 {G : Int → Int} (S : SOneTold V f G) (hr : (execOp a.eval o).run Tryz.prog V = .ok (.enter f #[v1]) V) (h : RepZ Z1 v1 V) (hg : G Z1 = Z) (hF : ∀ v V', RepT Z v V' → F v V') :
    wpOp Tryz.prog ops Q i (fun a' w' => ∃ v, a' = a.put (some t) v ∧ F v w' ∧ Below V.heap.size V w' ∧ C w') a V := by
  obtain ⟨b, r, rfl, hz, hn, hk⟩ := h
  have := S V V [r] b r Z1 (Below.refl _ _) (Env.start (by simp [hk])) (by simp) hn hz
  rw [hg] at this
  exact fz_zs ho hd hw hC hr this hF
theorem fz_of2 {G : Int → Int → Int} (S : STwoTold V f G) (hr : (execOp a.eval o).run Tryz.prog V = .ok (.enter f #[v1, v2]) V) (h : RepZ Z1 v1 V) (h' : RepZ Z2 v2 V) (hg : G Z1 Z2 = Z) (hF : ∀ v V', RepT Z v V' → F v V') :
    wpOp Tryz.prog ops Q i (fun a' w' => ∃ v, a' = a.put (some t) v ∧ F v w' ∧ Below V.heap.size V w' ∧ C w') a V := by
  obtain ⟨b, r, rfl, hz, hn, hk⟩ := h
  obtain ⟨b', s, rfl, hz', hn', hk'⟩ := h'
  have := S V V [r, s] b r b' s Z1 Z2 (Below.refl _ _) (Env.start (by simp [hk, hk'])) (by simp) (by simp) hn hn' hz hz'
  rw [hg] at this
  exact fz_zs ho hd hw hC hr this hF
theorem fz_say {u : Value} {G : Int → Value} (S : SSayTold V f G) (hr : (execOp a.eval o).run Tryz.prog V = .ok (.enter f #[v1]) V) (h : RepZ Z1 v1 V) (hg : G Z1 = u) (hF : ∀ V', F u V') :
    wpOp Tryz.prog ops Q i (fun a' w' => ∃ v, a' = a.put (some t) v ∧ F v w' ∧ Below V.heap.size V w' ∧ C w') a V := by
  obtain ⟨b, r, rfl, hz, hn, hk⟩ := h
  have := S V V [r] b r Z1 (Below.refl _ _) (Env.start (by simp [hk])) (by simp) hn hz
  rw [hg] at this
  refine step_call ho hd hw hr (this.mono ?_)
  rintro e' V' ⟨rfl, hE⟩
  exact ⟨_, rfl, hF V', hE.1, hC _ hE.1⟩
theorem fz_say2 {u : Value} {G : Int → Int → Value} (S : SSay2Told V f G) (hr : (execOp a.eval o).run Tryz.prog V = .ok (.enter f #[v1, v2]) V) (h : RepZ Z1 v1 V) (h' : RepZ Z2 v2 V) (hg : G Z1 Z2 = u) (hF : ∀ V', F u V') :
    wpOp Tryz.prog ops Q i (fun a' w' => ∃ v, a' = a.put (some t) v ∧ F v w' ∧ Below V.heap.size V w' ∧ C w') a V := by
  obtain ⟨b, r, rfl, hz, hn, hk⟩ := h
  obtain ⟨b', s, rfl, hz', hn', hk'⟩ := h'
  have := S V V [r, s] b r b' s Z1 Z2 (Below.refl _ _) (Env.start (by simp [hk, hk'])) (by simp) (by simp) hn hn' hz hz'
  rw [hg] at this
  refine step_call ho hd hw hr (this.mono ?_)
  rintro e' V' ⟨rfl, hE⟩
  exact ⟨_, rfl, hF V', hE.1, hC _ hE.1⟩
end
/-- An integer of less than so many limbs. -/
def Lb (k : Nat) (Z : Int) : Prop := Z.natAbs < Bw ^ k
theorem lb_of {b : Bool} {N k n : Nat} {Z : Int} (h : N < Bw ^ n) (hn : n ≤ k) (hz : zOf b N = Z) : Lb k Z := by unfold Lb; rw [← hz, zOf_abs]; exact lt_pow_of h hn
theorem lb_len {k : Nat} (h : Lb k Z) (hk : k ≤ 10000) : lenL Z.natAbs ≤ 10000 := Nat.le_trans (lenL_le.2 h) hk
theorem lb_add {k m : Nat} (h : Lb k Z1) (h' : Lb m Z2) : Lb (k + m + 1) (Z1 + Z2) := by
  unfold Lb at *
  have h1 := Int.natAbs_add_le Z1 Z2
  have h2 : Bw ^ k ≤ Bw ^ (k + m) := Nat.pow_le_pow_right Bw_pos (by omega)
  have h3 : Bw ^ m ≤ Bw ^ (k + m) := Nat.pow_le_pow_right Bw_pos (by omega)
  rw [Nat.pow_succ, Bw_eq] at *
  omega
theorem lb_neg {k : Nat} (h : Lb k Z) : Lb k (-Z) := by unfold Lb at *; rwa [Int.natAbs_neg]
theorem lb_sub {k m : Nat} (h : Lb k Z1) (h' : Lb m Z2) : Lb (k + m + 1) (Z1 - Z2) := by rw [Int.sub_eq_add_neg]; exact lb_add h (lb_neg h')
theorem lb_mul {k m : Nat} (h : Lb k Z1) (h' : Lb m Z2) : Lb (k + m) (Z1 * Z2) := by
  unfold Lb at *
  rw [Int.natAbs_mul, Nat.pow_add]
  exact Nat.mul_lt_mul'' h h'
theorem lb_zero : Lb 1 0 := by unfold Lb; simp [Bw]
theorem lb_one : Lb 1 1 := by unfold Lb; simp [Bw]
/-- A box that the region has laid, empty. -/
def RepBox (W0 : World) (v : Value) (V : World) : Prop := ∃ g, v = .pointer (some ⟨g, 0, none⟩) ∧ W0.heap.size ≤ g ∧ Box2 V g 25 (.bool false) (.slice none 0 0)
theorem RepBox.keep {W0 : World} {v : Value} {V V' : World} (h : RepBox W0 v V) (hb : Below V.heap.size V V') : RepBox W0 v V' := by
  obtain ⟨g, h1, h2, h3⟩ := h
  exact ⟨g, h1, h2, h3.below hb h3.lt⟩
theorem fz_alloc {W0 : World} (ho : ops[i]? = some o) (hd : o.dst = some t) (hw : Region.wanted o (yielded ops a.tmps) = true) (hop : o.op = .alloc 25) (hW : W0.heap.size ≤ V.heap.size) (hC : ∀ V', Below V.heap.size V V' → C V') (hF : ∀ v V', RepBox W0 v V' → v = .pointer (some ⟨V.heap.size, 0, none⟩) → F v V') :
    wpOp Tryz.prog ops Q i (fun a' w' => ∃ v, a' = a.put (some t) v ∧ F v w' ∧ Below V.heap.size V w' ∧ C w') a V := by
  have hb : Below V.heap.size V (V.alloc (.cells #[.bool false, .slice none 0 0] 25)) := (Below.refl _ _).alloc (Nat.le_refl _) _
  refine step_grow (v := .pointer (some ⟨V.heap.size, 0, none⟩)) (w' := V.alloc (.cells #[.bool false, .slice none 0 0] 25)) ho hd hw ?_ hb (hC _ hb) (hF _ _ ⟨_, rfl, hW, Box2.new _ _ _ _⟩ rfl)
  obtain ⟨dst, op, ty, pos, after, guard⟩ := o
  simp only at hop
  subst hop
  go_simp
theorem step_triv {G : Value → Prop} (hG : ∀ v, G v) (h : wpOp Tryz.prog ops Q i (fun a' w' => ∃ v, a' = a.put (some t) v ∧ F v w' ∧ Below V.heap.size V w' ∧ C w') a V) :
    wpOp Tryz.prog ops Q i (fun a' w' => ∃ v, a' = a.put (some t) v ∧ (F v w' ∧ G v) ∧ Below V.heap.size V w' ∧ C w') a V :=
  wpOp_mono (fun _ _ ⟨v, e1, e2, e3, e4⟩ => ⟨v, e1, ⟨e2, hG v⟩, e3, e4⟩) h
/-- A number is not what a box holds. -/
theorem Rd.box {W : World} {hi n N g k : Nat} {A : Option Addr} {b : Bool} {v u : Value} {T : TypeId} (h : Rd W hi A n N) (B : Box2 W g T (.bool b) v) (hv : ∀ z : Int, v ≠ .int .u32 z) (hk : k = 0 ∨ k = 1) : Rd (W.setCell ⟨g, k, none⟩ u) hi A n N :=
  ⟨h.1, fun hn => by
    obtain ⟨ad, e, hb, hc⟩ := h.2 hn
    refine ⟨ad, e, hb, fun j hj => ?_⟩
    rw [World.cell?_setCell_other _ _ _ _ (fun e2 => ?_)]
    · exact hc j hj
    · have h1 := hc j hj
      obtain ⟨c1, c2, -, -⟩ := B.cells
      rw [← e2] at h1
      rcases hk with rfl | rfl
      · rw [c1] at h1; cases h1
      · rw [c2] at h1; injection h1 with h1; exact hv _ h1⟩
theorem Num.ok.box {W : World} {g : Nat} {r : Num} {b b' : Bool} {A : Option Addr} {n c : Nat} {u : Value} {T : TypeId} (h : r.ok W W.heap.size) (B : Box2 W g T (.bool b) (.slice A n c)) :
    r.ok ((W.setCell ⟨g, 0, none⟩ (.bool b')).setCell ⟨g, 1, none⟩ u) ((W.setCell ⟨g, 0, none⟩ (.bool b')).setCell ⟨g, 1, none⟩ u).heap.size := by
  have h1 := h.1.box (u := .bool b') B (by intro z e; cases e) (.inl rfl)
  have h2 := h1.box (u := u) (B.set0 (.bool b')) (by intro z e; cases e) (.inr rfl)
  exact ⟨by rw [World.size_setCell, World.size_setCell]; exact h2, h.2⟩
end Go.Proofs.YtolldhfcnbbelaaGreatDoor

/- Contracts of sint's told, turned, reckon, sign, over numbers at hand; boxes of three cells; the signs' table. -/
namespace Go.Proofs.YtolldhfcnbbelaaGreatDoor
open Go Go.RowKit
variable {w W : World} {e : List Num} {x y : Num}

/-- The signs, as they are laid. -/
def Signs (w : World) : Prop := ∀ j : Nat, j < 3 → w.cell? ⟨0, j, none⟩ = some (.int .i64 ((j : Int) - 1))
theorem sg_lt {w : World} {b o : Nat} {v : Value} (h : w.cell? ⟨b, o, none⟩ = some v) : b < w.heap.size := by
  rcases Nat.lt_or_ge b w.heap.size with h1 | h1
  · exact h1
  · simp [World.cell?, Array.getElem?_eq_none h1] at h
theorem Signs.keep {w W : World} (h : Signs w) (hb : Below w.heap.size w W) : Signs W := fun j hj => (hb.cell (p := ⟨0, j, none⟩) (sg_lt (h j hj))).trans (h j hj)

/-- A number is handed back, trimmed. -/
def TellsA (w : World) (e : List Num) (N : Nat) (e' : Ending) (W' : World) : Prop :=
  ∃ r : Num, e' = .returned (.slice r.A r.n r.c) ∧ r.N = N ∧ r.n = lenL N ∧ Env w (r :: e) W'
theorem tellsA_of_gives {N : Nat} {e' : Ending} {W' : World} (h : Env w e W) (hg : Gives W N e' W') (hN : lenL N ≤ 35184372087808) : TellsA w e N e' W' := by
  obtain ⟨r, h1, h2, h3, h4, -⟩ := back_of_gives h hg hN
  exact ⟨r, h1, h2, h3, h4⟩
/-- The value is that number, trimmed. -/
def RepN (N : Nat) (v : Value) (V : World) : Prop := ∃ r : Num, v = .slice r.A r.n r.c ∧ r.N = N ∧ r.n = lenL N ∧ r.ok V V.heap.size
theorem RepN.keep {N : Nat} {v : Value} {V V' : World} (h : RepN N v V) (hb : Below V.heap.size V V') : RepN N v V' := by
  obtain ⟨r, h1, h2, h3, h4⟩ := h
  exact ⟨r, h1, h2, h3, h4.later hb⟩
theorem sTrim_E (h : Env w e W) (hx : x ∈ e) : Calls Tryz.prog 43 #[.slice x.A x.n x.c] W (TellsA w e x.N) := by
  obtain ⟨a1, a2, a3, a4⟩ := h.2 x hx
  refine (Trim_any W _ _ _ _ a1 a2 a3 a4).mono fun e' W' hg => tellsA_of_gives h hg ?_
  have := lenL_le.2 a1.1
  omega
theorem sOf_E {N : Nat} (h : Env w e W) (hN : N < 18446744073709551616) : Calls Tryz.prog 36 #[.int .u64 N] W (TellsA w e N) :=
  (Of_any W N hN).mono fun _ _ hg => tellsA_of_gives h hg (by have := lenL_small.2 hN; omega)

/-- A number is not what a box of a sign and a row holds. -/
theorem Rd.sbox {W : World} {hi n N g k : Nat} {A : Option Addr} {a b u : Value} {T : TypeId} (h : Rd W hi A n N) (B : Box2 W g T a b) (ha : ∀ z : Int, a ≠ .int .u32 z) (hv : ∀ z : Int, b ≠ .int .u32 z) (hk : k = 0 ∨ k = 1) : Rd (W.setCell ⟨g, k, none⟩ u) hi A n N :=
  ⟨h.1, fun hn => by
    obtain ⟨ad, e, hb, hc⟩ := h.2 hn
    refine ⟨ad, e, hb, fun j hj => ?_⟩
    rw [World.cell?_setCell_other _ _ _ _ (fun e2 => ?_)]
    · exact hc j hj
    · have h1 := hc j hj
      obtain ⟨c1, c2, -, -⟩ := B.cells
      rw [← e2] at h1
      rcases hk with rfl | rfl
      · rw [c1] at h1; injection h1 with h1; exact ha _ h1
      · rw [c2] at h1; injection h1 with h1; exact hv _ h1⟩
/-- What is stored in the result's box changes no number at hand. -/
theorem Env.boxed {g n c : Nat} {b : Bool} {A : Option Addr} {T : TypeId} (h : Env w e W) (B : Box2 W g T (.bool b) (.slice A n c)) (hg : w.heap.size ≤ g) (b' : Bool) (u : Value) :
    Env w e ((W.setCell ⟨g, 0, none⟩ (.bool b')).setCell ⟨g, 1, none⟩ u) :=
  ⟨(h.1.setCell (p := ⟨g, 0, none⟩) hg _).setCell (p := ⟨g, 1, none⟩) hg _, fun z hz => by
    have h1 := (h.2 z hz).1.sbox (u := .bool b') B (by intro z e; cases e) (by intro z e; cases e) (.inl rfl)
    have h2 := h1.sbox (u := u) (B.set0 (.bool b')) (by intro z e; cases e) (by intro z e; cases e) (.inr rfl)
    exact ⟨by rw [World.size_setCell, World.size_setCell]; exact h2, (h.2 z hz).2⟩⟩

/-- An integer as it is told stands in the result's box. -/
theorem zs_box {W1 V : World} {r : Num} {Z : Int} {g n c : Nat} {b : Bool} {A : Option Addr} {T : TypeId} (HO : Below w.heap.size w W1) (HE : Env W1 e W1) (hC : Below W1.heap.size W1 V) (hk : r.ok V V.heap.size) (B : Box2 V g T (.bool b) (.slice A n c)) (hg : w.heap.size ≤ g)
    (n1 : r.N = Z.natAbs) (n2 : r.n = lenL Z.natAbs) : Zs w e Z (.returned (.agg #[.bool (decide (Z < 0)), .slice r.A r.n r.c])) ((V.setCell ⟨g, 0, none⟩ (.bool (decide (Z < 0)))).setCell ⟨g, 1, none⟩ (.slice r.A r.n r.c)) := by
  refine ⟨r, rfl, n1, n2, Env.boxed (e := r :: e) ⟨HO.trans (hC.mono HO.size), ?_⟩ B hg _ _⟩
  intro z hz
  rcases List.mem_cons.1 hz with rfl | hz
  · exact hk
  · exact (HE.2 z hz).later hC

/-- A box of three cells. -/
def Box3 (W : World) (B : Nat) (t : TypeId) (a b c : Value) : Prop := W.heap[B]? = some (.cells #[a, b, c] t (0, 0))
theorem Box3.new (W : World) (t : TypeId) (a b c : Value) : Box3 (W.alloc (.cells #[a, b, c] t)) W.heap.size t a b c := World.alloc_heap_new' W _
theorem Box3.lt {W : World} {B : Nat} {t : TypeId} {a b c : Value} (h : Box3 W B t a b c) : B < W.heap.size := (Array.getElem?_eq_some_iff.1 h).1
theorem Box3.cells {W : World} {B : Nat} {t : TypeId} {a b c : Value} (h : Box3 W B t a b c) : W.cell? ⟨B, 0, none⟩ = some a ∧ W.cell? ⟨B, 1, none⟩ = some b ∧ W.cell? ⟨B, 2, none⟩ = some c ∧ W.frozen? ⟨B, 0, none⟩ = false ∧ W.frozen? ⟨B, 1, none⟩ = false ∧ W.frozen? ⟨B, 2, none⟩ = false := by
  have h' : W.heap[B]? = _ := h
  refine ⟨?_, ?_, ?_, ?_, ?_, ?_⟩ <;> simp [World.cell?, World.frozen?, h']
theorem Box3.below {W W' : World} {B K : Nat} {t : TypeId} {a b c : Value} (h : Box3 W B t a b c) (hb : Below K W W') (hB : B < K) : Box3 W' B t a b c := (hb.block B hB).trans h
theorem Box3.kept {W W' : World} {row : Option Nat} {B : Nat} {t : TypeId} {a b c : Value} (h : Box3 W B t a b c) (hg : W.grownBy W' row) (hne : some B ≠ row) : Box3 W' B t a b c := (hg.block B h.lt hne).trans h
theorem Box3.alloc {W : World} {B : Nat} {t : TypeId} {a b c : Value} (h : Box3 W B t a b c) (o : Obj) : Box3 (W.alloc o) B t a b c := (Below.heap_alloc W o B h.lt).trans h
theorem Box3.set {W : World} {B : Nat} {t : TypeId} {a b c : Value} (a' b' c' : Value) (h : Box3 W B t a b c) : Box3 (((W.setCell ⟨B, 0, none⟩ a').setCell ⟨B, 1, none⟩ b').setCell ⟨B, 2, none⟩ c') B t a' b' c' := by
  have step : ∀ (V : World) (i : Nat) (cs : Array Value) (u : Value), V.heap[B]? = some (.cells cs t (0, 0)) → (V.setCell ⟨B, i, none⟩ u).heap[B]? = some (.cells (cs.setIfInBounds i u) t (0, 0)) := fun V i cs u h => by
    obtain ⟨hlt, hk⟩ := Array.getElem?_eq_some_iff.1 h
    show (V.heap.modify B _)[B]? = _
    rw [Array.getElem?_eq_getElem (by rw [Array.size_modify]; exact hlt), Array.getElem_modify_self, hk]
    rfl
  exact step _ 2 _ c' (step _ 1 _ b' (step _ 0 _ a' h))
theorem info_num3 : (Tryz.prog.info? 47).map (·.size) = some 3 := by kernel_rfl
theorem ret_box3 {W : World} {B : Nat} {t : TypeId} {a b c : Value} (h : Box3 W B t a b c) {fn : Func} {p : Tmp} (hr : fn.results = #[.cell p 47]) {tmps : Array Value} (hp : tmps.getD p undef = .pointer (some ⟨B, 0, none⟩)) :
    (results fn tmps).run Tryz.prog W = .ok (.agg #[a, b, c]) W :=
  results_cell_row hr tmps W B t #[a, b, c] (0, 0) _ hp h Tryz.underlying47 rfl info_num3

theorem zneg_iff {b : Bool} {N : Nat} : decide (zOf b N < 0) = (b && decide (0 < lenL N)) := by
  have := @lenL_eq_zero N
  cases b
  · rw [zOf_false, Bool.false_and]; exact decide_eq_false (by omega)
  · rw [zOf_true, Bool.true_and, decide_eq_decide]; omega

set_option maxRecDepth 100000 in
set_option maxHeartbeats 1000000 in
/-- An integer as it is told, if the number is trimmed. -/
theorem told_E {b : Bool} (h : Env w e W) (hn : x.n = lenL x.N) :
    Calls Tryz.prog 38 #[.bool b, .slice x.A x.n x.c] W fun e' W' => e' = .returned (.agg #[.bool (decide (zOf b x.N < 0)), .slice x.A x.n x.c]) ∧ Env w e W' := by
  have HZ := Lib.hid (@zneg_iff b x.N)
  rw [← hn] at HZ
  clear hn
  have HE := Lib.hid h
  clear h
  go_enter Tryz.func38, Tryz.ntmps38
  cases b
  · go_wp2
    refine bodyPost_ret (ret_box2 (Box2.new _ _ _ _) rfl rfl) rfl ?_
    exact ⟨by rw [HZ.out]; rfl, HE.out.alloc _⟩
  · go_wp2
    refine bodyPost_ret (ret_box2 (Box2.new _ _ _ _) rfl rfl) rfl ?_
    exact ⟨by rw [HZ.out]; rfl, HE.out.alloc _⟩

set_option maxRecDepth 100000 in
set_option maxHeartbeats 1000000 in
theorem turned_E {b : Bool} (h : Env w e W) :
    Calls Tryz.prog 45 #[.agg #[.bool b, .slice x.A x.n x.c]] W fun e' W' => e' = .returned (.agg #[.bool (!b), .slice x.A x.n x.c]) ∧ Env w e W' := by
  have HE := Lib.hid h
  clear h
  go_enter Tryz.func45, Tryz.ntmps45
  go_wp2
  refine bodyPost_ret (ret_box2 (World.alloc_heap_new' _ _) rfl (by rw [World.size_alloc]; rfl)) rfl ?_
  exact ⟨rfl, (HE.out.alloc _).alloc _⟩

/-- The sign's place. -/
def plZ (Z : Int) : Nat := if Z < 0 then 0 else if Z = 0 then 1 else 2
theorem plZ_lt (Z : Int) : plZ Z < 3 := by
  unfold plZ
  split
  · decide
  · split <;> decide
theorem plZ_sign (Z : Int) : ((plZ Z : Nat) : Int) - 1 = Z.sign := by
  unfold plZ
  rcases Int.lt_trichotomy Z 0 with h | h | h
  · rw [if_pos h, Int.sign_eq_neg_one_of_neg h]; rfl
  · subst h; rfl
  · rw [if_neg (by omega), if_neg (by omega), Int.sign_eq_one_of_pos h]; rfl
theorem plZ_nought {b : Bool} {N : Nat} (h : N = 0) : plZ (zOf b N) = 1 := by subst h; cases b <;> rfl
theorem plZ_below {N : Nat} (h : N ≠ 0) : plZ (zOf true N) = 0 := by unfold plZ; rw [zOf_true, if_pos (by omega)]
theorem plZ_above {N : Nat} (h : N ≠ 0) : plZ (zOf false N) = 2 := by unfold plZ; rw [zOf_false, if_neg (by omega), if_neg (by omega)]

set_option maxRecDepth 100000 in
set_option maxHeartbeats 1000000 in
theorem reckon_any {b : Bool} (W : World) (hx : Rd W W.heap.size x.A x.n x.N) (h2 : x.n ≤ x.c) (h3 : x.c ≤ maxLen) (h4 : x.n ≤ 35184372087808) :
    Calls Tryz.prog 32 #[.agg #[.bool b, .slice x.A x.n x.c]] W fun e' W' => e' = .returned (.agg #[.bool b, .slice x.A x.n x.c, .int .i64 (plZ (zOf b x.N) : Nat)]) ∧ Below W.heap.size W W' := by
  have hb : Below W.heap.size W ((W.alloc (.cells #[.bool b, .slice x.A x.n x.c] 25)).alloc (.cells #[.bool false, .slice none 0 0, .int .i64 0] 47)) := ((Below.refl _ W).alloc (Nat.le_refl _) _).alloc (by simp) _
  have EB := Lib.hid (pBits_any ((W.alloc (.cells #[.bool b, .slice x.A x.n x.c] 25)).alloc (.cells #[.bool false, .slice none 0 0, .int .i64 0] 47)) _ x.A x.n x.c x.N (hx.below hb) h2 h3 h4)
  have fin : ∀ v, Below W.heap.size W ((W.alloc (.cells #[.bool b, .slice x.A x.n x.c] 25)).alloc (.cells v 47)) := fun v => ((Below.refl _ W).alloc (Nat.le_refl _) _).alloc (by simp) _
  have FN := Lib.hid fin
  clear fin hb hx h2 h3 h4
  by_cases h0 : x.N = 0
  · have HP := Lib.hid (plZ_nought (b := b) h0)
    have hz : bitsN x.N = 0 := by rw [h0]; exact bitsN_zero
    rw [hz] at EB
    clear h0 hz
    go_enter Tryz.func32, Tryz.ntmps32
    go_wp2_with (go_at_call 53; refine EB.out.mono ?_; rintro e' w' ⟨rfl, rfl⟩)
    refine bodyPost_ret (ret_box3 (World.alloc_heap_new' _ _) rfl (by rw [World.size_alloc]; rfl)) rfl ?_
    exact ⟨by rw [HP.out]; rfl, FN.out _⟩
  · have hz : bitsN x.N ≠ 0 := by intro hh; have := (bitsN_le (N := x.N) (k := 0)).1 (by omega); omega
    have hzd : ((bitsN x.N : Int) == 0) = false := by simp [hz]
    cases b
    · have HP := Lib.hid (plZ_above h0)
      clear h0 hz
      go_enter Tryz.func32, Tryz.ntmps32
      go_wp2_with (go_at_call 53; refine EB.out.mono ?_; rintro e' w' ⟨rfl, rfl⟩)
      refine bodyPost_ret (ret_box3 (World.alloc_heap_new' _ _) rfl (by rw [World.size_alloc]; rfl)) rfl ?_
      exact ⟨by rw [HP.out]; rfl, FN.out _⟩
    · have HP := Lib.hid (plZ_below h0)
      clear h0 hz
      go_enter Tryz.func32, Tryz.ntmps32
      go_wp2_with (go_at_call 53; refine EB.out.mono ?_; rintro e' w' ⟨rfl, rfl⟩)
      refine bodyPost_ret (ret_box3 (World.alloc_heap_new' _ _) rfl (by rw [World.size_alloc]; rfl)) rfl ?_
      exact ⟨by rw [HP.out]; rfl, FN.out _⟩
theorem reckon_E {b : Bool} (h : Env w e W) (hx : x ∈ e) :
    Calls Tryz.prog 32 #[.agg #[.bool b, .slice x.A x.n x.c]] W fun e' W' => e' = .returned (.agg #[.bool b, .slice x.A x.n x.c, .int .i64 (plZ (zOf b x.N) : Nat)]) ∧ Env w e W' := by
  obtain ⟨h1, h2, h3, h4⟩ := h.2 x hx
  exact (reckon_any W h1 h2 h3 h4).mono fun _ _ ⟨he, hb⟩ => ⟨he, h.step hb⟩

set_option maxRecDepth 100000 in
set_option maxHeartbeats 1000000 in
theorem sgn_any {u v : Value} {Z : Int} (hs : Signs W) :
    Calls Tryz.prog 34 #[.agg #[u, v, .int .i64 (plZ Z : Nat)]] W fun e' W' => e' = .returned (.int .i64 Z.sign) ∧ Below W.heap.size W W' := by
  have hl := plZ_lt Z
  have hc := (hs.keep ((Below.refl _ W).alloc (Nat.le_refl _) (.cells #[u, v, .int .i64 (plZ Z : Nat)] 47))) (plZ Z) hl
  rw [plZ_sign] at hc
  have HB := Lib.hid ((Below.refl _ W).alloc (Nat.le_refl _) (.cells #[u, v, .int .i64 (plZ Z : Nat)] 47))
  clear hs
  go_enter Tryz.func34, Tryz.ntmps34
  go_wp2
  go_ret
  exact ⟨rfl, HB.out⟩
theorem sgn_E {u v : Value} {Z : Int} (hs : Signs W) (h : Env w e W) :
    Calls Tryz.prog 34 #[.agg #[u, v, .int .i64 (plZ Z : Nat)]] W fun e' W' => e' = .returned (.int .i64 Z.sign) ∧ Env w e W' :=
  (sgn_any hs).mono fun _ _ ⟨he, hb⟩ => ⟨he, h.step hb⟩
end Go.Proofs.YtolldhfcnbbelaaGreatDoor

/- Boxes of three cells in a region that is told by facts; an act whose slots are known is written out. -/
namespace Go.Proofs.YtolldhfcnbbelaaGreatDoor
open Go Go.RowKit

/-- A box that the region has laid, empty. -/
def RepB3 (W0 : World) (v : Value) (V : World) : Prop := ∃ g, v = .pointer (some ⟨g, 0, none⟩) ∧ W0.heap.size ≤ g ∧ Box3 V g 47 (.bool false) (.slice none 0 0) (.int .i64 0)
theorem RepB3.keep {W0 : World} {v : Value} {V V' : World} (h : RepB3 W0 v V) (hb : Below V.heap.size V V') : RepB3 W0 v V' := by
  obtain ⟨g, h1, h2, h3⟩ := h
  exact ⟨g, h1, h2, h3.below hb h3.lt⟩
section
variable {ops : Array Oper} {Q : Exit → Act → World → Prop} {C : World → Prop} {a : Act} {V : World} {i : Nat} {t : Tmp} {o : Oper} {F : Value → World → Prop}
theorem fz_alloc3 {W0 : World} (ho : ops[i]? = some o) (hd : o.dst = some t) (hw : Region.wanted o (yielded ops a.tmps) = true) (hop : o.op = .alloc 47) (hW : W0.heap.size ≤ V.heap.size) (hC : ∀ V', Below V.heap.size V V' → C V') (hF : ∀ v V', RepB3 W0 v V' → v = .pointer (some ⟨V.heap.size, 0, none⟩) → F v V') :
    wpOp Tryz.prog ops Q i (fun a' w' => ∃ v, a' = a.put (some t) v ∧ F v w' ∧ Below V.heap.size V w' ∧ C w') a V := by
  have hb : Below V.heap.size V (V.alloc (.cells #[.bool false, .slice none 0 0, .int .i64 0] 47)) := (Below.refl _ _).alloc (Nat.le_refl _) _
  refine step_grow (v := .pointer (some ⟨V.heap.size, 0, none⟩)) (w' := V.alloc (.cells #[.bool false, .slice none 0 0, .int .i64 0] 47)) ho hd hw ?_ hb (hC _ hb) (hF _ _ ⟨_, rfl, hW, Box3.new _ _ _ _ _⟩ rfl)
  obtain ⟨dst, op, ty, pos, after, guard⟩ := o
  simp only at hop
  subst hop
  go_simp
end
theorem act_eq {a : Act} (l : List Value) (hs : a.tmps.size = l.length) (hd : a.defers = []) (h : ∀ i, i < l.length → a.tmps.getD i undef = l.getD i undef) : a = { tmps := l.toArray, defers := [] } := by
  obtain ⟨⟨m⟩, d⟩ := a
  simp only at hd hs
  subst hd
  have : m = l := by
    refine List.ext_getElem (by simpa using hs) fun i h1 h2 => ?_
    have := h i h2
    simp only [Array.getD, List.getD] at this
    simp only [List.size_toArray, h1, dite_true, List.getElem?_eq_getElem h2, Option.getD_some] at this
    exact this
  rw [this]
/-- A number is not what a box of three cells holds. -/
theorem Rd.sbox3 {W : World} {hi n N g k : Nat} {A : Option Addr} {a b c u : Value} {T : TypeId} (h : Rd W hi A n N) (B : Box3 W g T a b c) (ha : ∀ z : Int, a ≠ .int .u32 z) (hb : ∀ z : Int, b ≠ .int .u32 z) (hc : ∀ z : Int, c ≠ .int .u32 z) (hk : k = 0 ∨ k = 1 ∨ k = 2) : Rd (W.setCell ⟨g, k, none⟩ u) hi A n N :=
  ⟨h.1, fun hn => by
    obtain ⟨ad, e, hbk, hcl⟩ := h.2 hn
    refine ⟨ad, e, hbk, fun j hj => ?_⟩
    rw [World.cell?_setCell_other _ _ _ _ (fun e2 => ?_)]
    · exact hcl j hj
    · have h1 := hcl j hj
      obtain ⟨c1, c2, c3, -⟩ := B.cells
      rw [← e2] at h1
      rcases hk with rfl | rfl | rfl
      · rw [c1] at h1; injection h1 with h1; exact ha _ h1
      · rw [c2] at h1; injection h1 with h1; exact hb _ h1
      · rw [c3] at h1; injection h1 with h1; exact hc _ h1⟩
theorem Box3.step {V : World} {B : Nat} {t : TypeId} (i : Nat) (cs : Array Value) (u : Value) (h : V.heap[B]? = some (.cells cs t (0, 0))) : (V.setCell ⟨B, i, none⟩ u).heap[B]? = some (.cells (cs.setIfInBounds i u) t (0, 0)) := by
  obtain ⟨hlt, hk⟩ := Array.getElem?_eq_some_iff.1 h
  show (V.heap.modify B _)[B]? = _
  rw [Array.getElem?_eq_getElem (by rw [Array.size_modify]; exact hlt), Array.getElem_modify_self, hk]
  rfl
theorem Num.ok.box3 {W : World} {g n c : Nat} {r : Num} {b b' : Bool} {A : Option Addr} {k k' : Int} {u : Value} {T : TypeId} (h : r.ok W W.heap.size) (B : Box3 W g T (.bool b) (.slice A n c) (.int .i64 k)) (hu : ∀ z : Int, u ≠ .int .u32 z) :
    r.ok (((W.setCell ⟨g, 0, none⟩ (.bool b')).setCell ⟨g, 1, none⟩ u).setCell ⟨g, 2, none⟩ (.int .i64 k')) (((W.setCell ⟨g, 0, none⟩ (.bool b')).setCell ⟨g, 1, none⟩ u).setCell ⟨g, 2, none⟩ (.int .i64 k')).heap.size := by
  have h1 := h.1.sbox3 (u := .bool b') B (by intro z e; cases e) (by intro z e; cases e) (by intro z e; cases e) (.inl rfl)
  have B1 : Box3 (W.setCell ⟨g, 0, none⟩ (.bool b')) g T (.bool b') (.slice A n c) (.int .i64 k) := Box3.step 0 _ _ B
  have h2 := h1.sbox3 (u := u) B1 (by intro z e; cases e) (by intro z e; cases e) (by intro z e; cases e) (.inr (.inl rfl))
  have B2 : Box3 ((W.setCell ⟨g, 0, none⟩ (.bool b')).setCell ⟨g, 1, none⟩ u) g T (.bool b') u (.int .i64 k) := Box3.step 1 _ _ B1
  have h3 := h2.sbox3 (u := .int .i64 k') B2 (by intro z e; cases e) hu (by intro z e; cases e) (.inr (.inr rfl))
  exact ⟨by rw [World.size_setCell, World.size_setCell, World.size_setCell]; exact h3, h.2⟩
theorem Box3.other {W : World} {B g : Nat} {t : TypeId} {a b c : Value} (h : Box3 W B t a b c) (hne : B ≠ g) (u v z : Value) : Box3 (((W.setCell ⟨g, 0, none⟩ u).setCell ⟨g, 1, none⟩ v).setCell ⟨g, 2, none⟩ z) B t a b c :=
  ((h.kept (grown_set W g 0 u) (by intro e; injection e with e; exact hne e)).kept (grown_set _ g 1 v) (by intro e; injection e with e; exact hne e)).kept (grown_set _ g 2 z) (by intro e; injection e with e; exact hne e)
/-- Two boxes are filled. -/
theorem fill2 {W1 V : World} {e : List Num} {g g' : Nat} {b b' : Bool} {x y : Num} {k k' : Int} {T : TypeId} (HE : Env W1 e W1) (hC : Below W1.heap.size W1 V) (B : Box3 V g T (.bool false) (.slice none 0 0) (.int .i64 0)) (B' : Box3 V g' T (.bool false) (.slice none 0 0) (.int .i64 0)) (hne : g ≠ g') (hg : W1.heap.size ≤ g) (hg' : W1.heap.size ≤ g') :
    ∃ W4, (((((V.setCell ⟨g, 0, none⟩ (.bool b)).setCell ⟨g, 1, none⟩ (.slice x.A x.n x.c)).setCell ⟨g, 2, none⟩ (.int .i64 k)).setCell ⟨g', 0, none⟩ (.bool b')).setCell ⟨g', 1, none⟩ (.slice y.A y.n y.c)).setCell ⟨g', 2, none⟩ (.int .i64 k') = W4 ∧
      Env W1 e W4 ∧ Box3 W4 g T (.bool b) (.slice x.A x.n x.c) (.int .i64 k) ∧ Box3 W4 g' T (.bool b') (.slice y.A y.n y.c) (.int .i64 k') := by
  have BB := B'.other (Ne.symm hne) (.bool b) (.slice x.A x.n x.c) (.int .i64 k)
  refine ⟨_, rfl, ⟨?_, fun z hz => ?_⟩, ?_, BB.set _ _ _⟩
  · exact (((((hC.setCell (p := ⟨g, 0, none⟩) hg _).setCell (p := ⟨g, 1, none⟩) hg _).setCell (p := ⟨g, 2, none⟩) hg _).setCell (p := ⟨g', 0, none⟩) hg' _).setCell (p := ⟨g', 1, none⟩) hg' _).setCell (p := ⟨g', 2, none⟩) hg' _
  · exact ((((HE.2 z hz).later hC).box3 (b' := b) (k' := k) (u := .slice x.A x.n x.c) B (by intro z e; cases e)).box3 (b' := b') (k' := k') (u := .slice y.A y.n y.c) BB (by intro z e; cases e))
  · exact (B.set _ _ _).other hne _ _ _
end Go.Proofs.YtolldhfcnbbelaaGreatDoor
