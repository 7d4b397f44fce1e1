/- What all the contracts speak with: a number is handed back; numbers at hand; limbs as values. No function of the program. -/
import Derived.WalkKit
import Derived.WalkSpells
import Derived.WalkLawsBesides
import Derived.LoopTactic
import Derived.Outline
import Derived.Lib.Hide
import Derived.IntWalk
import Derived.Deep.QuietTactic
import Derived.BigQuiet
import Derived.Laws.BitsAllLaws
import Derived.Deep.RegionWith
import Derived.StillTailTactics
import Derived.Test.YtaancfhbmjkoaaaGreatDoorRows
import Derived.Test.YtaancfhbmjkoaaaGreatDoorGGen
namespace Go.Proofs.YtaancfhbmjkoaaaGreatDoor
open Go Go.RowKit

theorem wrap_u64 (a : Int) : IntKind.u64.wrap a = a % 18446744073709551616 := by rfl

theorem info_u32 : (Tryz.prog.info? 47).map (fun i => (i.zero, i.size, i.bytes)) = some (some (.int .u32 0), 1, 4) := by kernel_rfl

/-- The limbs of N as values. -/
def limbs (N n : Nat) : List Value := (List.range n).map fun j => .int .u32 (dig N j : Nat)
theorem limbs_length (N n : Nat) : (limbs N n).length = n := by simp [limbs]
theorem limbs_at {N n j : Nat} (h : j < n) : (limbs N n)[j]? = some (.int .u32 (dig N j : Nat)) := by simp [limbs, h]
theorem limbs_get {N n j : Nat} {u : Value} (h : (limbs N n)[j]? = some u) : j < n ∧ u = .int .u32 (dig N j : Nat) := by
  have hj : j < n := by have := (List.getElem?_eq_some_iff.1 h).1; rwa [limbs_length] at this
  rw [limbs_at hj] at h
  exact ⟨hj, by injection h with h; exact h.symm⟩
theorem limbs_one {N n : Nat} : ∀ u ∈ limbs N n, u.oneCell' = true := by
  intro u hu
  simp only [limbs, List.mem_map] at hu
  obtain ⟨j, _, rfl⟩ := hu
  rfl

/-- A number of the call's own is handed back. -/
def Gives (w : World) (N : Nat) (e : Ending) (w' : World) : Prop :=
  ∃ A c, e = .returned (.slice A (lenL N) c) ∧ lenL N ≤ c ∧ c ≤ maxLen ∧ Fr w' w.heap.size w'.heap.size A (lenL N) N ∧ Below w.heap.size w w'

theorem quiet_same {P : Program} {f : FuncId} {args : Array Value} {w : World} {n : Nat} {v : Value}
    (h : Calls P f args (w.drewN n) fun e w' => e = .returned v ∧ w.drewN n = w') : Calls P f args (w.drewN n) fun e w'' => e = .returned v ∧ ∃ m, w'' = w.drewN m :=
  h.mono fun _ _ ⟨he, hm⟩ => ⟨he, n, hm.symm⟩

def sameB (n n' N M : Nat) : Bool := decide (n = n' ∧ N = M)

theorem digs_all {n N M : Nat} (hN : N < Bw ^ n) (hM : M < Bw ^ n) (h : ∀ j, j < n → dig N j = dig M j) : N = M := eq_of_digs hN hM h

theorem below_drewN {w W : World} {B : Nat} (h : Below B w W) (q : Nat) : Below B w (W.drewN q) := ⟨h.os, h.tape, h.output, h.size, h.block⟩

/-- -1, 0, 1. -/
def cmpN (N N' : Nat) : Int := if N < N' then -1 else if N' < N then 1 else 0
theorem cmpN_lt {N N' : Nat} (h : N < N') : cmpN N N' = -1 := by simp [cmpN, h]
theorem cmpN_gt {N N' : Nat} (h : N' < N) : cmpN N N' = 1 := by unfold cmpN; rw [if_neg (by omega), if_pos h]
theorem cmpN_eq (N : Nat) : cmpN N N = 0 := by simp [cmpN]

theorem Rds.lit {w : World} {t : TypeId} {cs : Array Value} {l : List Num} (hcs : ∀ k (h : k < l.length), cs[k]? = some (.slice l[k].A l[k].n l[k].c)) (hok : ∀ x ∈ l, x.ok w w.heap.size) :
    Rds (w.alloc (.cells cs t)) (w.heap.size + 1) (some ⟨w.heap.size, 0, none⟩) l := fun k hk =>
  ⟨⟨_, rfl, by simp, by
    have h := World.alloc_heap_new' w (.cells cs t)
    rw [add_new]
    simp only [World.cell?, h]
    simpa using hcs k hk⟩, ((hok _ (List.getElem_mem hk)).below ((Below.refl _ _).alloc (Nat.le_refl _) _)).more (by omega)⟩
theorem Rds.two {w : World} {t : TypeId} {x y : Num} (hx : x.ok w w.heap.size) (hy : y.ok w w.heap.size) :
    Rds (w.alloc (.cells #[.slice x.A x.n x.c, .slice y.A y.n y.c] t)) (w.alloc (.cells #[.slice x.A x.n x.c, .slice y.A y.n y.c] t)).heap.size (some ⟨w.heap.size, 0, none⟩) [x, y] := by
  rw [World.size_alloc]
  refine Rds.lit (fun k hk => ?_) (fun z hz => ?_)
  · match k, hk with
    | 0, _ => rfl
    | 1, _ => rfl
  · simp only [List.mem_cons, List.not_mem_nil, or_false] at hz
    rcases hz with rfl | rfl <;> assumption
theorem Rds.one {w : World} {t : TypeId} {x : Num} (hx : x.ok w w.heap.size) :
    Rds (w.alloc (.cells #[.slice x.A x.n x.c] t)) (w.alloc (.cells #[.slice x.A x.n x.c] t)).heap.size (some ⟨w.heap.size, 0, none⟩) [x] := by
  rw [World.size_alloc]
  refine Rds.lit (fun k hk => ?_) (fun z hz => ?_)
  · match k, hk with
    | 0, _ => rfl
  · simp only [List.mem_cons, List.not_mem_nil, or_false] at hz
    subst hz; assumption

/-- A number that has been handed back may be handed on. -/
theorem Fr.ok {w' : World} {lo c N : Nat} {A : Option Addr} (h : Fr w' lo w'.heap.size A (lenL N) N) (hc : lenL N ≤ c) (hm : c ≤ maxLen) (hl : lenL N ≤ 35184372087808) : (Num.mk A (lenL N) c N).ok w' w'.heap.size := ⟨h.rd, hc, hm, hl⟩

theorem one_limb (w : World) {N g : Nat} {v : Int} (hv : v = (N : Int)) (hg : w.heap.size = g) (hN : N < 4294967296) : (Num.mk (some ⟨g, 0, none⟩) 1 1 N).ok (w.alloc (.cells #[.int .u32 v] 47)) (w.alloc (.cells #[.int .u32 v] 47)).heap.size := by
  subst hv hg
  refine ⟨?_, Nat.le_refl _, by simp [maxLen], by simp⟩
  rw [World.size_alloc]
  refine (Fr.lit (lo := 0) (Nat.zero_le _) (by simpa [Bw] using hN) (fun j hj => ?_)).rd
  have hj : j < 1 := hj
  obtain rfl : j = 0 := by omega
  simp [dig, Bw, Nat.mod_eq_of_lt hN]

theorem Gives.alloc {w w' : World} {o : Obj} {N : Nat} {e : Ending} (h : Gives (w.alloc o) N e w') : Gives w N e w' := by
  obtain ⟨A, c, he, h1, h2, h3, h4⟩ := h
  rw [World.size_alloc] at h3 h4
  exact ⟨A, c, he, h1, h2, h3.from (by omega), ((Below.refl _ w).alloc (Nat.le_refl _) o).trans (h4.mono (by omega))⟩
theorem Num.ok.alloc {w : World} {x : Num} (h : x.ok w w.heap.size) (o : Obj) : x.ok (w.alloc o) (w.alloc o).heap.size :=
  (h.below ((Below.refl _ _).alloc (Nat.le_refl _) _)).more (by simp)
theorem Num.ok.later {w w' : World} {x : Num} (h : x.ok w w.heap.size) (hb : Below w.heap.size w w') : x.ok w' w'.heap.size := (h.below hb).more hb.size

/-- Nothing that lay in w has turned, and the numbers of l lie in W. -/
def Env (w : World) (l : List Num) (W : World) : Prop := Below w.heap.size w W ∧ ∀ x ∈ l, x.ok W W.heap.size
section
variable {w W : World} {l : List Num} {x y z : Num}
theorem Env.start (h : ∀ x ∈ l, x.ok w w.heap.size) : Env w l w := ⟨Below.refl _ _, h⟩
theorem Env.step {W' : World} (h : Env w l W) (hb : Below W.heap.size W W') : Env w l W' := ⟨h.1.trans (hb.mono h.1.size), fun x hx => (h.2 x hx).later hb⟩
theorem Env.alloc (h : Env w l W) (o : Obj) : Env w l (W.alloc o) := h.step ((Below.refl _ _).alloc (Nat.le_refl _) _)
theorem Env.add (h : Env w l W) (hx : x.ok W W.heap.size) : Env w (x :: l) W := ⟨h.1, fun y hy => by
  rcases List.mem_cons.1 hy with rfl | hy
  · exact hx
  · exact h.2 y hy⟩

theorem big (h : x.n ≤ 35184372087808) : x.n ≤ 9223372036854775806 := by omega

/-- A number is handed back, of the call's own, in blocks from lo on. -/
def Back (w : World) (l : List Num) (lo N : Nat) (f : Num → Value) (e : Ending) (W' : World) : Prop :=
  ∃ r : Num, e = .returned (f r) ∧ r.N = N ∧ r.n = lenL N ∧ Env w (r :: l) W' ∧ Fr W' lo W'.heap.size r.A r.n r.N

theorem back_of_gives {N : Nat} {e : Ending} {W' : World} (h : Env w l W) (hg : Gives W N e W') (hN : lenL N ≤ 35184372087808) : Back w l W.heap.size N (fun r => .slice r.A r.n r.c) e W' := by
  obtain ⟨A, c, he, hc, hm, hF, hb⟩ := hg
  exact ⟨⟨A, lenL N, c, N⟩, he, rfl, rfl, (h.step hb).add (hF.ok hc hm hN), hF⟩

theorem lenL_add {N M n : Nat} (h1 : N < Bw ^ n) (h2 : M < Bw ^ n) : lenL (N + M) ≤ n + 1 := by
  rw [lenL_le, Nat.pow_succ, Bw_eq]
  have : (4294967296 : Nat) ^ n = Bw ^ n := rfl
  rw [this]
  omega
theorem lt_pow_of {N n m : Nat} (h : N < Bw ^ n) (hm : n ≤ m) : N < Bw ^ m := Nat.lt_of_lt_of_le h (Nat.pow_le_pow_right Bw_pos hm)
theorem sum_len (h : Env w l W) (hx : x ∈ l) (hy : y ∈ l) {b : Nat} (h1 : x.n ≤ b) (h2 : y.n ≤ b) : lenL (x.N + y.N) ≤ b + 1 :=
  lenL_add (lt_pow_of (h.2 x hx).1.1 h1) (lt_pow_of (h.2 y hy).1.1 h2)

end

/-- A difference that is the call's own is handed back. -/
def GivesS (w : World) (N : Nat) (e : Ending) (w' : World) : Prop :=
  ∃ A c, e = .returned (.tuple #[.slice A (lenL N) c, .int .i64 0]) ∧ lenL N ≤ c ∧ c ≤ maxLen ∧ Fr w' w.heap.size w'.heap.size A (lenL N) N ∧ Below w.heap.size w w'

theorem rTrim_end {w W' : World} {N m : Nat} {v' : Value} (hm : m = lenL N)
    (hown : W'.ownsRow w.heap.size 47 1 v' (0 + m) ([] ++ limbs N m)) (hg : (w.alloc (.cells #[] 47)).grownBy W' (some w.heap.size)) : Gives w N (.returned v') W' := by
  subst hm
  rw [Nat.zero_add, List.nil_append] at hown
  obtain ⟨A, c, rfl, h1, h2, h3⟩ := Fr.of_own hown (lt_pow_lenL N) (fun j hj => limbs_at hj)
  exact ⟨A, c, rfl, h1, h2, h3, ((Below.refl _ w).alloc (Nat.le_refl _) _).grown hg (by simp) (fun k e => by cases e; exact Nat.le_refl _)⟩

theorem limbs_read' {W : World} {A : Option Addr} {n N k : Nat} (h : Rd W W.heap.size A n N) (hk : k ≤ n) : ∀ j u, (limbs N k)[j]? = some u → ∃ ad : Addr, A = some ad ∧ (W.alloc (.cells #[] 47)).cell? (ad.add j) = some u := fun j u hu => by
  obtain ⟨hj, rfl⟩ := limbs_get hu
  obtain ⟨ad, e, hb, hc⟩ := (h.below (Below.alloc (Below.refl _ W) (Nat.le_refl _) (.cells #[] 47))).at_ (k := j) (by omega)
  exact ⟨ad, e, hc⟩

/-- A count downwards: at -1 it is over; at place j, j + 1 are left. -/
def DownAt (P : Nat → Prop) (v : Value) : Prop := (v = .int .i64 (-1) ∧ P 0) ∨ ∃ j : Nat, j ≤ 9223372036854775805 ∧ v = .int .i64 j ∧ P (j + 1)
theorem downAt {P : Nat → Prop} (n : Nat) (hn : n ≤ 9223372036854775806) (h : P n) : DownAt P (.int .i64 ((n : Int) - 1)) := by
  rcases n with _ | n
  · exact .inl ⟨rfl, h⟩
  · exact .inr ⟨n, by omega, by simp, h⟩

theorem limbs_succ (N k : Nat) : limbs N k ++ [.int .u32 (dig N k : Nat)] = limbs N (k + 1) := by simp [limbs, List.range_succ]
theorem one_read (W : World) (t : TypeId) (v : Value) : ∀ j u, [v][j]? = some u → ∃ ad : Addr, (some ⟨W.heap.size, 0, none⟩ : Option Addr) = some ad ∧ (W.alloc (.cells #[v] t)).cell? (ad.add j) = some u := fun j u hu => by
  have hj : j = 0 := by
    rcases j with _ | j
    · rfl
    · simp at hu
  subst hj
  simp only [List.getElem?_cons_zero, Option.some.injEq] at hu
  subst hu
  refine ⟨_, rfl, ?_⟩
  have h := World.alloc_heap_new' W (.cells #[v] t)
  rw [add_new]
  simp only [World.cell?, h]
  rfl
theorem own_step {w wr w1 : World} {e : TypeId} {v v' : Value} {k N t : Nat} {vs : Value} (hb : Below w.heap.size w wr) (hown : wr.ownsRow w.heap.size e 1 v k (limbs N k)) (hv : vs = .int .u32 (dig N k : Nat))
    (hown' : w1.ownsRow w.heap.size e 1 v' (k + 1) (limbs N k ++ [vs])) (hg : (wr.alloc (.cells #[vs] t)).grownBy w1 v.ownBlock) : w1.ownsRow w.heap.size e 1 v' (k + 1) (limbs N (k + 1)) ∧ Below w.heap.size w w1 := by
  subst hv
  rw [limbs_succ] at hown'
  exact ⟨hown', (hb.alloc hb.size _).grown hg (by rw [World.size_alloc]; have := hb.size; omega) (fun q hq => (hown.lt q hq).1)⟩
theorem Gives.later {w w1 w' : World} {N : Nat} {e : Ending} (hb : Below w.heap.size w w1) (h : Gives w1 N e w') : Gives w N e w' := by
  obtain ⟨A, c, he, h1, h2, h3, h4⟩ := h
  exact ⟨A, c, he, h1, h2, h3.from hb.size, hb.trans (h4.mono hb.size)⟩

theorem oneCell_u32 (x : Int) : ∀ u ∈ [Value.int .u32 x], u.oneCell' = true := by
  intro u hu
  simp only [List.mem_cons, List.not_mem_nil, or_false] at hu
  subst hu
  rfl

theorem dig_of_u64 {N : Nat} (h : N < 18446744073709551616) : N < Bw ^ 2 ∧ ∀ j, j < 2 → (#[Value.int .u32 ((N : Int) % 4294967296), Value.int .u32 ((N : Int) / 4294967296)] : Array Value)[j]? = some (.int .u32 (dig N j : Nat)) := by
  refine ⟨by simpa [Bw] using h, fun j hj => ?_⟩
  have h2 : j = 0 ∨ j = 1 := by omega
  rcases h2 with rfl | rfl
  · simp [dig, Bw]
  · have : (N : Int) / 4294967296 = (dig N 1 : Nat) := by
      have : N / 4294967296 < 4294967296 := Nat.div_lt_of_lt_mul (by omega)
      simp only [dig, Bw, Nat.pow_one]
      rw [Nat.mod_eq_of_lt this]
      simp
    simp [this]
theorem lenL_small {N : Nat} : lenL N ≤ 2 ↔ N < 18446744073709551616 := by rw [lenL_le]; simp [Bw]
end Go.Proofs.YtaancfhbmjkoaaaGreatDoor

/- A row of limbs that the call has made, and writes limb by limb: what it reads as. No function of the program. -/
namespace Go.Proofs.YtaancfhbmjkoaaaGreatDoor
open Go Go.RowKit

theorem mod_full {N n : Nat} (h : N < Bw ^ n) : N % Bw ^ n = N := Nat.mod_eq_of_lt h

/-- One limb of a number set. -/
theorem set_dig {O m p x : Nat} (hO : O < Bw ^ m) (hp : p < m) (hx : x < Bw) : ∃ O', O' < Bw ^ m ∧ (∀ j, dig O' j = if j = p then x else dig O j) ∧ O' + dig O p * Bw ^ p = O + x * Bw ^ p := by
  obtain ⟨O', h1, h2⟩ := num_of_limbs m (fun j => if j = p then x else dig O j) (fun j hj => by
    split
    · exact hx
    · exact dig_lt O j)
  have key : ∀ k, k ≤ m → O' % Bw ^ k + (if p < k then dig O p * Bw ^ p else 0) = O % Bw ^ k + (if p < k then x * Bw ^ p else 0) := by
    intro k
    induction k with
    | zero => intro _; simp [Nat.mod_one]
    | succ k ih =>
      intro hk
      have ih := ih (by omega)
      have hd := h2 k (by omega)
      rw [mod_succ, mod_succ, ← hd]
      by_cases e : k = p
      · subst e
        rw [if_neg (by omega), if_neg (by omega)] at ih
        rw [if_pos rfl, if_pos (by omega), if_pos (by omega), Nat.mul_comm (Bw ^ k) x, Nat.mul_comm (Bw ^ k) (dig O k)]
        omega
      · rw [if_neg e]
        by_cases e2 : p < k
        · rw [if_pos e2, if_pos e2] at ih
          rw [if_pos (by omega), if_pos (by omega)]
          omega
        · rw [if_neg e2, if_neg e2] at ih
          rw [if_neg (by omega), if_neg (by omega)]
          omega
  refine ⟨O', h1, fun j => ?_, ?_⟩
  · by_cases hj : j < m
    · exact (h2 j hj).symm
    · rw [dig_ge h1 (by omega), if_neg (by omega), dig_ge hO (by omega)]
  · have := key m (Nat.le_refl _)
    rwa [mod_full h1, mod_full hO, if_pos hp, if_pos hp] at this

/-- The cells of block g, from the first one on, hold the limbs of O. -/
def Buf (W : World) (g n O : Nat) : Prop := ∀ j, j < n → W.cell? ⟨g, j, none⟩ = some (.int .u32 (dig O j : Nat)) ∧ W.frozen? ⟨g, j, none⟩ = false
theorem Buf.set {W : World} {g n O m p x : Nat} (h : Buf W g n O) (hO : O < Bw ^ m) (hp : p < m) (hx : x < 4294967296) :
    ∃ O', Buf (W.setCell ⟨g, p, none⟩ (.int .u32 x)) g n O' ∧ O' < Bw ^ m ∧ O' + dig O p * Bw ^ p = O + x * Bw ^ p := by
  obtain ⟨O', h1, h2, h3⟩ := set_dig hO hp (by rw [Bw_eq]; exact hx)
  refine ⟨O', fun j hj => ?_, h1, h3⟩
  obtain ⟨c1, c2⟩ := h j hj
  refine ⟨?_, by rw [World.frozen?_setCell]; exact c2⟩
  rw [h2]
  by_cases e : j = p
  · subst e
    rw [if_pos rfl]
    exact World.cell?_setCell_same' _ _ _ (by rw [c1]; rfl)
  · rw [if_neg e, World.cell?_setCell_other W ⟨g, p, none⟩ ⟨g, j, none⟩ _ (by first | (simp; done) | (simp; omega)), c1]
theorem Buf.drew {W : World} {g n O : Nat} (h : Buf W g n O) (q : Nat) : Buf (W.drewN q) g n O := h
theorem Buf.rd {W : World} {g n O : Nat} (h : Buf W g n O) (hO : O < Bw ^ n) (hg : 0 < n → g < W.heap.size) : Rd W W.heap.size (some ⟨g, 0, none⟩) n O :=
  ⟨hO, fun hn => ⟨⟨g, 0, none⟩, rfl, hg hn, fun j hj => by rw [add_new]; exact (h j hj).1⟩⟩
theorem Buf.of_fr {W : World} {lo hi g n O : Nat} (h : Fr W lo hi (some ⟨g, 0, none⟩) n O) : Buf W g n O := fun j hj => by
  obtain ⟨g', e, _, _, hc⟩ := h.2 (by omega)
  cases e
  exact hc j hj

theorem made_any (w : World) (n : Nat) (hn : n ≤ 35184372087810) : ∃ w1, (Instr.makeSlice 23 (.int .i64 (n : Int)) (.int .i64 (n : Int))).run Tryz.prog w = .ok (.slice (some ⟨w.heap.size, 0, none⟩) n n) w1 ∧
    Fr w1 w.heap.size (w.heap.size + 1) (some ⟨w.heap.size, 0, none⟩) n 0 ∧ Below w.heap.size w w1 ∧ w1.heap.size = w.heap.size + 1 := by
  obtain ⟨i0, hi, hz0, hz1, hz2⟩ := info_parts info_u32
  have h := run_make (P := Tryz.prog) w 23 47 i0 (.int .u32 0) Tryz.underlying23 hi hz0 .i64 .i64 n n (by omega) (Int.le_refl _) (by rw [hz2]; omega) (by omega)
  simp only [Int.toNat_natCast] at h
  refine ⟨_, h, Fr.lit (Nat.le_refl _) (pow_pos_Bw _) (fun j hj => ?_), (Below.refl _ _).alloc (Nat.le_refl _) _, by simp⟩
  have e : (Value.int .u32 0).cells = #[.int .u32 0] := rfl
  have e2 := toList_madeCells_one (.int .u32 0) (n * i0.size)
  rw [e, dig_zero, ← Array.getElem?_toList, e2, hz1]
  simp [hj]
end Go.Proofs.YtaancfhbmjkoaaaGreatDoor

/- Products limb by limb, as numbers. No function of the program. -/
namespace Go.Proofs.YtaancfhbmjkoaaaGreatDoor
open Go Go.RowKit

theorem pow_add_mul (i k : Nat) : Bw ^ (i + k) = Bw ^ i * Bw ^ k := Nat.pow_add Bw i k
/-- One limb of a product more. -/
theorem mul_step {O O' v p d N M i k x : Nat} (hx : x = d * dig M k + dig O p + v) (hs : O' + dig O p * Bw ^ p = O + x % 4294967296 * Bw ^ p) (hp : p = i + k)
    (h : O + v * Bw ^ p = N + d * Bw ^ i * (M % Bw ^ k)) : O' + x / 4294967296 * Bw ^ (p + 1) = N + d * Bw ^ i * (M % Bw ^ (k + 1)) := by
  subst hp
  have e1 : x / 4294967296 * Bw ^ (i + k + 1) + x % 4294967296 * Bw ^ (i + k) = x * Bw ^ (i + k) := by
    rw [Nat.pow_succ, ← Nat.mul_assoc, Nat.mul_right_comm, ← Nat.add_mul]
    congr 1
    rw [Bw_eq]; omega
  have e2 : x * Bw ^ (i + k) = d * dig M k * Bw ^ (i + k) + dig O (i + k) * Bw ^ (i + k) + v * Bw ^ (i + k) := by rw [hx, Nat.add_mul, Nat.add_mul]
  have e3 : d * Bw ^ i * (M % Bw ^ (k + 1)) = d * Bw ^ i * (M % Bw ^ k) + d * dig M k * Bw ^ (i + k) := by
    rw [mod_succ, Nat.mul_add, pow_add_mul]
    congr 1
    ac_rfl
  omega
/-- One row of a product more: the limb behind it was nought. -/
theorem mul_row {O O' v p N M n' i : Nat} (hs : O' + dig O p * Bw ^ p = O + v * Bw ^ p) (h0 : O < Bw ^ p) (hM : M < Bw ^ n') (h : O + v * Bw ^ p = N % Bw ^ i * M + dig N i * Bw ^ i * (M % Bw ^ n')) : O' = N % Bw ^ (i + 1) * M := by
  rw [dig_ge h0 (Nat.le_refl _), Nat.zero_mul, Nat.add_zero] at hs
  rw [hs, h, mod_full hM, mod_succ, Nat.add_mul, Nat.mul_comm (dig N i) (Bw ^ i)]

theorem prod_lt {N M n n' : Nat} (h : N < Bw ^ n) (h' : M < Bw ^ n') : N * M < Bw ^ (n + n') := by
  rw [pow_add_mul]
  exact Nat.mul_lt_mul'' h h'
end Go.Proofs.YtaancfhbmjkoaaaGreatDoor

/- Numbers at hand: a limb more, nought; answers that are the same. No function of the program. -/
namespace Go.Proofs.YtaancfhbmjkoaaaGreatDoor
open Go Go.RowKit

theorem lenL_pos {N : Nat} (h : N ≠ 0) : 0 < lenL N := by
  have := mt lenL_eq_zero.1 h
  omega
theorem same_of {r s : Num} (h : r.N = s.N) (h1 : r.n = lenL r.N) (h2 : s.n = lenL s.N) : sameB r.n s.n r.N s.N = true := by rw [h1, h2, h]; simp [sameB]
theorem Env.pick {w W : World} {e e' : List Num} (h : Env w e W) (hs : ∀ z ∈ e', z ∈ e) : Env w e' W := ⟨h.1, fun z hz => h.2 z (hs z hz)⟩
theorem cmpN_ge {N M : Nat} (h : M ≤ N) : 0 ≤ cmpN N M := by unfold cmpN; rw [if_neg (by omega)]; split <;> omega
theorem tells_same {n n' N N' D : Nat} (h1 : N = D) (h2 : n = lenL D) (h3 : N' = D) (h4 : n' = lenL D) : sameB n n' N N' = true := by subst h1 h3 h2 h4; simp [sameB]
theorem Rds.env {w W : World} {e l : List Num} {A : Option Addr} (hR : Rds w w.heap.size A l) (h : Env w e W) : Rds W W.heap.size A l := (hR.below h.1).more h.1.size
theorem Fr.setCell {W : World} {lo hi g p n N : Nat} {A : Option Addr} (h : Fr W lo hi A n N) (hg : g < lo) (v : Value) : Fr (W.setCell ⟨g, p, none⟩ v) lo hi A n N :=
  ⟨h.1, fun hn => by
    obtain ⟨g', e, h1, h2, h3⟩ := h.2 hn
    refine ⟨g', e, h1, h2, fun j hj => ⟨?_, by rw [World.frozen?_setCell]; exact (h3 j hj).2⟩⟩
    rw [World.cell?_setCell_other W ⟨g, p, none⟩ ⟨g', j, none⟩ _ (by first | (simp; done) | (simp; omega)), (h3 j hj).1]⟩
theorem gives_of_back {w W' : World} {l : List Num} {lo N : Nat} {e : Ending} (h : Back w l lo N (fun r => .slice r.A r.n r.c) e W') (hlo : w.heap.size ≤ lo) : Gives w N e W' := by
  obtain ⟨⟨A, n, c, N'⟩, he, hN, hn, hE, hF⟩ := h
  have hN' : N' = N := hN
  have hn' : n = lenL N := hn
  subst hN' hn'
  obtain ⟨_, h2, h3, _⟩ := hE.2 _ (List.mem_cons_self ..)
  exact ⟨A, c, he, h2, h3, hF.from hlo, hE.1⟩
theorem Env.lit {w W : World} {e : List Num} {N g : Nat} {v : Int} (h : Env w e W) (hv : v = (N : Int)) (hg : W.heap.size = g) (hN : N < 4294967296) :
    Env w (⟨some ⟨g, 0, none⟩, 1, 1, N⟩ :: e) (W.alloc (.cells #[.int .u32 v] 47)) := (h.alloc _).add (one_limb W hv hg hN)
theorem Env.nought {w W : World} {e : List Num} (h : Env w e W) : Env w (⟨none, 0, 0, 0⟩ :: e) W := h.add ⟨Rd.none_, Nat.le_refl _, by simp [maxLen], by simp⟩
/-- Two limbs of a number of the call's own. -/
theorem two_cells {W : World} {g N hi : Nat} {a b : Int} (h : Rd W hi (some ⟨g, 0, none⟩) 2 N) (ha : ((dig N 0 : Nat) : Int) = a) (hb : ((dig N 1 : Nat) : Int) = b) : W.cell? ⟨g, 0, none⟩ = some (.int .u32 a) ∧ W.cell? ⟨g, 1, none⟩ = some (.int .u32 b) := by
  obtain ⟨ad, e, _, hc⟩ := h.2 (by simp)
  cases e
  have h0 := hc 0 (by simp)
  have h1 := hc 1 (by simp)
  rw [add_new, ha] at h0
  rw [add_new, hb] at h1
  exact ⟨h0, h1⟩
section
variable {w W : World} {e : List Num} {x y z : Num}
theorem mul_len {N M n m : Nat} (h : N < Bw ^ n) (h' : M < Bw ^ m) : lenL (N * M) ≤ n + m := lenL_le.2 (prod_lt h h')
theorem row3 (h : Env w e W) (hx : x ∈ e) (hy : y ∈ e) (hz : z ∈ e) : Rds (W.alloc (.cells #[.slice x.A x.n x.c, .slice y.A y.n y.c, .slice z.A z.n z.c] 23)) (W.heap.size + 1) (some ⟨W.heap.size, 0, none⟩) [x, y, z] := by
  refine Rds.lit (fun k hk => ?_) (fun u hu => ?_)
  · match k, hk with
    | 0, _ => rfl
    | 1, _ => rfl
    | 2, _ => rfl
  · simp only [List.mem_cons, List.not_mem_nil, or_false] at hu
    rcases hu with rfl | rfl | rfl <;> (apply h.2; assumption)
end
end Go.Proofs.YtaancfhbmjkoaaaGreatDoor

/- Quotients, rests, how often: as numbers. No function of the program. -/
namespace Go.Proofs.YtaancfhbmjkoaaaGreatDoor
open Go Go.RowKit

/-- The rest; by nought: nought. -/
def restN (N M : Nat) : Nat := if M = 0 then 0 else N % M
/-- The error's number. -/
def zeroE (M : Nat) : Int := if M = 0 then 30 else 0
theorem restN_zero (N : Nat) : restN N 0 = 0 := rfl
theorem restN_pos {N M : Nat} (h : M ≠ 0) : restN N M = N % M := by simp [restN, h]
theorem zeroE_zero : zeroE 0 = 30 := rfl
theorem zeroE_pos {M : Nat} (h : M ≠ 0) : zeroE M = 0 := by simp [zeroE, h]
theorem restN_lt {N M : Nat} (h : M ≠ 0) : restN N M < M := by rw [restN_pos h]; exact Nat.mod_lt _ (by omega)
theorem restN_le (N M : Nat) : restN N M ≤ N := by
  unfold restN
  split
  · omega
  · exact Nat.mod_le _ _
theorem back_of_quot (N : Nat) {M : Nat} (h : M ≠ 0) : N / M * M + restN N M = N := by rw [restN_pos h, Nat.mul_comm]; exact Nat.div_add_mod N M
/-- How often, one behind the other, without a rest. -/
def TimesIs (N M k : Nat) : Prop := (N = 0 ∨ M < 2 → k = 0) ∧ (N ≠ 0 → 2 ≤ M → M ^ k ∣ N ∧ ¬ M ^ (k + 1) ∣ N)

theorem times_12 {k : Nat} (h : TimesIs 12 2 k) : k = 2 := by
  obtain ⟨h1, h2⟩ := h.2 (by omega) (by omega)
  rcases Nat.lt_or_ge k 4 with hk | hk
  · match k, hk with
    | 0, _ => exact absurd (show 2 ^ (0 + 1) ∣ 12 by decide) h2
    | 1, _ => exact absurd (show 2 ^ (1 + 1) ∣ 12 by decide) h2
    | 2, _ => rfl
    | 3, _ => exact absurd h1 (by decide)
  · have h3 : (2 : Nat) ^ 4 ≤ 2 ^ k := Nat.pow_le_pow_right (by omega) hk
    have := Nat.le_of_dvd (by omega) h1
    omega
/-- A limb of a number of one limb. -/
theorem one_cell {W : World} {hi N n : Nat} {A : Option Addr} (h : Rd W hi A n N) (hn : n = 1) : ∃ g, A = some g ∧ W.cell? g = some (.int .u32 (N : Nat)) := by
  subst hn
  obtain ⟨ad, e, _, hc⟩ := h.at_ (k := 0) (by omega)
  have h1 := h.1
  refine ⟨ad, e, ?_⟩
  have h2 : ad.add 0 = ad := by unfold Addr.add; split <;> simp_all
  rw [h2] at hc
  rw [hc, show dig N 0 = N from by rw [Nat.pow_one, Bw_eq] at h1; simp [dig, Bw_eq, Nat.mod_eq_of_lt h1]]
end Go.Proofs.YtaancfhbmjkoaaaGreatDoor

/- Products of rows of numbers, powers, as numbers. No function of the program. -/
namespace Go.Proofs.YtaancfhbmjkoaaaGreatDoor
open Go Go.RowKit

/-- A number of the call's own lies in a place. -/
def Has (w : World) (N : Nat) (v : Value) (w' : World) : Prop :=
  ∃ A c, v = .slice A (lenL N) c ∧ lenL N ≤ c ∧ c ≤ maxLen ∧ Fr w' w.heap.size w'.heap.size A (lenL N) N ∧ Below w.heap.size w w'
theorem Has.gives {w w' : World} {N : Nat} {v : Value} (h : Has w N v w') : Gives w N (.returned v) w' := by
  obtain ⟨A, c, rfl, h1, h2, h3, h4⟩ := h
  exact ⟨A, c, rfl, h1, h2, h3, h4⟩
theorem len_one : lenL 1 = 1 := by decide
theorem Has.one (w : World) (t : TypeId) : Has w 1 (.slice (some ⟨w.heap.size, 0, none⟩) 1 1) (w.alloc (.cells #[.int .u32 1] t)) := by
  refine ⟨some ⟨w.heap.size, 0, none⟩, 1, by rw [len_one], by rw [len_one]; omega, by simp [maxLen], ?_, (Below.refl _ _).alloc (Nat.le_refl _) _⟩
  rw [World.size_alloc, len_one]
  refine Fr.lit (Nat.le_refl _) (by decide) (fun j hj => ?_)
  obtain rfl : j = 0 := by omega
  rfl

/-- The product of all. -/
def prodN (l : List Num) : Nat := (l.map Num.N).prod
theorem prodN_append (l l' : List Num) : prodN (l ++ l') = prodN l * prodN l' := by simp [prodN]
def prodAt (l : List Num) (k : Nat) : Nat := prodN (l.take k)
theorem prodAt_zero (l : List Num) : prodAt l 0 = 1 := rfl
theorem prodAt_succ {l : List Num} {k : Nat} (h : k < l.length) : prodAt l (k + 1) = prodAt l k * l[k].N := by
  unfold prodAt
  rw [List.take_succ_eq_append_getElem h, prodN_append]
  simp [prodN]
theorem prodAt_all (l : List Num) : prodAt l l.length = prodN l := by unfold prodAt; rw [List.take_length]

theorem pow_len {N n : Nat} (h : N < Bw ^ n) (k : Nat) : lenL (N ^ k) ≤ n * k + 1 := by
  rw [lenL_le]
  have h1 : N ^ k ≤ (Bw ^ n) ^ k := Nat.pow_le_pow_left (by omega) k
  rw [← Nat.pow_mul] at h1
  have h2 : Bw ^ (n * k) < Bw ^ (n * k + 1) := by
    rw [Nat.pow_succ, Bw_eq]
    have := pow_pos_Bw (n * k)
    rw [Bw_eq] at this
    omega
  omega
end Go.Proofs.YtaancfhbmjkoaaaGreatDoor

/- How many bits a number has. No function of the program. -/
namespace Go.Proofs.YtaancfhbmjkoaaaGreatDoor
open Go Go.RowKit

/-- How many bits. -/
def bitsN (N : Nat) : Nat := if N = 0 then 0 else N.log2 + 1
theorem bitsN_zero : bitsN 0 = 0 := rfl
theorem bitsN_le {N k : Nat} : bitsN N ≤ k ↔ N < 2 ^ k := by
  unfold bitsN
  split
  · next h => subst h; simp [Nat.two_pow_pos]
  · next h => rw [← Nat.log2_lt h]; omega
theorem bitsN_eq {N k : Nat} (h1 : 2 ^ k ≤ N) (h2 : N < 2 ^ (k + 1)) : bitsN N = k + 1 := by
  have a := bitsN_le.2 h2
  have b : ¬ bitsN N ≤ k := fun h => by have := bitsN_le.1 h; omega
  omega

def half (d s : Nat) : Nat := d / 2 ^ s
theorem half_zero (d : Nat) : half d 0 = d := by simp [half]
theorem half_succ (d s : Nat) : half d s / 2 = half d (s + 1) := by unfold half; rw [Nat.pow_succ, Nat.div_div_eq_div_mul]
theorem half_pos {d s : Nat} (hd : d < 4294967296) (h : half d s ≠ 0) : s < 32 := by
  rcases Nat.lt_or_ge s 32 with h1 | h1
  · exact h1
  · have : (2 : Nat) ^ 32 ≤ 2 ^ s := Nat.pow_le_pow_right (by omega) h1
    exact absurd (Nat.div_eq_of_lt (by omega : d < 2 ^ s)) h
theorem half_le (d s : Nat) : half d s ≤ d := Nat.div_le_self _ _

theorem bits_of {N m s : Nat} (hm : lenL N = m + 1) (h0 : half (dig N m) s = 0) (h1 : s = 0 ∨ half (dig N m) (s - 1) ≠ 0) : bitsN N = 32 * m + s := by
  have hd := dig_top hm
  have hN : N < Bw ^ (m + 1) := by have := lt_pow_lenL N; rwa [hm] at this
  have hs : s ≠ 0 := fun e => hd (by rw [e, half_zero] at h0; exact h0)
  obtain ⟨t, rfl⟩ : ∃ t, s = t + 1 := ⟨s - 1, by omega⟩
  rw [Nat.add_sub_cancel] at h1
  have h2 : half (dig N m) t ≠ 0 := h1.resolve_left (by omega)
  have l1 : 2 ^ t ≤ dig N m := by
    rcases Nat.lt_or_ge (dig N m) (2 ^ t) with h | h
    · exact absurd (Nat.div_eq_of_lt h) h2
    · exact h
  have l2 : dig N m < 2 ^ (t + 1) := by
    rcases Nat.lt_or_ge (dig N m) (2 ^ (t + 1)) with h | h
    · exact h
    · have : 0 < dig N m / 2 ^ (t + 1) := Nat.div_pos h (Nat.two_pow_pos _)
      unfold half at h0; omega
  have e : N = N % Bw ^ m + Bw ^ m * dig N m := by rw [← mod_succ, Nat.mod_eq_of_lt hN]
  have hlt : N % Bw ^ m < Bw ^ m := Nat.mod_lt _ (pow_pos_Bw m)
  obtain ⟨r, hr⟩ : ∃ r, N % Bw ^ m = r := ⟨_, rfl⟩
  rw [hr] at e hlt
  have hp : Bw ^ m = 2 ^ (32 * m) := Bw_pow m
  refine bitsN_eq (k := 32 * m + t) ?_ ?_
  · rw [Nat.pow_add, ← hp]
    have := Nat.mul_le_mul_left (Bw ^ m) l1
    omega
  · rw [show 32 * m + t + 1 = 32 * m + (t + 1) from by omega, Nat.pow_add, ← hp]
    have := Nat.mul_le_mul_left (Bw ^ m) (show dig N m + 1 ≤ 2 ^ (t + 1) from l2)
    rw [Nat.mul_add, Nat.mul_one] at this
    omega
end Go.Proofs.YtaancfhbmjkoaaaGreatDoor

/- Dividing limb by limb: what the steps are worth, as numbers. No function of the program. -/
namespace Go.Proofs.YtaancfhbmjkoaaaGreatDoor
open Go

/-- One limb of a row, taken so many times, has been taken away. -/
theorem take_step {O P P' t M i k p v b e x : Nat} (hx : x = v + t * dig M k) (he : e + x % 4294967296 = dig P p + b * 4294967296) (hs : P' + dig P p * Bw ^ p = P + e * Bw ^ p) (hp : p = i + k)
    (h : P + t * Bw ^ i * (M % Bw ^ k) = O + v * Bw ^ p) : P' + t * Bw ^ i * (M % Bw ^ (k + 1)) = O + (x / 4294967296 + b) * Bw ^ (p + 1) := by
  subst hp
  have e3 : t * Bw ^ i * (M % Bw ^ (k + 1)) = t * Bw ^ i * (M % Bw ^ k) + t * dig M k * Bw ^ (i + k) := by
    rw [mod_succ, Nat.mul_add, Nat.pow_add]
    congr 1
    ac_rfl
  have e4 : (x / 4294967296 + b) * Bw ^ (i + k + 1) = (x / 4294967296 * 4294967296) * Bw ^ (i + k) + b * 4294967296 * Bw ^ (i + k) := by
    rw [Nat.pow_succ, Bw_eq, Nat.add_mul]
    congr 1 <;> ac_rfl
  have e5 : x * Bw ^ (i + k) = v * Bw ^ (i + k) + t * dig M k * Bw ^ (i + k) := by rw [hx, Nat.add_mul]
  have e6 : x * Bw ^ (i + k) = (x / 4294967296 * 4294967296) * Bw ^ (i + k) + x % 4294967296 * Bw ^ (i + k) := by
    rw [← Nat.add_mul]; congr 1; omega
  have e7 : e * Bw ^ (i + k) + x % 4294967296 * Bw ^ (i + k) = dig P (i + k) * Bw ^ (i + k) + b * 4294967296 * Bw ^ (i + k) := by
    rw [← Nat.add_mul, he, Nat.add_mul]
  omega

/-- What a guess rests on: the three highest limbs of a window against the two highest of what it is divided by. -/
structure Top (U D Z H r0 t h l : Nat) : Prop where
  u : ∃ a, U = (H * 4294967296 + t) * Z + a ∧ a < Z
  d : ∃ a, D = (h * 4294967296 + l) * Z + a ∧ a < Z
  h1 : 0 < h
  h2 : h < 4294967296
  l2 : l < 4294967296
  t2 : t < 4294967296
  r : r0 = 0
  lt : U < D * 4294967296
variable {U D Z H t h l : Nat}

theorem Top.low (T : Top U D Z H 0 t h l) : (h * 4294967296 + l) * Z ≤ D := by
  obtain ⟨a, e, _⟩ := T.d
  omega
theorem Top.dpos (T : Top U D Z H 0 t h l) : 0 < D := by
  have := T.lt
  rcases Nat.eq_zero_or_pos D with h | h
  · subst h; omega
  · exact h
theorem Top.q_lt (T : Top U D Z H 0 t h l) : U / D < 4294967296 := by
  rw [Nat.div_lt_iff_lt_mul T.dpos, Nat.mul_comm]; exact T.lt
theorem Top.zpos (T : Top U D Z H 0 t h l) : 0 < Z := by
  obtain ⟨a, _, h⟩ := T.d
  omega
/-- The quotient, times the two highest limbs, is no more than the three highest. -/
theorem Top.q_le (T : Top U D Z H 0 t h l) : U / D * (h * 4294967296 + l) ≤ H * 4294967296 + t := by
  obtain ⟨a, e, ha⟩ := T.u
  have h1 : U / D * D ≤ U := Nat.div_mul_le_self U D
  have h2 : U / D * ((h * 4294967296 + l) * Z) ≤ U / D * D := Nat.mul_le_mul_left _ T.low
  rw [← Nat.mul_assoc] at h2
  have h3 : U / D * (h * 4294967296 + l) * Z < (H * 4294967296 + t + 1) * Z := by
    rw [Nat.add_mul (H * 4294967296 + t) 1 Z, Nat.one_mul]; omega
  have := Nat.lt_of_mul_lt_mul_right h3
  omega
theorem Top.first (T : Top U D Z H 0 t h l) : U / D ≤ H / h := by
  rw [Nat.le_div_iff_mul_le T.h1]
  have h1 := T.q_le
  rw [Nat.mul_add, ← Nat.mul_assoc] at h1
  have := T.t2
  omega
/-- A guess that passes is too great by one at the most. -/
theorem Top.last {q : Nat} (T : Top U D Z H 0 t h l) (hq : q * (h * 4294967296 + l) ≤ H * 4294967296 + t) (hb : q < 4294967297) : q ≤ U / D + 1 := by
  rcases Nat.eq_zero_or_pos q with h0 | h0
  · subst h0; exact Nat.zero_le _
  · obtain ⟨a, ea, ha⟩ := T.d
    obtain ⟨b, eb, _⟩ := T.u
    have h1 := T.h1
    obtain ⟨k, rfl⟩ : ∃ k, q = k + 1 := ⟨q - 1, by omega⟩
    suffices hs : k ≤ U / D by omega
    rw [Nat.le_div_iff_mul_le T.dpos, ea, Nat.mul_add, ← Nat.mul_assoc]
    rw [Nat.add_mul, Nat.one_mul] at hq
    have h2 : k * a ≤ 4294967295 * Z + Z := by
      have := Nat.mul_le_mul (show k ≤ 4294967296 by omega) (Nat.le_of_lt ha)
      omega
    have h3 : 4294967296 * Z ≤ (h * 4294967296 + l) * Z := Nat.mul_le_mul_right _ (by omega)
    have h4 := Nat.mul_le_mul_right Z hq
    rw [Nat.add_mul] at h4
    omega

/-- Between two guesses. -/
def Guess (U D H h q r : Nat) : Prop := H = q * h + r ∧ U / D ≤ q
theorem Top.start (T : Top U D Z H 0 t h l) : Guess U D H h (H / h) (H % h) := ⟨(Nat.div_add_mod' H h).symm, T.first⟩
theorem Top.next {q r : Nat} (T : Top U D Z H 0 t h l) (hg : Guess U D H h q r) (hm : 4294967295 < q ∨ r * 4294967296 + t < q * l) : 1 ≤ q ∧ Guess U D H h (q - 1) (r + h) ∧ r + h ≤ H := by
  obtain ⟨e, hq⟩ := hg
  have h0 : 1 ≤ q := by
    rcases hm with hm | hm
    · omega
    · rcases Nat.eq_zero_or_pos q with h | h
      · subst h; omega
      · exact h
  obtain ⟨k, rfl⟩ : ∃ k, q = k + 1 := ⟨q - 1, by omega⟩
  rw [Nat.add_mul, Nat.one_mul] at e
  refine ⟨h0, ⟨by rw [Nat.add_sub_cancel]; omega, ?_⟩, by omega⟩
  rw [Nat.add_sub_cancel]
  rcases Nat.lt_or_ge k (U / D) with h | h
  · exfalso
    have hqe : U / D = k + 1 := by omega
    rcases hm with hm | hm
    · have := T.q_lt
      omega
    · have h1 := T.q_le
      rw [hqe, Nat.mul_add, ← Nat.mul_assoc, Nat.add_mul k 1 _, Nat.one_mul, Nat.add_mul] at h1
      omega
  · exact h
theorem Top.stop {q r : Nat} (T : Top U D Z H 0 t h l) (hg : Guess U D H h q r) (hq : ¬ 4294967295 < q) (hm : 4294967295 < r ∨ q * l ≤ r * 4294967296 + t) : U / D ≤ q ∧ q ≤ U / D + 1 := by
  refine ⟨hg.2, T.last ?_ (by omega)⟩
  have e := hg.1
  have h2 : q * l ≤ r * 4294967296 + t := by
    rcases hm with hm | hm
    · have := Nat.mul_le_mul (show q ≤ 4294967295 by omega) (show l ≤ 4294967295 by have := T.l2; omega)
      omega
    · exact hm
  rw [Nat.mul_add, ← Nat.mul_assoc, e, Nat.add_mul]
  omega
theorem top_of {U D n : Nat} (hn : 2 ≤ n) (hU : U < Bw ^ (n + 1)) (hD : D < Bw ^ n) (h1 : dig D (n - 1) ≠ 0) (hlt : U < D * Bw) :
    Top U D (Bw ^ (n - 2)) (dig U n * 4294967296 + dig U (n - 1)) 0 (dig U (n - 2)) (dig D (n - 1)) (dig D (n - 2)) := by
  obtain ⟨m, rfl⟩ : ∃ m, n = m + 2 := ⟨n - 2, by omega⟩
  rw [show m + 2 - 1 = m + 1 by omega, show m + 2 - 2 = m by omega] at *
  have u0 := mod_full hU
  have d0 := mod_full hD
  rw [show m + 2 + 1 = (m + 2) + 1 from rfl, mod_succ, show m + 2 = (m + 1) + 1 from rfl, mod_succ, mod_succ] at u0
  rw [show m + 2 = (m + 1) + 1 from rfl, mod_succ, mod_succ] at d0
  refine ⟨⟨U % Bw ^ m, ?_, Nat.mod_lt _ (pow_pos_Bw m)⟩, ⟨D % Bw ^ m, ?_, Nat.mod_lt _ (pow_pos_Bw m)⟩, Nat.pos_of_ne_zero h1, dig_lt _ _, dig_lt _ _, dig_lt _ _, rfl, hlt⟩
  · rw [show Bw ^ (m + 1 + 1) = Bw ^ m * Bw * Bw from by rw [Nat.pow_succ, Nat.pow_succ], show Bw ^ (m + 1) = Bw ^ m * Bw from Nat.pow_succ _ _, Bw_eq] at u0
    rw [Nat.add_mul, Nat.add_mul, Nat.add_mul]
    rw [show m + 1 + 1 = m + 2 from rfl] at u0
    have e1 : 4294967296 ^ m * 4294967296 * 4294967296 * dig U (m + 2) = dig U (m + 2) * 4294967296 * 4294967296 * 4294967296 ^ m := by ac_rfl
    have e2 : 4294967296 ^ m * 4294967296 * dig U (m + 1) = dig U (m + 1) * 4294967296 * 4294967296 ^ m := by ac_rfl
    have e3 : 4294967296 ^ m * dig U m = dig U m * 4294967296 ^ m := Nat.mul_comm _ _
    rw [e1, e2, e3] at u0
    rw [Bw_eq]
    omega
  · rw [show Bw ^ (m + 1) = Bw ^ m * Bw from Nat.pow_succ _ _, Bw_eq] at d0
    rw [Nat.add_mul]
    have e2 : 4294967296 ^ m * 4294967296 * dig D (m + 1) = dig D (m + 1) * 4294967296 * 4294967296 ^ m := by ac_rfl
    have e3 : 4294967296 ^ m * dig D m = dig D m * 4294967296 ^ m := Nat.mul_comm _ _
    rw [e2, e3] at d0
    rw [Bw_eq]
    omega
/-- One limb of a quotient: what is left of the rest. -/
theorem quo_step {V D i R : Nat} (hD : 0 < D) (hR : R = V % (D * Bw ^ (i + 1))) :
    R / Bw ^ i < D * Bw ∧ R / Bw ^ i / D = dig (V / D) i ∧ R = V % (D * Bw ^ i) + dig (V / D) i * Bw ^ i * D ∧ V % (D * Bw ^ i) < Bw ^ i * D := by
  have hp := pow_pos_Bw i
  have hDp : 0 < D * Bw ^ i := Nat.mul_pos hD hp
  have e0 : D * Bw ^ (i + 1) = D * Bw ^ i * Bw := by rw [Nat.pow_succ, Nat.mul_assoc]
  have e1 : R / (D * Bw ^ i) = dig (V / D) i := by
    rw [hR, e0, Nat.mod_mul_right_div_self, ← Nat.div_div_eq_div_mul]
    rfl
  have e2 : R % (D * Bw ^ i) = V % (D * Bw ^ i) := by rw [hR, e0, Nat.mod_mul_right_mod]
  refine ⟨?_, ?_, ?_, by rw [Nat.mul_comm (Bw ^ i)]; exact Nat.mod_lt _ hDp⟩
  · rw [Nat.div_lt_iff_lt_mul hp, Nat.mul_assoc, Nat.mul_comm Bw, ← Nat.mul_assoc, hR, e0]
    exact Nat.mod_lt _ (Nat.mul_pos hDp Bw_pos)
  · rw [Nat.div_div_eq_div_mul, Nat.mul_comm (Bw ^ i)]; exact e1
  · rw [← e1, ← e2, Nat.mul_assoc, Nat.mul_comm (Bw ^ i) D, Nat.mul_comm (R / _)]
    exact (Nat.mod_add_div R _).symm
/-- The guess was right: nothing is borrowed. -/
theorem quo_right {R X qt q Z D b P O' : Nat} (hR : R = X + qt * Z * D) (h1 : qt ≤ q) (hq : q ≤ qt + 1) (hX : X < Z * D) (ht : O' + q * Z * D = R + b * P) (h0 : b = 0) : q = qt ∧ O' = X := by
  subst h0
  rcases Nat.lt_or_ge qt q with h | h
  · obtain rfl : q = qt + 1 := by omega
    rw [Nat.add_mul, Nat.add_mul, Nat.one_mul] at ht
    omega
  · obtain rfl : q = qt := by omega
    exact ⟨rfl, by omega⟩
/-- The guess was one too great. -/
theorem quo_wrong {R X qt q Z D b P O' : Nat} (hR : R = X + qt * Z * D) (h1 : qt ≤ q) (hq : q ≤ qt + 1) (hO : O' < P) (hb : b ≤ 1) (ht : O' + q * Z * D = R + b * P) (h0 : 0 < b) : q = qt + 1 ∧ O' + Z * D = X + P := by
  obtain rfl : b = 1 := by omega
  rcases Nat.lt_or_ge qt q with h | h
  · obtain rfl : q = qt + 1 := by omega
    rw [Nat.add_mul, Nat.add_mul, Nat.one_mul] at ht
    exact ⟨rfl, by omega⟩
  · obtain rfl : q = qt := by omega
    omega
/-- The number is given back to the window. -/
theorem quo_back {X O' D i m : Nat} (h : O' + Bw ^ i * D = X + Bw ^ (i + m)) (hX : X < Bw ^ (i + m)) : Bw ^ m ≤ O' / Bw ^ i + D ∧ O' % Bw ^ i + Bw ^ i * ((O' / Bw ^ i + D) % Bw ^ m) = X := by
  have hp := pow_pos_Bw i
  have e1 : O' / Bw ^ i + D = X / Bw ^ i + Bw ^ m := by
    rw [← Nat.add_mul_div_left _ _ hp, h, Nat.pow_add, Nat.add_mul_div_left _ _ hp]
  have e2 : O' % Bw ^ i = X % Bw ^ i := by
    rw [← Nat.add_mul_mod_self_left O' (Bw ^ i) D, h, Nat.pow_add, Nat.add_mul_mod_self_left]
  refine ⟨by rw [e1]; exact Nat.le_add_left _ _, ?_⟩
  have e3 : X / Bw ^ i < Bw ^ m := by rw [Nat.div_lt_iff_lt_mul hp, Nat.mul_comm, ← Nat.pow_add]; exact hX
  rw [e1, Nat.add_mod_right, Nat.mod_eq_of_lt e3, e2, Nat.mod_add_div]
end Go.Proofs.YtaancfhbmjkoaaaGreatDoor

/- A piece of a number, a piece of a row of numbers, as they lie in memory. No function of the program. -/
namespace Go.Proofs.YtaancfhbmjkoaaaGreatDoor
open Go Go.RowKit

theorem dig_piece {N s k j : Nat} (hj : j < k) : dig (N / Bw ^ s % Bw ^ k) j = dig N (s + j) := by
  have h : dig (N / Bw ^ s % Bw ^ k) j = dig (N / Bw ^ s) j := by
    obtain ⟨q, hq⟩ : ∃ q, k = j + (q + 1) := ⟨k - j - 1, by omega⟩
    unfold dig
    rw [hq, pow_add_mul, Nat.mod_mul_right_div_self, Nat.pow_succ', Nat.mod_mul_right_mod]
  rw [h]
  unfold dig
  rw [Nat.div_div_eq_div_mul, ← pow_add_mul]
/-- A piece of a number. -/
theorem Rd.piece {W : World} {hi n N : Nat} {A : Option Addr} (h : Rd W hi A n N) {s k : Nat} (hs : s + k ≤ n) : Rd W hi (A.map fun ad => ad.add s) k (N / Bw ^ s % Bw ^ k) :=
  ⟨Nat.mod_lt _ (pow_pos_Bw k), fun hk => by
    obtain ⟨ad, e, hb, hc⟩ := h.2 (by omega)
    refine ⟨ad.add s, by rw [e]; rfl, by rw [add_block]; exact hb, fun j hj => ?_⟩
    rw [Addr.add_add, dig_piece hj]
    exact hc (s + j) (by omega)⟩
theorem mod_add_piece (N s k : Nat) : N % Bw ^ s + Bw ^ s * (N / Bw ^ s % Bw ^ k) = N % Bw ^ (s + k) := by rw [pow_add_mul, Nat.mod_mul]
theorem piece_end {N n s m : Nat} (h : N < Bw ^ n) (hs : s < n) : N % Bw ^ (s + (min (s + m) n - s)) = N % Bw ^ (s + m) := by
  rcases Nat.lt_or_ge n (s + m) with h1 | h1
  · rw [show s + (min (s + m) n - s) = n by omega, Nat.mod_eq_of_lt h, Nat.mod_eq_of_lt (lt_pow_of h (by omega))]
  · rw [show s + (min (s + m) n - s) = s + m by omega]

theorem Rd.low {W : World} {hi n N : Nat} {ad : Addr} (h : Rd W hi (some ad) n N) {k : Nat} (hs : k ≤ n) : Rd W hi (some ad) k (N % Bw ^ k) := by
  have := h.piece (s := 0) (k := k) (by omega)
  simpa [Addr.add_zero', Nat.div_one] using this
theorem Rd.empty {W : World} {hi n N : Nat} {A A' : Option Addr} (h : Rd W hi A n N) (h0 : n = 0) : Rd W hi A' n N := ⟨h.1, fun hn => by omega⟩
theorem Rd.high {W : World} {hi n N : Nat} {ad : Addr} (h : Rd W hi (some ad) n N) {k : Nat} (hs : k ≤ n) : Rd W hi (some (ad.add k)) (n - k) (N / Bw ^ k) := by
  have := h.piece (s := k) (k := n - k) (by omega)
  rw [Nat.mod_eq_of_lt] at this
  · exact this
  · rw [Nat.div_lt_iff_lt_mul (pow_pos_Bw k), ← pow_add_mul, show n - k + k = n by omega]; exact h.1

theorem Rds.take {W : World} {hi : Nat} {A : Option Addr} {l : List Num} (h : Rds W hi A l) (k : Nat) : Rds W hi A (l.take k) := fun j hj => by
  have hj' : j < l.length := by rw [List.length_take] at hj; omega
  have := h j hj'
  rwa [List.getElem_take]
theorem Rds.drop {W : World} {hi : Nat} {ad : Addr} {l : List Num} (h : Rds W hi (some ad) l) (k : Nat) : Rds W hi (some (ad.add k)) (l.drop k) := fun j hj => by
  have hj' : k + j < l.length := by rw [List.length_drop] at hj; omega
  obtain ⟨⟨ad', e, hb, hc⟩, h2⟩ := h (k + j) hj'
  cases e
  rw [List.getElem_drop]
  exact ⟨⟨_, rfl, by rw [add_block]; exact hb, by rw [Addr.add_add]; exact hc⟩, h2⟩
theorem Rds.ltK {W : World} {hi : Nat} {A : Option Addr} {l : List Num} (h : Rds W hi A l) : ∀ z ∈ l, z.N < Bw ^ z.n := fun z hz => by
  obtain ⟨k, hk, rfl⟩ := List.getElem_of_mem hz
  exact (h k hk).2.1.1

end Go.Proofs.YtaancfhbmjkoaaaGreatDoor

/- Numbers shifted down, as numbers. No function of the program. -/
namespace Go.Proofs.YtaancfhbmjkoaaaGreatDoor
open Go Go.RowKit

theorem down_dig {N q r j : Nat} (hr : r ≤ 32) : dig (N / 2 ^ (32 * q + r)) j = (dig N (q + j) + 4294967296 * dig N (q + j + 1)) / 2 ^ r % 4294967296 := by
  have hB : Bw = 2 ^ r * 2 ^ (32 - r) := by rw [← Nat.pow_add, show r + (32 - r) = 32 from by omega]; rfl
  obtain ⟨Y, hY⟩ : ∃ Y, N / Bw ^ (q + j) = Y := ⟨_, rfl⟩
  have e1 : dig (N / 2 ^ (32 * q + r)) j = Y / 2 ^ r % Bw := by
    unfold dig
    rw [Nat.pow_add, ← Bw_pow, ← hY, pow_add_mul, ← Nat.div_div_eq_div_mul, ← Nat.div_div_eq_div_mul, Nat.div_div_eq_div_mul _ (2 ^ r), Nat.mul_comm (2 ^ r), ← Nat.div_div_eq_div_mul]
  have e2 : dig N (q + j) = Y % Bw := by unfold dig; rw [hY]
  have e3 : dig N (q + j + 1) = Y / Bw % Bw := by unfold dig; rw [Nat.pow_succ, ← Nat.div_div_eq_div_mul, hY]
  rw [e1, e2, e3, ← Bw_eq]
  have e4 : Y = 2 ^ r * (2 ^ (32 - r) * Bw * (Y / Bw / Bw)) + (Y % Bw + Bw * (Y / Bw % Bw)) := by
    have h1 := Nat.div_add_mod Y Bw
    have h2 := Nat.div_add_mod (Y / Bw) Bw
    have h3 : 2 ^ r * (2 ^ (32 - r) * Bw * (Y / Bw / Bw)) = Bw * (Bw * (Y / Bw / Bw)) := by rw [← Nat.mul_assoc, ← Nat.mul_assoc, ← hB, Nat.mul_assoc]
    rw [h3]
    have h4 : Bw * (Y / Bw) = Bw * (Bw * (Y / Bw / Bw)) + Bw * (Y / Bw % Bw) := by rw [← Nat.mul_add, h2]
    omega
  obtain ⟨y, hy⟩ : ∃ y, Y % Bw + Bw * (Y / Bw % Bw) = y := ⟨_, rfl⟩
  obtain ⟨z, hz⟩ : ∃ z, Y / Bw / Bw = z := ⟨_, rfl⟩
  rw [hy, hz] at e4
  rw [hy]
  conv => lhs; rw [e4, Nat.mul_add_div (Nat.two_pow_pos r)]
  rw [show 2 ^ (32 - r) * Bw * z = Bw * (2 ^ (32 - r) * z) from by ac_rfl, Nat.mul_add_mod]
theorem down_lt {N n q r j : Nat} (h : N < Bw ^ n) (hj : n ≤ q + j) : N / 2 ^ (32 * q + r) < Bw ^ j := by
  rw [Nat.pow_add, ← Bw_pow, ← Nat.div_div_eq_div_mul]
  refine Nat.lt_of_le_of_lt (Nat.div_le_self _ _) ?_
  rw [Nat.div_lt_iff_lt_mul (pow_pos_Bw q), ← Nat.pow_add, Nat.add_comm]
  exact Nat.lt_of_lt_of_le h (Nat.pow_le_pow_right Bw_pos hj)

theorem cast_shift (X r : Nat) : (X : Int) / 2 ^ r % 4294967296 = ((X / 2 ^ r % 4294967296 : Nat) : Int) := by
  rw [Int.natCast_emod, Int.natCast_ediv, Int.natCast_pow]
  rfl
theorem int_i64 {a b : Int} (h : a = b) : Value.int .i64 a = .int .i64 b := by rw [h]
theorem or_limbs2 {x y : Nat} (hx : x < 4294967296) (hy : y < 4294967296) : bits BinOp.or IntKind.u64 (x : Int) ((y : Int) * 4294967296) = ((x + 4294967296 * y : Nat) : Int) := by
  have e : ((y : Int) * 4294967296) = ((y * 4294967296 : Nat) : Int) := by omega
  rw [e, u64_or_nat x (y * 4294967296) (by omega) (by omega)]
  have : x ||| y * 4294967296 = x + 4294967296 * y := by
    rw [Nat.or_comm, show y * 4294967296 = y <<< 32 from by rw [Nat.shiftLeft_eq], ← Nat.shiftLeft_add_eq_or_of_lt hx, Nat.shiftLeft_eq]
    omega
  rw [this]
end Go.Proofs.YtaancfhbmjkoaaaGreatDoor

/- Numbers shifted up, as numbers; a row that is made. No function of the program. -/
namespace Go.Proofs.YtaancfhbmjkoaaaGreatDoor
open Go Go.RowKit

theorem made_row (w : World) (n : Nat) (hn : n ≤ 35184372087808) : ∃ w1, (Instr.makeSlice 23 (.int .i64 (n : Int)) (.int .i64 (n : Int))).run Tryz.prog w = .ok (.slice (some ⟨w.heap.size, 0, none⟩) n n) w1 ∧
    w1.ownsRow w.heap.size 47 1 (.slice (some ⟨w.heap.size, 0, none⟩) n n) n (List.replicate n (.int .u32 0)) ∧ Below w.heap.size w w1 := by
  obtain ⟨i0, hi, hz0, hz1, hz2⟩ := info_parts info_u32
  obtain ⟨w1, h1, h2, h3⟩ := run_make_full (P := Tryz.prog) w w.heap.size 23 47 i0 (.int .u32 0) 1 Tryz.underlying23 hi hz0 hz1 .i64 .i64 n (by rw [hz2]; omega) (by simp only [maxLen]; omega) (Nat.le_refl _)
  have e : (Value.int .u32 0).cells = #[.int .u32 0] := rfl
  rw [e, toList_madeCells_one, Nat.mul_one] at h2
  exact ⟨w1, h1, h2, (Below.refl _ w).grown h3 (Nat.le_refl _) (fun k e => by cases e)⟩

/-- What a limb's place gets from the place below it. -/
def lowN (N r i : Nat) : Nat := N % Bw ^ i * 2 ^ r / Bw ^ i
theorem lowN_zero (N r : Nat) : lowN N r 0 = 0 := by simp [lowN, Nat.mod_one]
theorem lowN_lt (N r i : Nat) : lowN N r i < 2 ^ r := by
  unfold lowN
  rw [Nat.div_lt_iff_lt_mul (pow_pos_Bw i), Nat.mul_comm (2 ^ r)]
  exact Nat.mul_lt_mul_of_pos_right (Nat.mod_lt _ (pow_pos_Bw i)) (Nat.two_pow_pos r)
theorem lowN_succ (N r i : Nat) : lowN N r (i + 1) = (dig N i * 2 ^ r + lowN N r i) / Bw := by
  unfold lowN
  rw [mod_succ, Nat.pow_succ, ← Nat.div_div_eq_div_mul, Nat.add_mul, Nat.mul_assoc, Nat.add_mul_div_left _ _ (pow_pos_Bw i), Nat.add_comm]
theorem dig_up (N r i : Nat) : dig (N * 2 ^ r) i = (dig N i * 2 ^ r + lowN N r i) % Bw := by
  have e : N * 2 ^ r / Bw ^ i = N / Bw ^ i * 2 ^ r + lowN N r i := by
    conv => lhs; rw [← Nat.div_add_mod N (Bw ^ i)]
    rw [Nat.add_mul, Nat.mul_assoc, Nat.mul_add_div (pow_pos_Bw i)]
    rfl
  have d : dig (N * 2 ^ r) i = (N / Bw ^ i * 2 ^ r + lowN N r i) % Bw := by unfold dig; rw [e]
  rw [d]
  have h := Nat.div_add_mod (N / Bw ^ i) Bw
  have : N / Bw ^ i * 2 ^ r + lowN N r i = Bw * (N / Bw ^ i / Bw * 2 ^ r) + (dig N i * 2 ^ r + lowN N r i) := by
    conv => lhs; rw [← h]
    rw [Nat.add_mul, Nat.mul_assoc, Nat.add_assoc]
    rfl
  rw [this, Nat.mul_add_mod]
/-- A limb shifted up, and what comes from below: side by side. -/
theorem up_parts {d low r : Nat} (hr : r ≤ 32) (hl : low < 2 ^ r) : ∃ c, 2 ^ r * c = 4294967296 ∧ d * 2 ^ r % 4294967296 = d % c * 2 ^ r ∧ (d * 2 ^ r + low) / 4294967296 = d * 2 ^ r / 4294967296 ∧ (d * 2 ^ r + low) % 4294967296 = d % c * 2 ^ r + low ∧ d % c * 2 ^ r + low < 4294967296 := by
  have hB : 2 ^ r * 2 ^ (32 - r) = 4294967296 := by rw [← Nat.pow_add, show r + (32 - r) = 32 from by omega]
  obtain ⟨c, hc⟩ : ∃ c, 2 ^ (32 - r) = c := ⟨_, rfl⟩
  obtain ⟨t, ht⟩ : ∃ t, 2 ^ r = t := ⟨_, rfl⟩
  rw [hc, ht] at hB
  rw [ht] at hl
  have hcp : 0 < c := by
    rcases Nat.eq_zero_or_pos c with h | h
    · subst h
      simp at hB
    · exact h
  rw [ht]
  have h1 := Nat.div_add_mod d c
  obtain ⟨x, hx⟩ : ∃ x, d / c = x := ⟨_, rfl⟩
  obtain ⟨y, hy⟩ : ∃ y, d % c = y := ⟨_, rfl⟩
  have hyc : y < c := by rw [← hy]; exact Nat.mod_lt _ hcp
  rw [hx, hy] at h1
  have e1 : d * t = 4294967296 * x + y * t := by rw [← h1, Nat.add_mul, ← hB]; congr 1; ac_rfl
  have e2 : (y + 1) * t ≤ c * t := Nat.mul_le_mul_right t hyc
  rw [Nat.mul_comm c t, hB, Nat.add_mul, Nat.one_mul] at e2
  exact ⟨c, hB, by rw [hy]; omega, by omega, by rw [hy]; omega, by rw [hy]; omega⟩
theorem or_up {y low r : Nat} (hl : low < 2 ^ r) (h : y * 2 ^ r + low < 4294967296) : bits BinOp.or IntKind.u32 ((y * 2 ^ r : Nat) : Int) (low : Int) = ((y * 2 ^ r + low : Nat) : Int) := by
  rw [u32_or_nat _ low (by omega) (by omega), show y * 2 ^ r = y <<< r from by rw [Nat.shiftLeft_eq], Nat.shiftLeft_add_eq_or_of_lt hl]
theorem up_dig (N q r i : Nat) : dig (N * 2 ^ (32 * q + r)) (q + i) = dig (N * 2 ^ r) i := by
  unfold dig
  rw [Nat.pow_add, ← Bw_pow, show N * (Bw ^ q * 2 ^ r) = Bw ^ q * (N * 2 ^ r) from by ac_rfl, pow_add_mul, Nat.mul_div_mul_left _ _ (pow_pos_Bw q)]
theorem up_low (N q r j : Nat) (h : j < q) : dig (N * 2 ^ (32 * q + r)) j = 0 := by
  unfold dig
  rw [Nat.pow_add, ← Bw_pow, show q = j + 1 + (q - j - 1) from by omega, pow_add_mul, Nat.pow_succ, show N * (Bw ^ j * Bw * Bw ^ (q - j - 1) * 2 ^ r) = Bw ^ j * (Bw * (Bw ^ (q - j - 1) * N * 2 ^ r)) from by ac_rfl, Nat.mul_div_cancel_left _ (pow_pos_Bw j), Nat.mul_mod_right]
theorem limbs_noughts {V q : Nat} (h : ∀ j, j < q → dig V j = 0) : List.replicate q (.int .u32 0) = limbs V q := by
  apply List.ext_getElem?
  intro j
  by_cases hj : j < q
  · rw [limbs_at hj, h j hj, List.getElem?_replicate, if_pos hj]
    rfl
  · rw [List.getElem?_eq_none (by simp; omega), List.getElem?_eq_none (by rw [limbs_length]; omega)]
theorem up_lt {N n q r : Nat} (h : N < Bw ^ n) (hr : r ≤ 32) : N * 2 ^ (32 * q + r) < Bw ^ (q + n + 1) := by
  rw [Nat.pow_add 2, ← Bw_pow, Nat.pow_succ, pow_add_mul]
  have h1 : 2 ^ r ≤ Bw := by have : (2 : Nat) ^ r ≤ 2 ^ 32 := Nat.pow_le_pow_right (by omega) hr; exact this
  calc N * (Bw ^ q * 2 ^ r) = Bw ^ q * N * 2 ^ r := by ac_rfl
    _ ≤ Bw ^ q * N * Bw := Nat.mul_le_mul_left _ h1
    _ < Bw ^ q * Bw ^ n * Bw := Nat.mul_lt_mul_of_pos_right (Nat.mul_lt_mul_of_pos_left h (pow_pos_Bw q)) Bw_pos

theorem up_len {N n : Nat} (h : N < Bw ^ n) (m : Nat) : lenL (N * 2 ^ m) ≤ m / 32 + n + 1 := by
  have := up_lt (q := m / 32) (r := m % 32) h (by omega)
  rw [Nat.div_add_mod] at this
  exact lenL_le.2 this
end Go.Proofs.YtaancfhbmjkoaaaGreatDoor

/- Dividing bit by bit, as numbers. No function of the program. -/
namespace Go.Proofs.YtaancfhbmjkoaaaGreatDoor
open Go Go.RowKit

/-- One bit of a number, from the lowest one on. -/
def bitN (N s : Nat) : Nat := N / 2 ^ s % 2
theorem bitN_lt (N s : Nat) : bitN N s < 2 := Nat.mod_lt _ (by omega)
theorem bits_next (N s : Nat) : N / 2 ^ s = 2 * (N / 2 ^ (s + 1)) + bitN N s := by
  unfold bitN
  rw [Nat.pow_succ, ← Nat.div_div_eq_div_mul]
  omega
theorem bit_dig {N p t : Nat} (ht : t < 32) : dig N p / 2 ^ t % 2 = bitN N (32 * p + t) := by
  unfold bitN dig
  rw [Nat.pow_add, ← Bw_pow, ← Nat.div_div_eq_div_mul]
  obtain ⟨X, hX⟩ : ∃ X, N / Bw ^ p = X := ⟨_, rfl⟩
  rw [hX]
  have hB : Bw = 2 ^ t * (2 * 2 ^ (31 - t)) := by
    rw [← Nat.pow_succ', ← Nat.pow_add, show t + (31 - t + 1) = 32 from by omega]
    rfl
  have h := Nat.div_add_mod X Bw
  obtain ⟨y, hy⟩ : ∃ y, X % Bw = y := ⟨_, rfl⟩
  obtain ⟨z, hz⟩ : ∃ z, X / Bw = z := ⟨_, rfl⟩
  rw [hy, hz] at h
  rw [hy, ← h]
  conv => rhs; rw [hB, show 2 ^ t * (2 * 2 ^ (31 - t)) * z = 2 ^ t * (2 * (2 ^ (31 - t) * z)) from by ac_rfl, Nat.mul_add_div (Nat.two_pow_pos t)]
  omega
/-- A bit more: the rest is less than twice the divisor. -/
theorem div_less {N M s Q R : Nat} (hM : 0 < M) (hQ : N / 2 ^ (s + 1) / M = Q) (hR : N / 2 ^ (s + 1) % M = R) (h : 2 * R + bitN N s < M) : N / 2 ^ s / M = 2 * Q ∧ N / 2 ^ s % M = 2 * R + bitN N s := by
  have e : N / 2 ^ s = (2 * R + bitN N s) + M * (2 * Q) := by
    have h1 := Nat.div_add_mod (N / 2 ^ (s + 1)) M
    rw [hQ, hR] at h1
    have h2 := bits_next N s
    have h3 : M * (2 * Q) = 2 * (M * Q) := by ac_rfl
    omega
  rw [e, Nat.add_mul_div_left _ _ hM, Nat.add_mul_mod_self_left, Nat.div_eq_of_lt h, Nat.mod_eq_of_lt h]
  exact ⟨by omega, rfl⟩
theorem div_more {N M s Q R : Nat} (hM : 0 < M) (hQ : N / 2 ^ (s + 1) / M = Q) (hR : N / 2 ^ (s + 1) % M = R) (h : M ≤ 2 * R + bitN N s) : N / 2 ^ s / M = 2 * Q + 1 ∧ N / 2 ^ s % M = 2 * R + bitN N s - M := by
  have hRM : R < M := by rw [← hR]; exact Nat.mod_lt _ hM
  have hb := bitN_lt N s
  have e : N / 2 ^ s = (2 * R + bitN N s - M) + M * (2 * Q + 1) := by
    have h1 := Nat.div_add_mod (N / 2 ^ (s + 1)) M
    rw [hQ, hR] at h1
    have h2 := bits_next N s
    have h3 : M * (2 * Q + 1) = 2 * (M * Q) + M := by rw [Nat.mul_add, Nat.mul_one]; congr 1; ac_rfl
    omega
  have hl : 2 * R + bitN N s - M < M := by omega
  rw [e, Nat.add_mul_div_left _ _ hM, Nat.add_mul_mod_self_left, Nat.div_eq_of_lt hl, Nat.mod_eq_of_lt hl]
  exact ⟨by omega, rfl⟩
/-- Where the division begins: fewer words than the divisor has are less than it. -/
theorem div_start {N M n : Nat} (h : N < Bw ^ n) (hM : 0 < M) : N / Bw ^ (n + 1 - lenL M) < M := by
  obtain ⟨m, hm⟩ : ∃ m, lenL M = m + 1 := ⟨lenL M - 1, by have := mt lenL_eq_zero.1 (show M ≠ 0 by omega); omega⟩
  have h1 : Bw ^ m ≤ M := by
    rcases Nat.lt_or_ge M (Bw ^ m) with h2 | h2
    · have := lenL_le.2 h2; omega
    · exact h2
  refine Nat.lt_of_lt_of_le ?_ h1
  rw [hm, Nat.div_lt_iff_lt_mul (pow_pos_Bw _), ← pow_add_mul]
  exact lt_pow_of h (by omega)
/-- A limb in which the bits up to t are nought has bit t set by 'or'. -/
theorem or_bit {d t : Nat} (ht : t < 32) (h : ∃ k, d = k * 2 ^ (t + 1)) (hd : d < 4294967296) : bits BinOp.or IntKind.u32 (d : Int) ((2 ^ t : Nat) : Int) = ((d + 2 ^ t : Nat) : Int) := by
  obtain ⟨k, rfl⟩ := h
  have h1 : (2 : Nat) ^ t < 2 ^ (t + 1) := Nat.pow_lt_pow_right (by omega) (by omega)
  have h2 : (2 : Nat) ^ t ≤ 2 ^ 31 := Nat.pow_le_pow_right (by omega) (by omega)
  rw [u32_or_nat _ _ (by omega) (by omega), show k * 2 ^ (t + 1) = k <<< (t + 1) from by rw [Nat.shiftLeft_eq], Nat.shiftLeft_add_eq_or_of_lt h1]
/-- The limb of a number of which all bits below 32 p + t + 1 are nought. -/
theorem dig_low {K p t : Nat} (ht : t < 32) : ∃ k, dig (2 ^ (32 * p + t + 1) * K) p = k * 2 ^ (t + 1) ∧ k * 2 ^ (t + 1) + 2 ^ t < 4294967296 := by
  have hB : Bw = 2 ^ (t + 1) * 2 ^ (31 - t) := by
    rw [← Nat.pow_add, show t + 1 + (31 - t) = 32 from by omega]
    rfl
  refine ⟨K % 2 ^ (31 - t), ?_, ?_⟩
  · unfold dig
    rw [show 32 * p + t + 1 = 32 * p + (t + 1) from by omega, Nat.pow_add, ← Bw_pow, Nat.mul_assoc, Nat.mul_div_cancel_left _ (pow_pos_Bw p), hB, Nat.mul_mod_mul_left, Nat.mul_comm]
  · have h1 : K % 2 ^ (31 - t) + 1 ≤ 2 ^ (31 - t) := Nat.mod_lt _ (Nat.two_pow_pos _)
    have h2 := Nat.mul_le_mul_left (2 ^ (t + 1)) h1
    rw [← hB, Bw_eq, Nat.mul_add, Nat.mul_one, Nat.mul_comm] at h2
    have h3 : (2 : Nat) ^ t < 2 ^ (t + 1) := Nat.pow_lt_pow_right (by omega) (by omega)
    omega
theorem set_bit {O O' Q p t : Nat} (h : O' + dig O p * Bw ^ p = O + (dig O p + 2 ^ t) * Bw ^ p) (hO : O = 2 ^ (32 * p + t + 1) * Q) : O' = 2 ^ (32 * p + t) * (2 * Q + 1) := by
  have e : 2 ^ (32 * p + t) = 2 ^ t * Bw ^ p := by rw [Nat.pow_add, ← Bw_pow, Nat.mul_comm]
  have e2 : 2 ^ (32 * p + t + 1) * Q = 2 ^ (32 * p + t) * (2 * Q) := by rw [Nat.pow_succ]; ac_rfl
  rw [Nat.add_mul] at h
  rw [Nat.mul_add, Nat.mul_one, ← e2, ← hO, e]
  omega
theorem bit_test {N p t : Nat} (ht : t < 32) : bits BinOp.and IntKind.u32 ((dig N p : Int) / 2 ^ t) 1 = ((bitN N (32 * p + t) : Nat) : Int) := by
  have h1 := dig_lt N p
  have h2 : dig N p / 2 ^ t ≤ dig N p := Nat.div_le_self _ _
  have e : (dig N p : Int) / 2 ^ t = ((dig N p / 2 ^ t : Nat) : Int) := by rw [Int.natCast_ediv, Int.natCast_pow]; rfl
  rw [e]
  have h3 := u32_and_nat (dig N p / 2 ^ t) 1 (by omega) (by omega)
  rw [Nat.and_one_is_mod, bit_dig ht] at h3
  exact h3
/-- A bit is set in the row that the quotient is written in. -/
theorem div_put {W : World} {g n O p t Q : Nat} (ht : t < 32) (hp : p < n) (hB : Buf W g n O) (hO : O < Bw ^ n) (hQ : O = 2 ^ (32 * p + t + 1) * Q) :
    ∃ O', Buf (W.setCell ⟨g, p, none⟩ (.int .u32 (bits BinOp.or IntKind.u32 (dig O p : Int) (2 ^ t % 4294967296)))) g n O' ∧ O' < Bw ^ n ∧ O' = 2 ^ (32 * p + t) * (2 * Q + 1) := by
  obtain ⟨k, hk, hk2⟩ := dig_low (K := Q) (p := p) ht
  rw [← hQ] at hk
  have e1 : ((2 : Int) ^ t % 4294967296) = ((2 ^ t : Nat) : Int) := by
    have h1 : (2 : Nat) ^ t ≤ 2 ^ 31 := Nat.pow_le_pow_right (by omega) (by omega)
    have h2 : ((2 : Int) ^ t) = ((2 ^ t : Nat) : Int) := by rw [Int.natCast_pow]; rfl
    rw [h2]
    obtain ⟨q, hq⟩ : ∃ q : Nat, 2 ^ t = q := ⟨_, rfl⟩
    rw [hq] at h1 ⊢
    omega
  rw [e1, or_bit ht ⟨k, hk⟩ (dig_lt O p)]
  obtain ⟨O', h1, h2, h3⟩ := hB.set (p := p) (x := dig O p + 2 ^ t) hO hp (by rw [hk]; exact hk2)
  exact ⟨O', h1, h2, set_bit h3 hQ⟩
end Go.Proofs.YtaancfhbmjkoaaaGreatDoor
