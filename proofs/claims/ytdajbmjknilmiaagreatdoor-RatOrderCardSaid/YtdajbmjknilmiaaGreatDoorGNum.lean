/- What all the contracts speak with: a number is handed back; numbers at hand; limbs as values. No function of the program. -/
import Derived.WalkKit
import Derived.WalkSpells
import Derived.WalkLawsBesides
import Derived.LoopTactic
import Derived.Outline
import Derived.Lib.Hide
import Derived.IntWalk
import Derived.Deep.QuietTactic
import Derived.BigQuiet
import Derived.Laws.BitsAllLaws
import Derived.Deep.RegionWith
import Derived.StillTailTactics
import Derived.Test.YtdajbmjknilmiaaGreatDoorRows
import Derived.Test.YtdajbmjknilmiaaGreatDoorGGen
namespace Go.Proofs.YtdajbmjknilmiaaGreatDoor
open Go Go.RowKit

theorem wrap_u64 (a : Int) : IntKind.u64.wrap a = a % 18446744073709551616 := by rfl

theorem info_u32 : (Tryz.prog.info? 52).map (fun i => (i.zero, i.size, i.bytes)) = some (some (.int .u32 0), 1, 4) := by kernel_rfl

/-- The limbs of N as values. -/
def limbs (N n : Nat) : List Value := (List.range n).map fun j => .int .u32 (dig N j : Nat)
theorem limbs_length (N n : Nat) : (limbs N n).length = n := by simp [limbs]
theorem limbs_at {N n j : Nat} (h : j < n) : (limbs N n)[j]? = some (.int .u32 (dig N j : Nat)) := by simp [limbs, h]
theorem limbs_get {N n j : Nat} {u : Value} (h : (limbs N n)[j]? = some u) : j < n ∧ u = .int .u32 (dig N j : Nat) := by
  have hj : j < n := by have := (List.getElem?_eq_some_iff.1 h).1; rwa [limbs_length] at this
  rw [limbs_at hj] at h
  exact ⟨hj, by injection h with h; exact h.symm⟩
theorem limbs_one {N n : Nat} : ∀ u ∈ limbs N n, u.oneCell' = true := by
  intro u hu
  simp only [limbs, List.mem_map] at hu
  obtain ⟨j, _, rfl⟩ := hu
  rfl

/-- A number of the call's own is handed back. -/
def Gives (w : World) (N : Nat) (e : Ending) (w' : World) : Prop :=
  ∃ A c, e = .returned (.slice A (lenL N) c) ∧ lenL N ≤ c ∧ c ≤ maxLen ∧ Fr w' w.heap.size w'.heap.size A (lenL N) N ∧ Below w.heap.size w w'

theorem quiet_same {P : Program} {f : FuncId} {args : Array Value} {w : World} {n : Nat} {v : Value}
    (h : Calls P f args (w.drewN n) fun e w' => e = .returned v ∧ w.drewN n = w') : Calls P f args (w.drewN n) fun e w'' => e = .returned v ∧ ∃ m, w'' = w.drewN m :=
  h.mono fun _ _ ⟨he, hm⟩ => ⟨he, n, hm.symm⟩

def sameB (n n' N M : Nat) : Bool := decide (n = n' ∧ N = M)

theorem digs_all {n N M : Nat} (hN : N < Bw ^ n) (hM : M < Bw ^ n) (h : ∀ j, j < n → dig N j = dig M j) : N = M := eq_of_digs hN hM h

theorem below_drewN {w W : World} {B : Nat} (h : Below B w W) (q : Nat) : Below B w (W.drewN q) := ⟨h.os, h.tape, h.output, h.size, h.block⟩

/-- -1, 0, 1. -/
def cmpN (N N' : Nat) : Int := if N < N' then -1 else if N' < N then 1 else 0
theorem cmpN_lt {N N' : Nat} (h : N < N') : cmpN N N' = -1 := by simp [cmpN, h]
theorem cmpN_gt {N N' : Nat} (h : N' < N) : cmpN N N' = 1 := by unfold cmpN; rw [if_neg (by omega), if_pos h]
theorem cmpN_eq (N : Nat) : cmpN N N = 0 := by simp [cmpN]

theorem Rds.lit {w : World} {t : TypeId} {cs : Array Value} {l : List Num} (hcs : ∀ k (h : k < l.length), cs[k]? = some (.slice l[k].A l[k].n l[k].c)) (hok : ∀ x ∈ l, x.ok w w.heap.size) :
    Rds (w.alloc (.cells cs t)) (w.heap.size + 1) (some ⟨w.heap.size, 0, none⟩) l := fun k hk =>
  ⟨⟨_, rfl, by simp, by
    have h := World.alloc_heap_new' w (.cells cs t)
    rw [add_new]
    simp only [World.cell?, h]
    simpa using hcs k hk⟩, ((hok _ (List.getElem_mem hk)).below ((Below.refl _ _).alloc (Nat.le_refl _) _)).more (by omega)⟩
theorem Rds.two {w : World} {t : TypeId} {x y : Num} (hx : x.ok w w.heap.size) (hy : y.ok w w.heap.size) :
    Rds (w.alloc (.cells #[.slice x.A x.n x.c, .slice y.A y.n y.c] t)) (w.alloc (.cells #[.slice x.A x.n x.c, .slice y.A y.n y.c] t)).heap.size (some ⟨w.heap.size, 0, none⟩) [x, y] := by
  rw [World.size_alloc]
  refine Rds.lit (fun k hk => ?_) (fun z hz => ?_)
  · match k, hk with
    | 0, _ => rfl
    | 1, _ => rfl
  · simp only [List.mem_cons, List.not_mem_nil, or_false] at hz
    rcases hz with rfl | rfl <;> assumption
theorem Rds.one {w : World} {t : TypeId} {x : Num} (hx : x.ok w w.heap.size) :
    Rds (w.alloc (.cells #[.slice x.A x.n x.c] t)) (w.alloc (.cells #[.slice x.A x.n x.c] t)).heap.size (some ⟨w.heap.size, 0, none⟩) [x] := by
  rw [World.size_alloc]
  refine Rds.lit (fun k hk => ?_) (fun z hz => ?_)
  · match k, hk with
    | 0, _ => rfl
  · simp only [List.mem_cons, List.not_mem_nil, or_false] at hz
    subst hz; assumption

/-- A number that has been handed back may be handed on. -/
theorem Fr.ok {w' : World} {lo c N : Nat} {A : Option Addr} (h : Fr w' lo w'.heap.size A (lenL N) N) (hc : lenL N ≤ c) (hm : c ≤ maxLen) (hl : lenL N ≤ 35184372087808) : (Num.mk A (lenL N) c N).ok w' w'.heap.size := ⟨h.rd, hc, hm, hl⟩

theorem one_limb (w : World) {N g : Nat} {v : Int} (hv : v = (N : Int)) (hg : w.heap.size = g) (hN : N < 4294967296) : (Num.mk (some ⟨g, 0, none⟩) 1 1 N).ok (w.alloc (.cells #[.int .u32 v] 52)) (w.alloc (.cells #[.int .u32 v] 52)).heap.size := by
  subst hv hg
  refine ⟨?_, Nat.le_refl _, by simp [maxLen], by simp⟩
  rw [World.size_alloc]
  refine (Fr.lit (lo := 0) (Nat.zero_le _) (by simpa [Bw] using hN) (fun j hj => ?_)).rd
  have hj : j < 1 := hj
  obtain rfl : j = 0 := by omega
  simp [dig, Bw, Nat.mod_eq_of_lt hN]

theorem Gives.alloc {w w' : World} {o : Obj} {N : Nat} {e : Ending} (h : Gives (w.alloc o) N e w') : Gives w N e w' := by
  obtain ⟨A, c, he, h1, h2, h3, h4⟩ := h
  rw [World.size_alloc] at h3 h4
  exact ⟨A, c, he, h1, h2, h3.from (by omega), ((Below.refl _ w).alloc (Nat.le_refl _) o).trans (h4.mono (by omega))⟩
theorem Num.ok.alloc {w : World} {x : Num} (h : x.ok w w.heap.size) (o : Obj) : x.ok (w.alloc o) (w.alloc o).heap.size :=
  (h.below ((Below.refl _ _).alloc (Nat.le_refl _) _)).more (by simp)
theorem Num.ok.later {w w' : World} {x : Num} (h : x.ok w w.heap.size) (hb : Below w.heap.size w w') : x.ok w' w'.heap.size := (h.below hb).more hb.size

/-- Nothing that lay in w has turned, and the numbers of l lie in W. -/
def Env (w : World) (l : List Num) (W : World) : Prop := Below w.heap.size w W ∧ ∀ x ∈ l, x.ok W W.heap.size
section
variable {w W : World} {l : List Num} {x y z : Num}
theorem Env.start (h : ∀ x ∈ l, x.ok w w.heap.size) : Env w l w := ⟨Below.refl _ _, h⟩
theorem Env.step {W' : World} (h : Env w l W) (hb : Below W.heap.size W W') : Env w l W' := ⟨h.1.trans (hb.mono h.1.size), fun x hx => (h.2 x hx).later hb⟩
theorem Env.alloc (h : Env w l W) (o : Obj) : Env w l (W.alloc o) := h.step ((Below.refl _ _).alloc (Nat.le_refl _) _)
theorem Env.add (h : Env w l W) (hx : x.ok W W.heap.size) : Env w (x :: l) W := ⟨h.1, fun y hy => by
  rcases List.mem_cons.1 hy with rfl | hy
  · exact hx
  · exact h.2 y hy⟩

/-- A number is handed back, of the call's own, in blocks from lo on. -/
def Back (w : World) (l : List Num) (lo N : Nat) (f : Num → Value) (e : Ending) (W' : World) : Prop :=
  ∃ r : Num, e = .returned (f r) ∧ r.N = N ∧ r.n = lenL N ∧ Env w (r :: l) W' ∧ Fr W' lo W'.heap.size r.A r.n r.N

theorem back_of_gives {N : Nat} {e : Ending} {W' : World} (h : Env w l W) (hg : Gives W N e W') (hN : lenL N ≤ 35184372087808) : Back w l W.heap.size N (fun r => .slice r.A r.n r.c) e W' := by
  obtain ⟨A, c, he, hc, hm, hF, hb⟩ := hg
  exact ⟨⟨A, lenL N, c, N⟩, he, rfl, rfl, (h.step hb).add (hF.ok hc hm hN), hF⟩

theorem lenL_add {N M n : Nat} (h1 : N < Bw ^ n) (h2 : M < Bw ^ n) : lenL (N + M) ≤ n + 1 := by
  rw [lenL_le, Nat.pow_succ, Bw_eq]
  have : (4294967296 : Nat) ^ n = Bw ^ n := rfl
  rw [this]
  omega
theorem lt_pow_of {N n m : Nat} (h : N < Bw ^ n) (hm : n ≤ m) : N < Bw ^ m := Nat.lt_of_lt_of_le h (Nat.pow_le_pow_right Bw_pos hm)
end

/-- A difference that is the call's own is handed back. -/
def GivesS (w : World) (N : Nat) (e : Ending) (w' : World) : Prop :=
  ∃ A c, e = .returned (.tuple #[.slice A (lenL N) c, .int .i64 0]) ∧ lenL N ≤ c ∧ c ≤ maxLen ∧ Fr w' w.heap.size w'.heap.size A (lenL N) N ∧ Below w.heap.size w w'

theorem rTrim_end {w W' : World} {N m : Nat} {v' : Value} (hm : m = lenL N)
    (hown : W'.ownsRow w.heap.size 52 1 v' (0 + m) ([] ++ limbs N m)) (hg : (w.alloc (.cells #[] 52)).grownBy W' (some w.heap.size)) : Gives w N (.returned v') W' := by
  subst hm
  rw [Nat.zero_add, List.nil_append] at hown
  obtain ⟨A, c, rfl, h1, h2, h3⟩ := Fr.of_own hown (lt_pow_lenL N) (fun j hj => limbs_at hj)
  exact ⟨A, c, rfl, h1, h2, h3, ((Below.refl _ w).alloc (Nat.le_refl _) _).grown hg (by simp) (fun k e => by cases e; exact Nat.le_refl _)⟩

theorem limbs_read' {W : World} {A : Option Addr} {n N k : Nat} (h : Rd W W.heap.size A n N) (hk : k ≤ n) : ∀ j u, (limbs N k)[j]? = some u → ∃ ad : Addr, A = some ad ∧ (W.alloc (.cells #[] 52)).cell? (ad.add j) = some u := fun j u hu => by
  obtain ⟨hj, rfl⟩ := limbs_get hu
  obtain ⟨ad, e, hb, hc⟩ := (h.below (Below.alloc (Below.refl _ W) (Nat.le_refl _) (.cells #[] 52))).at_ (k := j) (by omega)
  exact ⟨ad, e, hc⟩

theorem Gives.later {w w1 w' : World} {N : Nat} {e : Ending} (hb : Below w.heap.size w w1) (h : Gives w1 N e w') : Gives w N e w' := by
  obtain ⟨A, c, he, h1, h2, h3, h4⟩ := h
  exact ⟨A, c, he, h1, h2, h3.from hb.size, hb.trans (h4.mono hb.size)⟩

theorem dig_of_u64 {N : Nat} (h : N < 18446744073709551616) : N < Bw ^ 2 ∧ ∀ j, j < 2 → (#[Value.int .u32 ((N : Int) % 4294967296), Value.int .u32 ((N : Int) / 4294967296)] : Array Value)[j]? = some (.int .u32 (dig N j : Nat)) := by
  refine ⟨by simpa [Bw] using h, fun j hj => ?_⟩
  have h2 : j = 0 ∨ j = 1 := by omega
  rcases h2 with rfl | rfl
  · simp [dig, Bw]
  · have : (N : Int) / 4294967296 = (dig N 1 : Nat) := by
      have : N / 4294967296 < 4294967296 := Nat.div_lt_of_lt_mul (by omega)
      simp only [dig, Bw, Nat.pow_one]
      rw [Nat.mod_eq_of_lt this]
      simp
    simp [this]
theorem lenL_small {N : Nat} : lenL N ≤ 2 ↔ N < 18446744073709551616 := by rw [lenL_le]; simp [Bw]
end Go.Proofs.YtdajbmjknilmiaaGreatDoor

/- A row of limbs that the call has made, and writes limb by limb: what it reads as. No function of the program. -/
namespace Go.Proofs.YtdajbmjknilmiaaGreatDoor
open Go Go.RowKit

theorem mod_full {N n : Nat} (h : N < Bw ^ n) : N % Bw ^ n = N := Nat.mod_eq_of_lt h

/-- One limb of a number set. -/
theorem set_dig {O m p x : Nat} (hO : O < Bw ^ m) (hp : p < m) (hx : x < Bw) : ∃ O', O' < Bw ^ m ∧ (∀ j, dig O' j = if j = p then x else dig O j) ∧ O' + dig O p * Bw ^ p = O + x * Bw ^ p := by
  obtain ⟨O', h1, h2⟩ := num_of_limbs m (fun j => if j = p then x else dig O j) (fun j hj => by
    split
    · exact hx
    · exact dig_lt O j)
  have key : ∀ k, k ≤ m → O' % Bw ^ k + (if p < k then dig O p * Bw ^ p else 0) = O % Bw ^ k + (if p < k then x * Bw ^ p else 0) := by
    intro k
    induction k with
    | zero => intro _; simp [Nat.mod_one]
    | succ k ih =>
      intro hk
      have ih := ih (by omega)
      have hd := h2 k (by omega)
      rw [mod_succ, mod_succ, ← hd]
      by_cases e : k = p
      · subst e
        rw [if_neg (by omega), if_neg (by omega)] at ih
        rw [if_pos rfl, if_pos (by omega), if_pos (by omega), Nat.mul_comm (Bw ^ k) x, Nat.mul_comm (Bw ^ k) (dig O k)]
        omega
      · rw [if_neg e]
        by_cases e2 : p < k
        · rw [if_pos e2, if_pos e2] at ih
          rw [if_pos (by omega), if_pos (by omega)]
          omega
        · rw [if_neg e2, if_neg e2] at ih
          rw [if_neg (by omega), if_neg (by omega)]
          omega
  refine ⟨O', h1, fun j => ?_, ?_⟩
  · by_cases hj : j < m
    · exact (h2 j hj).symm
    · rw [dig_ge h1 (by omega), if_neg (by omega), dig_ge hO (by omega)]
  · have := key m (Nat.le_refl _)
    rwa [mod_full h1, mod_full hO, if_pos hp, if_pos hp] at this

/-- The cells of block g, from the first one on, hold the limbs of O. -/
def Buf (W : World) (g n O : Nat) : Prop := ∀ j, j < n → W.cell? ⟨g, j, none⟩ = some (.int .u32 (dig O j : Nat)) ∧ W.frozen? ⟨g, j, none⟩ = false
theorem Buf.set {W : World} {g n O m p x : Nat} (h : Buf W g n O) (hO : O < Bw ^ m) (hp : p < m) (hx : x < 4294967296) :
    ∃ O', Buf (W.setCell ⟨g, p, none⟩ (.int .u32 x)) g n O' ∧ O' < Bw ^ m ∧ O' + dig O p * Bw ^ p = O + x * Bw ^ p := by
  obtain ⟨O', h1, h2, h3⟩ := set_dig hO hp (by rw [Bw_eq]; exact hx)
  refine ⟨O', fun j hj => ?_, h1, h3⟩
  obtain ⟨c1, c2⟩ := h j hj
  refine ⟨?_, by rw [World.frozen?_setCell]; exact c2⟩
  rw [h2]
  by_cases e : j = p
  · subst e
    rw [if_pos rfl]
    exact World.cell?_setCell_same' _ _ _ (by rw [c1]; rfl)
  · rw [if_neg e, World.cell?_setCell_other W ⟨g, p, none⟩ ⟨g, j, none⟩ _ (by first | (simp; done) | (simp; omega)), c1]
theorem Buf.drew {W : World} {g n O : Nat} (h : Buf W g n O) (q : Nat) : Buf (W.drewN q) g n O := h
theorem Buf.rd {W : World} {g n O : Nat} (h : Buf W g n O) (hO : O < Bw ^ n) (hg : 0 < n → g < W.heap.size) : Rd W W.heap.size (some ⟨g, 0, none⟩) n O :=
  ⟨hO, fun hn => ⟨⟨g, 0, none⟩, rfl, hg hn, fun j hj => by rw [add_new]; exact (h j hj).1⟩⟩
theorem Buf.of_fr {W : World} {lo hi g n O : Nat} (h : Fr W lo hi (some ⟨g, 0, none⟩) n O) : Buf W g n O := fun j hj => by
  obtain ⟨g', e, _, _, hc⟩ := h.2 (by omega)
  cases e
  exact hc j hj

theorem made_any (w : World) (n : Nat) (hn : n ≤ 35184372087810) : ∃ w1, (Instr.makeSlice 23 (.int .i64 (n : Int)) (.int .i64 (n : Int))).run Tryz.prog w = .ok (.slice (some ⟨w.heap.size, 0, none⟩) n n) w1 ∧
    Fr w1 w.heap.size (w.heap.size + 1) (some ⟨w.heap.size, 0, none⟩) n 0 ∧ Below w.heap.size w w1 ∧ w1.heap.size = w.heap.size + 1 := by
  obtain ⟨i0, hi, hz0, hz1, hz2⟩ := info_parts info_u32
  have h := run_make (P := Tryz.prog) w 23 52 i0 (.int .u32 0) Tryz.underlying23 hi hz0 .i64 .i64 n n (by omega) (Int.le_refl _) (by rw [hz2]; omega) (by omega)
  simp only [Int.toNat_natCast] at h
  refine ⟨_, h, Fr.lit (Nat.le_refl _) (pow_pos_Bw _) (fun j hj => ?_), (Below.refl _ _).alloc (Nat.le_refl _) _, by simp⟩
  have e : (Value.int .u32 0).cells = #[.int .u32 0] := rfl
  have e2 := toList_madeCells_one (.int .u32 0) (n * i0.size)
  rw [e, dig_zero, ← Array.getElem?_toList, e2, hz1]
  simp [hj]
end Go.Proofs.YtdajbmjknilmiaaGreatDoor

/- Products limb by limb, as numbers. No function of the program. -/
namespace Go.Proofs.YtdajbmjknilmiaaGreatDoor
open Go Go.RowKit

theorem pow_add_mul (i k : Nat) : Bw ^ (i + k) = Bw ^ i * Bw ^ k := Nat.pow_add Bw i k
/-- One limb of a product more. -/
theorem mul_step {O O' v p d N M i k x : Nat} (hx : x = d * dig M k + dig O p + v) (hs : O' + dig O p * Bw ^ p = O + x % 4294967296 * Bw ^ p) (hp : p = i + k)
    (h : O + v * Bw ^ p = N + d * Bw ^ i * (M % Bw ^ k)) : O' + x / 4294967296 * Bw ^ (p + 1) = N + d * Bw ^ i * (M % Bw ^ (k + 1)) := by
  subst hp
  have e1 : x / 4294967296 * Bw ^ (i + k + 1) + x % 4294967296 * Bw ^ (i + k) = x * Bw ^ (i + k) := by
    rw [Nat.pow_succ, ← Nat.mul_assoc, Nat.mul_right_comm, ← Nat.add_mul]
    congr 1
    rw [Bw_eq]; omega
  have e2 : x * Bw ^ (i + k) = d * dig M k * Bw ^ (i + k) + dig O (i + k) * Bw ^ (i + k) + v * Bw ^ (i + k) := by rw [hx, Nat.add_mul, Nat.add_mul]
  have e3 : d * Bw ^ i * (M % Bw ^ (k + 1)) = d * Bw ^ i * (M % Bw ^ k) + d * dig M k * Bw ^ (i + k) := by
    rw [mod_succ, Nat.mul_add, pow_add_mul]
    congr 1
    ac_rfl
  omega
theorem prod_lt {N M n n' : Nat} (h : N < Bw ^ n) (h' : M < Bw ^ n') : N * M < Bw ^ (n + n') := by
  rw [pow_add_mul]
  exact Nat.mul_lt_mul'' h h'
end Go.Proofs.YtdajbmjknilmiaaGreatDoor

/- Numbers at hand: a limb more, nought; answers that are the same. No function of the program. -/
namespace Go.Proofs.YtdajbmjknilmiaaGreatDoor
open Go Go.RowKit

theorem lenL_pos {N : Nat} (h : N ≠ 0) : 0 < lenL N := by
  have := mt lenL_eq_zero.1 h
  omega
theorem Env.pick {w W : World} {e e' : List Num} (h : Env w e W) (hs : ∀ z ∈ e', z ∈ e) : Env w e' W := ⟨h.1, fun z hz => h.2 z (hs z hz)⟩
theorem Rds.env {w W : World} {e l : List Num} {A : Option Addr} (hR : Rds w w.heap.size A l) (h : Env w e W) : Rds W W.heap.size A l := (hR.below h.1).more h.1.size
theorem Fr.setCell {W : World} {lo hi g p n N : Nat} {A : Option Addr} (h : Fr W lo hi A n N) (hg : g < lo) (v : Value) : Fr (W.setCell ⟨g, p, none⟩ v) lo hi A n N :=
  ⟨h.1, fun hn => by
    obtain ⟨g', e, h1, h2, h3⟩ := h.2 hn
    refine ⟨g', e, h1, h2, fun j hj => ⟨?_, by rw [World.frozen?_setCell]; exact (h3 j hj).2⟩⟩
    rw [World.cell?_setCell_other W ⟨g, p, none⟩ ⟨g', j, none⟩ _ (by first | (simp; done) | (simp; omega)), (h3 j hj).1]⟩
theorem Env.lit {w W : World} {e : List Num} {N g : Nat} {v : Int} (h : Env w e W) (hv : v = (N : Int)) (hg : W.heap.size = g) (hN : N < 4294967296) :
    Env w (⟨some ⟨g, 0, none⟩, 1, 1, N⟩ :: e) (W.alloc (.cells #[.int .u32 v] 52)) := (h.alloc _).add (one_limb W hv hg hN)
theorem Env.nought {w W : World} {e : List Num} (h : Env w e W) : Env w (⟨none, 0, 0, 0⟩ :: e) W := h.add ⟨Rd.none_, Nat.le_refl _, by simp [maxLen], by simp⟩
section
variable {w W : World} {e : List Num} {x y z : Num}
end
end Go.Proofs.YtdajbmjknilmiaaGreatDoor

/- Quotients, rests, how often: as numbers. No function of the program. -/
namespace Go.Proofs.YtdajbmjknilmiaaGreatDoor
open Go Go.RowKit

/-- The rest; by nought: nought. -/
def restN (N M : Nat) : Nat := if M = 0 then 0 else N % M
/-- The error's number. -/
def zeroE (M : Nat) : Int := if M = 0 then 30 else 0
theorem restN_zero (N : Nat) : restN N 0 = 0 := rfl
theorem restN_pos {N M : Nat} (h : M ≠ 0) : restN N M = N % M := by simp [restN, h]
theorem zeroE_zero : zeroE 0 = 30 := rfl
theorem zeroE_pos {M : Nat} (h : M ≠ 0) : zeroE M = 0 := by simp [zeroE, h]
theorem restN_le (N M : Nat) : restN N M ≤ N := by
  unfold restN
  split
  · omega
  · exact Nat.mod_le _ _
/-- A limb of a number of one limb. -/
theorem one_cell {W : World} {hi N n : Nat} {A : Option Addr} (h : Rd W hi A n N) (hn : n = 1) : ∃ g, A = some g ∧ W.cell? g = some (.int .u32 (N : Nat)) := by
  subst hn
  obtain ⟨ad, e, _, hc⟩ := h.at_ (k := 0) (by omega)
  have h1 := h.1
  refine ⟨ad, e, ?_⟩
  have h2 : ad.add 0 = ad := by unfold Addr.add; split <;> simp_all
  rw [h2] at hc
  rw [hc, show dig N 0 = N from by rw [Nat.pow_one, Bw_eq] at h1; simp [dig, Bw_eq, Nat.mod_eq_of_lt h1]]
end Go.Proofs.YtdajbmjknilmiaaGreatDoor

/- Products of rows of numbers, powers, as numbers. No function of the program. -/
namespace Go.Proofs.YtdajbmjknilmiaaGreatDoor
open Go Go.RowKit

/-- A number of the call's own lies in a place. -/
def Has (w : World) (N : Nat) (v : Value) (w' : World) : Prop :=
  ∃ A c, v = .slice A (lenL N) c ∧ lenL N ≤ c ∧ c ≤ maxLen ∧ Fr w' w.heap.size w'.heap.size A (lenL N) N ∧ Below w.heap.size w w'
theorem Has.gives {w w' : World} {N : Nat} {v : Value} (h : Has w N v w') : Gives w N (.returned v) w' := by
  obtain ⟨A, c, rfl, h1, h2, h3, h4⟩ := h
  exact ⟨A, c, rfl, h1, h2, h3, h4⟩
theorem len_one : lenL 1 = 1 := by decide
theorem Has.one (w : World) (t : TypeId) : Has w 1 (.slice (some ⟨w.heap.size, 0, none⟩) 1 1) (w.alloc (.cells #[.int .u32 1] t)) := by
  refine ⟨some ⟨w.heap.size, 0, none⟩, 1, by rw [len_one], by rw [len_one]; omega, by simp [maxLen], ?_, (Below.refl _ _).alloc (Nat.le_refl _) _⟩
  rw [World.size_alloc, len_one]
  refine Fr.lit (Nat.le_refl _) (by decide) (fun j hj => ?_)
  obtain rfl : j = 0 := by omega
  rfl

end Go.Proofs.YtdajbmjknilmiaaGreatDoor

/- How many bits a number has. No function of the program. -/
namespace Go.Proofs.YtdajbmjknilmiaaGreatDoor
open Go Go.RowKit

/-- How many bits. -/
def bitsN (N : Nat) : Nat := if N = 0 then 0 else N.log2 + 1
theorem bitsN_zero : bitsN 0 = 0 := rfl
theorem bitsN_le {N k : Nat} : bitsN N ≤ k ↔ N < 2 ^ k := by
  unfold bitsN
  split
  · next h => subst h; simp [Nat.two_pow_pos]
  · next h => rw [← Nat.log2_lt h]; omega
theorem bitsN_eq {N k : Nat} (h1 : 2 ^ k ≤ N) (h2 : N < 2 ^ (k + 1)) : bitsN N = k + 1 := by
  have a := bitsN_le.2 h2
  have b : ¬ bitsN N ≤ k := fun h => by have := bitsN_le.1 h; omega
  omega

def half (d s : Nat) : Nat := d / 2 ^ s
theorem half_zero (d : Nat) : half d 0 = d := by simp [half]
theorem bits_of {N m s : Nat} (hm : lenL N = m + 1) (h0 : half (dig N m) s = 0) (h1 : s = 0 ∨ half (dig N m) (s - 1) ≠ 0) : bitsN N = 32 * m + s := by
  have hd := dig_top hm
  have hN : N < Bw ^ (m + 1) := by have := lt_pow_lenL N; rwa [hm] at this
  have hs : s ≠ 0 := fun e => hd (by rw [e, half_zero] at h0; exact h0)
  obtain ⟨t, rfl⟩ : ∃ t, s = t + 1 := ⟨s - 1, by omega⟩
  rw [Nat.add_sub_cancel] at h1
  have h2 : half (dig N m) t ≠ 0 := h1.resolve_left (by omega)
  have l1 : 2 ^ t ≤ dig N m := by
    rcases Nat.lt_or_ge (dig N m) (2 ^ t) with h | h
    · exact absurd (Nat.div_eq_of_lt h) h2
    · exact h
  have l2 : dig N m < 2 ^ (t + 1) := by
    rcases Nat.lt_or_ge (dig N m) (2 ^ (t + 1)) with h | h
    · exact h
    · have : 0 < dig N m / 2 ^ (t + 1) := Nat.div_pos h (Nat.two_pow_pos _)
      unfold half at h0; omega
  have e : N = N % Bw ^ m + Bw ^ m * dig N m := by rw [← mod_succ, Nat.mod_eq_of_lt hN]
  have hlt : N % Bw ^ m < Bw ^ m := Nat.mod_lt _ (pow_pos_Bw m)
  obtain ⟨r, hr⟩ : ∃ r, N % Bw ^ m = r := ⟨_, rfl⟩
  rw [hr] at e hlt
  have hp : Bw ^ m = 2 ^ (32 * m) := Bw_pow m
  refine bitsN_eq (k := 32 * m + t) ?_ ?_
  · rw [Nat.pow_add, ← hp]
    have := Nat.mul_le_mul_left (Bw ^ m) l1
    omega
  · rw [show 32 * m + t + 1 = 32 * m + (t + 1) from by omega, Nat.pow_add, ← hp]
    have := Nat.mul_le_mul_left (Bw ^ m) (show dig N m + 1 ≤ 2 ^ (t + 1) from l2)
    rw [Nat.mul_add, Nat.mul_one] at this
    omega
end Go.Proofs.YtdajbmjknilmiaaGreatDoor

/- A piece of a number, a piece of a row of numbers, as they lie in memory. No function of the program. -/
namespace Go.Proofs.YtdajbmjknilmiaaGreatDoor
open Go Go.RowKit

theorem dig_piece {N s k j : Nat} (hj : j < k) : dig (N / Bw ^ s % Bw ^ k) j = dig N (s + j) := by
  have h : dig (N / Bw ^ s % Bw ^ k) j = dig (N / Bw ^ s) j := by
    obtain ⟨q, hq⟩ : ∃ q, k = j + (q + 1) := ⟨k - j - 1, by omega⟩
    unfold dig
    rw [hq, pow_add_mul, Nat.mod_mul_right_div_self, Nat.pow_succ', Nat.mod_mul_right_mod]
  rw [h]
  unfold dig
  rw [Nat.div_div_eq_div_mul, ← pow_add_mul]
/-- A piece of a number. -/
theorem Rd.piece {W : World} {hi n N : Nat} {A : Option Addr} (h : Rd W hi A n N) {s k : Nat} (hs : s + k ≤ n) : Rd W hi (A.map fun ad => ad.add s) k (N / Bw ^ s % Bw ^ k) :=
  ⟨Nat.mod_lt _ (pow_pos_Bw k), fun hk => by
    obtain ⟨ad, e, hb, hc⟩ := h.2 (by omega)
    refine ⟨ad.add s, by rw [e]; rfl, by rw [add_block]; exact hb, fun j hj => ?_⟩
    rw [Addr.add_add, dig_piece hj]
    exact hc (s + j) (by omega)⟩
theorem mod_add_piece (N s k : Nat) : N % Bw ^ s + Bw ^ s * (N / Bw ^ s % Bw ^ k) = N % Bw ^ (s + k) := by rw [pow_add_mul, Nat.mod_mul]
theorem piece_end {N n s m : Nat} (h : N < Bw ^ n) (hs : s < n) : N % Bw ^ (s + (min (s + m) n - s)) = N % Bw ^ (s + m) := by
  rcases Nat.lt_or_ge n (s + m) with h1 | h1
  · rw [show s + (min (s + m) n - s) = n by omega, Nat.mod_eq_of_lt h, Nat.mod_eq_of_lt (lt_pow_of h (by omega))]
  · rw [show s + (min (s + m) n - s) = s + m by omega]

theorem Rd.low {W : World} {hi n N : Nat} {ad : Addr} (h : Rd W hi (some ad) n N) {k : Nat} (hs : k ≤ n) : Rd W hi (some ad) k (N % Bw ^ k) := by
  have := h.piece (s := 0) (k := k) (by omega)
  simpa [Addr.add_zero', Nat.div_one] using this
theorem Rd.empty {W : World} {hi n N : Nat} {A A' : Option Addr} (h : Rd W hi A n N) (h0 : n = 0) : Rd W hi A' n N := ⟨h.1, fun hn => by omega⟩
theorem Rd.high {W : World} {hi n N : Nat} {ad : Addr} (h : Rd W hi (some ad) n N) {k : Nat} (hs : k ≤ n) : Rd W hi (some (ad.add k)) (n - k) (N / Bw ^ k) := by
  have := h.piece (s := k) (k := n - k) (by omega)
  rw [Nat.mod_eq_of_lt] at this
  · exact this
  · rw [Nat.div_lt_iff_lt_mul (pow_pos_Bw k), ← pow_add_mul, show n - k + k = n by omega]; exact h.1

theorem Rds.take {W : World} {hi : Nat} {A : Option Addr} {l : List Num} (h : Rds W hi A l) (k : Nat) : Rds W hi A (l.take k) := fun j hj => by
  have hj' : j < l.length := by rw [List.length_take] at hj; omega
  have := h j hj'
  rwa [List.getElem_take]
theorem Rds.drop {W : World} {hi : Nat} {ad : Addr} {l : List Num} (h : Rds W hi (some ad) l) (k : Nat) : Rds W hi (some (ad.add k)) (l.drop k) := fun j hj => by
  have hj' : k + j < l.length := by rw [List.length_drop] at hj; omega
  obtain ⟨⟨ad', e, hb, hc⟩, h2⟩ := h (k + j) hj'
  cases e
  rw [List.getElem_drop]
  exact ⟨⟨_, rfl, by rw [add_block]; exact hb, by rw [Addr.add_add]; exact hc⟩, h2⟩
end Go.Proofs.YtdajbmjknilmiaaGreatDoor

/- Numbers shifted down, as numbers. No function of the program. -/
namespace Go.Proofs.YtdajbmjknilmiaaGreatDoor
open Go Go.RowKit

theorem down_dig {N q r j : Nat} (hr : r ≤ 32) : dig (N / 2 ^ (32 * q + r)) j = (dig N (q + j) + 4294967296 * dig N (q + j + 1)) / 2 ^ r % 4294967296 := by
  have hB : Bw = 2 ^ r * 2 ^ (32 - r) := by rw [← Nat.pow_add, show r + (32 - r) = 32 from by omega]; rfl
  obtain ⟨Y, hY⟩ : ∃ Y, N / Bw ^ (q + j) = Y := ⟨_, rfl⟩
  have e1 : dig (N / 2 ^ (32 * q + r)) j = Y / 2 ^ r % Bw := by
    unfold dig
    rw [Nat.pow_add, ← Bw_pow, ← hY, pow_add_mul, ← Nat.div_div_eq_div_mul, ← Nat.div_div_eq_div_mul, Nat.div_div_eq_div_mul _ (2 ^ r), Nat.mul_comm (2 ^ r), ← Nat.div_div_eq_div_mul]
  have e2 : dig N (q + j) = Y % Bw := by unfold dig; rw [hY]
  have e3 : dig N (q + j + 1) = Y / Bw % Bw := by unfold dig; rw [Nat.pow_succ, ← Nat.div_div_eq_div_mul, hY]
  rw [e1, e2, e3, ← Bw_eq]
  have e4 : Y = 2 ^ r * (2 ^ (32 - r) * Bw * (Y / Bw / Bw)) + (Y % Bw + Bw * (Y / Bw % Bw)) := by
    have h1 := Nat.div_add_mod Y Bw
    have h2 := Nat.div_add_mod (Y / Bw) Bw
    have h3 : 2 ^ r * (2 ^ (32 - r) * Bw * (Y / Bw / Bw)) = Bw * (Bw * (Y / Bw / Bw)) := by rw [← Nat.mul_assoc, ← Nat.mul_assoc, ← hB, Nat.mul_assoc]
    rw [h3]
    have h4 : Bw * (Y / Bw) = Bw * (Bw * (Y / Bw / Bw)) + Bw * (Y / Bw % Bw) := by rw [← Nat.mul_add, h2]
    omega
  obtain ⟨y, hy⟩ : ∃ y, Y % Bw + Bw * (Y / Bw % Bw) = y := ⟨_, rfl⟩
  obtain ⟨z, hz⟩ : ∃ z, Y / Bw / Bw = z := ⟨_, rfl⟩
  rw [hy, hz] at e4
  rw [hy]
  conv => lhs; rw [e4, Nat.mul_add_div (Nat.two_pow_pos r)]
  rw [show 2 ^ (32 - r) * Bw * z = Bw * (2 ^ (32 - r) * z) from by ac_rfl, Nat.mul_add_mod]
theorem int_i64 {a b : Int} (h : a = b) : Value.int .i64 a = .int .i64 b := by rw [h]
end Go.Proofs.YtdajbmjknilmiaaGreatDoor

/- Numbers shifted up, as numbers; a row that is made. No function of the program. -/
namespace Go.Proofs.YtdajbmjknilmiaaGreatDoor
open Go Go.RowKit

theorem up_lt {N n q r : Nat} (h : N < Bw ^ n) (hr : r ≤ 32) : N * 2 ^ (32 * q + r) < Bw ^ (q + n + 1) := by
  rw [Nat.pow_add 2, ← Bw_pow, Nat.pow_succ, pow_add_mul]
  have h1 : 2 ^ r ≤ Bw := by have : (2 : Nat) ^ r ≤ 2 ^ 32 := Nat.pow_le_pow_right (by omega) hr; exact this
  calc N * (Bw ^ q * 2 ^ r) = Bw ^ q * N * 2 ^ r := by ac_rfl
    _ ≤ Bw ^ q * N * Bw := Nat.mul_le_mul_left _ h1
    _ < Bw ^ q * Bw ^ n * Bw := Nat.mul_lt_mul_of_pos_right (Nat.mul_lt_mul_of_pos_left h (pow_pos_Bw q)) Bw_pos

theorem up_len {N n : Nat} (h : N < Bw ^ n) (m : Nat) : lenL (N * 2 ^ m) ≤ m / 32 + n + 1 := by
  have := up_lt (q := m / 32) (r := m % 32) h (by omega)
  rw [Nat.div_add_mod] at this
  exact lenL_le.2 this
end Go.Proofs.YtdajbmjknilmiaaGreatDoor

/- Halving and greatest common divisors, as numbers. No function of the program. -/
namespace Go.Proofs.YtdajbmjknilmiaaGreatDoor
open Go Go.RowKit

theorem odd_coprime {d : Nat} (h : d % 2 = 1) (k : Nat) : Nat.Coprime d (2 ^ k) := by
  refine Nat.Coprime.pow_right k ?_
  have h1 : Nat.gcd d 2 ∣ 2 := Nat.gcd_dvd_right d 2
  have h2 : Nat.gcd d 2 ∣ d := Nat.gcd_dvd_left d 2
  have h3 : Nat.gcd d 2 ≤ 2 := Nat.le_of_dvd (by omega) h1
  have h4 : Nat.gcd d 2 ≠ 0 := fun e => by rw [e] at h1; have := Nat.eq_zero_of_zero_dvd h1; omega
  have h5 : Nat.gcd d 2 ≠ 2 := fun e => by rw [e] at h2; omega
  show Nat.gcd d 2 = 1
  omega
theorem odd_dvd {d k m : Nat} (h : d % 2 = 1) : d ∣ 2 ^ k * m ↔ d ∣ m :=
  ⟨fun hd => Nat.Coprime.dvd_of_dvd_mul_left (odd_coprime h k) hd, fun hd => Nat.dvd_trans hd (Nat.dvd_mul_left m _)⟩

/-- How often a number can be halved. -/
def IsTwos (N k : Nat) : Prop := ∃ m, N = 2 ^ k * m ∧ m % 2 = 1
theorem odd_gcd {m m' : Nat} (h : m % 2 = 1) : Nat.gcd m m' % 2 = 1 := by
  have h1 := Nat.gcd_dvd_left m m'
  rcases Nat.mod_two_eq_zero_or_one (Nat.gcd m m') with h2 | h2
  · have h3 : 2 ∣ m := Nat.dvd_trans (Nat.dvd_of_mod_eq_zero h2) h1
    omega
  · exact h2
theorem gcd_twos {k k' m m' : Nat} (h : m % 2 = 1) (h' : m' % 2 = 1) : Nat.gcd (2 ^ k * m) (2 ^ k' * m') = Nat.gcd m m' * 2 ^ min k k' := by
  rcases Nat.le_total k k' with hk | hk
  · rw [show k' = k + (k' - k) by omega, Nat.pow_add, Nat.mul_assoc, Nat.gcd_mul_left, Nat.Coprime.gcd_mul_left_cancel_right _ (odd_coprime h (k' - k)).symm, show min k (k + (k' - k)) = k by omega, Nat.mul_comm]
  · rw [show k = k' + (k - k') by omega, Nat.pow_add, Nat.mul_assoc, Nat.gcd_mul_left, Nat.Coprime.gcd_mul_left_cancel _ (odd_coprime h' (k - k')).symm, show min (k' + (k - k')) k' = k' by omega, Nat.mul_comm]

/-- How often a number can be halved, found limb by limb. -/
theorem twos_dig {N j s q : Nat} (h0 : N % Bw ^ j = 0) (hq : dig N j / 2 ^ s = q) (hd : dig N j % 2 ^ s = 0) (ho : q % 2 = 1) : ∃ m, N = 2 ^ (32 * j + s) * m ∧ m % 2 = 1 := by
  have hs : s < 32 := by
    rcases Nat.lt_or_ge s 32 with h1 | h1
    · exact h1
    · have h2 : (2 : Nat) ^ 32 ≤ 2 ^ s := Nat.pow_le_pow_right (by omega) h1
      have h3 := dig_lt N j
      rw [Nat.div_eq_of_lt (by omega)] at hq
      omega
  obtain ⟨X, hX⟩ : ∃ X, N / Bw ^ j = X := ⟨_, rfl⟩
  have e1 : N = Bw ^ j * X := by
    have := Nat.div_add_mod N (Bw ^ j)
    rw [h0, hX] at this
    omega
  have e2 : dig N j = X % Bw := by unfold dig; rw [hX]
  have e3 : dig N j = 2 ^ s * q := by
    have := Nat.div_add_mod (dig N j) (2 ^ s)
    rw [hd, hq] at this
    omega
  have hB : Bw = 2 ^ s * (2 * 2 ^ (31 - s)) := by
    rw [← Nat.pow_succ', ← Nat.pow_add, show s + (31 - s + 1) = 32 from by omega]
    rfl
  obtain ⟨z, hz⟩ : ∃ z, X / Bw = z := ⟨_, rfl⟩
  have e4 : X = 2 ^ s * (2 * (2 ^ (31 - s) * z) + q) := by
    have h := Nat.div_add_mod X Bw
    rw [← e2, e3, hz] at h
    rw [Nat.mul_add, ← h, hB]
    congr 1
    ac_rfl
  refine ⟨2 * (2 ^ (31 - s) * z) + q, ?_, by omega⟩
  rw [Nat.pow_add, ← Bw_pow, Nat.mul_assoc, ← e4, e1]
end Go.Proofs.YtdajbmjknilmiaaGreatDoor

/- The greatest common divisor of a row of numbers; its length. No function of the program. -/
namespace Go.Proofs.YtdajbmjknilmiaaGreatDoor
open Go Go.RowKit

theorem gcd_len {N M n m b : Nat} (h : N < Bw ^ n) (h' : M < Bw ^ m) (hn : n ≤ b) (hm : m ≤ b) : lenL (Nat.gcd N M) ≤ b := by
  rcases Nat.eq_zero_or_pos N with h0 | h0
  · subst h0
    rw [Nat.gcd_zero_left]
    exact Nat.le_trans (lenL_le.2 h') hm
  · exact Nat.le_trans (lenL_mono (Nat.gcd_le_left M h0)) (Nat.le_trans (lenL_le.2 h) hn)
theorem Has.zero (w : World) : Has w 0 (.slice none 0 0) w := ⟨none, 0, by rw [lenL_zero], by rw [lenL_zero]; omega, by simp [maxLen], by rw [lenL_zero]; exact Fr.nil, Below.refl _ _⟩
end Go.Proofs.YtdajbmjknilmiaaGreatDoor

/- Dividing limb by limb: what the steps are worth, as numbers. No function of the program. -/
namespace Go.Proofs.YtdajbmjknilmiaaGreatDoor
open Go

/-- One limb of a row, taken so many times, has been taken away. -/
theorem take_step {O P P' t M i k p v b e x : Nat} (hx : x = v + t * dig M k) (he : e + x % 4294967296 = dig P p + b * 4294967296) (hs : P' + dig P p * Bw ^ p = P + e * Bw ^ p) (hp : p = i + k)
    (h : P + t * Bw ^ i * (M % Bw ^ k) = O + v * Bw ^ p) : P' + t * Bw ^ i * (M % Bw ^ (k + 1)) = O + (x / 4294967296 + b) * Bw ^ (p + 1) := by
  subst hp
  have e3 : t * Bw ^ i * (M % Bw ^ (k + 1)) = t * Bw ^ i * (M % Bw ^ k) + t * dig M k * Bw ^ (i + k) := by
    rw [mod_succ, Nat.mul_add, Nat.pow_add]
    congr 1
    ac_rfl
  have e4 : (x / 4294967296 + b) * Bw ^ (i + k + 1) = (x / 4294967296 * 4294967296) * Bw ^ (i + k) + b * 4294967296 * Bw ^ (i + k) := by
    rw [Nat.pow_succ, Bw_eq, Nat.add_mul]
    congr 1 <;> ac_rfl
  have e5 : x * Bw ^ (i + k) = v * Bw ^ (i + k) + t * dig M k * Bw ^ (i + k) := by rw [hx, Nat.add_mul]
  have e6 : x * Bw ^ (i + k) = (x / 4294967296 * 4294967296) * Bw ^ (i + k) + x % 4294967296 * Bw ^ (i + k) := by
    rw [← Nat.add_mul]; congr 1; omega
  have e7 : e * Bw ^ (i + k) + x % 4294967296 * Bw ^ (i + k) = dig P (i + k) * Bw ^ (i + k) + b * 4294967296 * Bw ^ (i + k) := by
    rw [← Nat.add_mul, he, Nat.add_mul]
  omega

/-- What a guess rests on: the three highest limbs of a window against the two highest of what it is divided by. -/
structure Top (U D Z H r0 t h l : Nat) : Prop where
  u : ∃ a, U = (H * 4294967296 + t) * Z + a ∧ a < Z
  d : ∃ a, D = (h * 4294967296 + l) * Z + a ∧ a < Z
  h1 : 0 < h
  h2 : h < 4294967296
  l2 : l < 4294967296
  t2 : t < 4294967296
  r : r0 = 0
  lt : U < D * 4294967296
variable {U D Z H t h l : Nat}

theorem Top.low (T : Top U D Z H 0 t h l) : (h * 4294967296 + l) * Z ≤ D := by
  obtain ⟨a, e, _⟩ := T.d
  omega
theorem Top.dpos (T : Top U D Z H 0 t h l) : 0 < D := by
  have := T.lt
  rcases Nat.eq_zero_or_pos D with h | h
  · subst h; omega
  · exact h
theorem Top.q_lt (T : Top U D Z H 0 t h l) : U / D < 4294967296 := by
  rw [Nat.div_lt_iff_lt_mul T.dpos, Nat.mul_comm]; exact T.lt
/-- The quotient, times the two highest limbs, is no more than the three highest. -/
theorem Top.q_le (T : Top U D Z H 0 t h l) : U / D * (h * 4294967296 + l) ≤ H * 4294967296 + t := by
  obtain ⟨a, e, ha⟩ := T.u
  have h1 : U / D * D ≤ U := Nat.div_mul_le_self U D
  have h2 : U / D * ((h * 4294967296 + l) * Z) ≤ U / D * D := Nat.mul_le_mul_left _ T.low
  rw [← Nat.mul_assoc] at h2
  have h3 : U / D * (h * 4294967296 + l) * Z < (H * 4294967296 + t + 1) * Z := by
    rw [Nat.add_mul (H * 4294967296 + t) 1 Z, Nat.one_mul]; omega
  have := Nat.lt_of_mul_lt_mul_right h3
  omega
theorem Top.first (T : Top U D Z H 0 t h l) : U / D ≤ H / h := by
  rw [Nat.le_div_iff_mul_le T.h1]
  have h1 := T.q_le
  rw [Nat.mul_add, ← Nat.mul_assoc] at h1
  have := T.t2
  omega
/-- A guess that passes is too great by one at the most. -/
theorem Top.last {q : Nat} (T : Top U D Z H 0 t h l) (hq : q * (h * 4294967296 + l) ≤ H * 4294967296 + t) (hb : q < 4294967297) : q ≤ U / D + 1 := by
  rcases Nat.eq_zero_or_pos q with h0 | h0
  · subst h0; exact Nat.zero_le _
  · obtain ⟨a, ea, ha⟩ := T.d
    obtain ⟨b, eb, _⟩ := T.u
    have h1 := T.h1
    obtain ⟨k, rfl⟩ : ∃ k, q = k + 1 := ⟨q - 1, by omega⟩
    suffices hs : k ≤ U / D by omega
    rw [Nat.le_div_iff_mul_le T.dpos, ea, Nat.mul_add, ← Nat.mul_assoc]
    rw [Nat.add_mul, Nat.one_mul] at hq
    have h2 : k * a ≤ 4294967295 * Z + Z := by
      have := Nat.mul_le_mul (show k ≤ 4294967296 by omega) (Nat.le_of_lt ha)
      omega
    have h3 : 4294967296 * Z ≤ (h * 4294967296 + l) * Z := Nat.mul_le_mul_right _ (by omega)
    have h4 := Nat.mul_le_mul_right Z hq
    rw [Nat.add_mul] at h4
    omega

/-- Between two guesses. -/
def Guess (U D H h q r : Nat) : Prop := H = q * h + r ∧ U / D ≤ q
theorem Top.start (T : Top U D Z H 0 t h l) : Guess U D H h (H / h) (H % h) := ⟨(Nat.div_add_mod' H h).symm, T.first⟩
theorem Top.next {q r : Nat} (T : Top U D Z H 0 t h l) (hg : Guess U D H h q r) (hm : 4294967295 < q ∨ r * 4294967296 + t < q * l) : 1 ≤ q ∧ Guess U D H h (q - 1) (r + h) ∧ r + h ≤ H := by
  obtain ⟨e, hq⟩ := hg
  have h0 : 1 ≤ q := by
    rcases hm with hm | hm
    · omega
    · rcases Nat.eq_zero_or_pos q with h | h
      · subst h; omega
      · exact h
  obtain ⟨k, rfl⟩ : ∃ k, q = k + 1 := ⟨q - 1, by omega⟩
  rw [Nat.add_mul, Nat.one_mul] at e
  refine ⟨h0, ⟨by rw [Nat.add_sub_cancel]; omega, ?_⟩, by omega⟩
  rw [Nat.add_sub_cancel]
  rcases Nat.lt_or_ge k (U / D) with h | h
  · exfalso
    have hqe : U / D = k + 1 := by omega
    rcases hm with hm | hm
    · have := T.q_lt
      omega
    · have h1 := T.q_le
      rw [hqe, Nat.mul_add, ← Nat.mul_assoc, Nat.add_mul k 1 _, Nat.one_mul, Nat.add_mul] at h1
      omega
  · exact h
theorem Top.stop {q r : Nat} (T : Top U D Z H 0 t h l) (hg : Guess U D H h q r) (hq : ¬ 4294967295 < q) (hm : 4294967295 < r ∨ q * l ≤ r * 4294967296 + t) : U / D ≤ q ∧ q ≤ U / D + 1 := by
  refine ⟨hg.2, T.last ?_ (by omega)⟩
  have e := hg.1
  have h2 : q * l ≤ r * 4294967296 + t := by
    rcases hm with hm | hm
    · have := Nat.mul_le_mul (show q ≤ 4294967295 by omega) (show l ≤ 4294967295 by have := T.l2; omega)
      omega
    · exact hm
  rw [Nat.mul_add, ← Nat.mul_assoc, e, Nat.add_mul]
  omega
theorem top_of {U D n : Nat} (hn : 2 ≤ n) (hU : U < Bw ^ (n + 1)) (hD : D < Bw ^ n) (h1 : dig D (n - 1) ≠ 0) (hlt : U < D * Bw) :
    Top U D (Bw ^ (n - 2)) (dig U n * 4294967296 + dig U (n - 1)) 0 (dig U (n - 2)) (dig D (n - 1)) (dig D (n - 2)) := by
  obtain ⟨m, rfl⟩ : ∃ m, n = m + 2 := ⟨n - 2, by omega⟩
  rw [show m + 2 - 1 = m + 1 by omega, show m + 2 - 2 = m by omega] at *
  have u0 := mod_full hU
  have d0 := mod_full hD
  rw [show m + 2 + 1 = (m + 2) + 1 from rfl, mod_succ, show m + 2 = (m + 1) + 1 from rfl, mod_succ, mod_succ] at u0
  rw [show m + 2 = (m + 1) + 1 from rfl, mod_succ, mod_succ] at d0
  refine ⟨⟨U % Bw ^ m, ?_, Nat.mod_lt _ (pow_pos_Bw m)⟩, ⟨D % Bw ^ m, ?_, Nat.mod_lt _ (pow_pos_Bw m)⟩, Nat.pos_of_ne_zero h1, dig_lt _ _, dig_lt _ _, dig_lt _ _, rfl, hlt⟩
  · rw [show Bw ^ (m + 1 + 1) = Bw ^ m * Bw * Bw from by rw [Nat.pow_succ, Nat.pow_succ], show Bw ^ (m + 1) = Bw ^ m * Bw from Nat.pow_succ _ _, Bw_eq] at u0
    rw [Nat.add_mul, Nat.add_mul, Nat.add_mul]
    rw [show m + 1 + 1 = m + 2 from rfl] at u0
    have e1 : 4294967296 ^ m * 4294967296 * 4294967296 * dig U (m + 2) = dig U (m + 2) * 4294967296 * 4294967296 * 4294967296 ^ m := by ac_rfl
    have e2 : 4294967296 ^ m * 4294967296 * dig U (m + 1) = dig U (m + 1) * 4294967296 * 4294967296 ^ m := by ac_rfl
    have e3 : 4294967296 ^ m * dig U m = dig U m * 4294967296 ^ m := Nat.mul_comm _ _
    rw [e1, e2, e3] at u0
    rw [Bw_eq]
    omega
  · rw [show Bw ^ (m + 1) = Bw ^ m * Bw from Nat.pow_succ _ _, Bw_eq] at d0
    rw [Nat.add_mul]
    have e2 : 4294967296 ^ m * 4294967296 * dig D (m + 1) = dig D (m + 1) * 4294967296 * 4294967296 ^ m := by ac_rfl
    have e3 : 4294967296 ^ m * dig D m = dig D m * 4294967296 ^ m := Nat.mul_comm _ _
    rw [e2, e3] at d0
    rw [Bw_eq]
    omega
/-- One limb of a quotient: what is left of the rest. -/
theorem quo_step {V D i R : Nat} (hD : 0 < D) (hR : R = V % (D * Bw ^ (i + 1))) :
    R / Bw ^ i < D * Bw ∧ R / Bw ^ i / D = dig (V / D) i ∧ R = V % (D * Bw ^ i) + dig (V / D) i * Bw ^ i * D ∧ V % (D * Bw ^ i) < Bw ^ i * D := by
  have hp := pow_pos_Bw i
  have hDp : 0 < D * Bw ^ i := Nat.mul_pos hD hp
  have e0 : D * Bw ^ (i + 1) = D * Bw ^ i * Bw := by rw [Nat.pow_succ, Nat.mul_assoc]
  have e1 : R / (D * Bw ^ i) = dig (V / D) i := by
    rw [hR, e0, Nat.mod_mul_right_div_self, ← Nat.div_div_eq_div_mul]
    rfl
  have e2 : R % (D * Bw ^ i) = V % (D * Bw ^ i) := by rw [hR, e0, Nat.mod_mul_right_mod]
  refine ⟨?_, ?_, ?_, by rw [Nat.mul_comm (Bw ^ i)]; exact Nat.mod_lt _ hDp⟩
  · rw [Nat.div_lt_iff_lt_mul hp, Nat.mul_assoc, Nat.mul_comm Bw, ← Nat.mul_assoc, hR, e0]
    exact Nat.mod_lt _ (Nat.mul_pos hDp Bw_pos)
  · rw [Nat.div_div_eq_div_mul, Nat.mul_comm (Bw ^ i)]; exact e1
  · rw [← e1, ← e2, Nat.mul_assoc, Nat.mul_comm (Bw ^ i) D, Nat.mul_comm (R / _)]
    exact (Nat.mod_add_div R _).symm
/-- The guess was right: nothing is borrowed. -/
theorem quo_right {R X qt q Z D b P O' : Nat} (hR : R = X + qt * Z * D) (h1 : qt ≤ q) (hq : q ≤ qt + 1) (hX : X < Z * D) (ht : O' + q * Z * D = R + b * P) (h0 : b = 0) : q = qt ∧ O' = X := by
  subst h0
  rcases Nat.lt_or_ge qt q with h | h
  · obtain rfl : q = qt + 1 := by omega
    rw [Nat.add_mul, Nat.add_mul, Nat.one_mul] at ht
    omega
  · obtain rfl : q = qt := by omega
    exact ⟨rfl, by omega⟩
/-- The guess was one too great. -/
theorem quo_wrong {R X qt q Z D b P O' : Nat} (hR : R = X + qt * Z * D) (h1 : qt ≤ q) (hq : q ≤ qt + 1) (hO : O' < P) (hb : b ≤ 1) (ht : O' + q * Z * D = R + b * P) (h0 : 0 < b) : q = qt + 1 ∧ O' + Z * D = X + P := by
  obtain rfl : b = 1 := by omega
  rcases Nat.lt_or_ge qt q with h | h
  · obtain rfl : q = qt + 1 := by omega
    rw [Nat.add_mul, Nat.add_mul, Nat.one_mul] at ht
    exact ⟨rfl, by omega⟩
  · obtain rfl : q = qt := by omega
    omega
/-- The number is given back to the window. -/
theorem quo_back {X O' D i m : Nat} (h : O' + Bw ^ i * D = X + Bw ^ (i + m)) (hX : X < Bw ^ (i + m)) : Bw ^ m ≤ O' / Bw ^ i + D ∧ O' % Bw ^ i + Bw ^ i * ((O' / Bw ^ i + D) % Bw ^ m) = X := by
  have hp := pow_pos_Bw i
  have e1 : O' / Bw ^ i + D = X / Bw ^ i + Bw ^ m := by
    rw [← Nat.add_mul_div_left _ _ hp, h, Nat.pow_add, Nat.add_mul_div_left _ _ hp]
  have e2 : O' % Bw ^ i = X % Bw ^ i := by
    rw [← Nat.add_mul_mod_self_left O' (Bw ^ i) D, h, Nat.pow_add, Nat.add_mul_mod_self_left]
  refine ⟨by rw [e1]; exact Nat.le_add_left _ _, ?_⟩
  have e3 : X / Bw ^ i < Bw ^ m := by rw [Nat.div_lt_iff_lt_mul hp, Nat.mul_comm, ← Nat.pow_add]; exact hX
  rw [e1, Nat.add_mod_right, Nat.mod_eq_of_lt e3, e2, Nat.mod_add_div]
end Go.Proofs.YtdajbmjknilmiaaGreatDoor

/- Dividing bit by bit, as numbers. No function of the program. -/
namespace Go.Proofs.YtdajbmjknilmiaaGreatDoor
open Go Go.RowKit

end Go.Proofs.YtdajbmjknilmiaaGreatDoor
