/- What all the contracts speak with: a number is handed back; numbers at hand; limbs as values. No function of the program. -/
import Derived.WalkKit
import Derived.WalkSpells
import Derived.WalkLawsBesides
import Derived.LoopTactic
import Derived.Outline
import Derived.Lib.Hide
import Derived.IntWalk
import Derived.Deep.QuietTactic
import Derived.BigQuiet
import Derived.Laws.BitsAllLaws
import Derived.Test.YtjakmpphfjhbaaaRows
import Derived.Test.YtjakmpphfjhbaaaRead
import Derived.Test.YtjakmpphfjhbaaaApp
namespace Go.Proofs.Ytjakmpphfjhbaaa
open Go Go.RowKit

theorem wrap_u64 (a : Int) : IntKind.u64.wrap a = a % 18446744073709551616 := by rfl

theorem info_u32 : (Try.prog.info? 25).map (fun i => (i.zero, i.size, i.bytes)) = some (some (.int .u32 0), 1, 4) := by kernel_rfl

/-- The limbs of N as values. -/
def limbs (N n : Nat) : List Value := (List.range n).map fun j => .int .u32 (dig N j : Nat)
theorem limbs_length (N n : Nat) : (limbs N n).length = n := by simp [limbs]
theorem limbs_at {N n j : Nat} (h : j < n) : (limbs N n)[j]? = some (.int .u32 (dig N j : Nat)) := by simp [limbs, h]
theorem limbs_get {N n j : Nat} {u : Value} (h : (limbs N n)[j]? = some u) : j < n ∧ u = .int .u32 (dig N j : Nat) := by
  have hj : j < n := by have := (List.getElem?_eq_some_iff.1 h).1; rwa [limbs_length] at this
  rw [limbs_at hj] at h
  exact ⟨hj, by injection h with h; exact h.symm⟩
theorem limbs_one {N n : Nat} : ∀ u ∈ limbs N n, u.oneCell' = true := by
  intro u hu
  simp only [limbs, List.mem_map] at hu
  obtain ⟨j, _, rfl⟩ := hu
  rfl

/-- A number of the call's own is handed back. -/
def Gives (w : World) (N : Nat) (e : Ending) (w' : World) : Prop :=
  ∃ A c, e = .returned (.slice A (lenL N) c) ∧ lenL N ≤ c ∧ c ≤ maxLen ∧ Fr w' w.heap.size w'.heap.size A (lenL N) N ∧ Below w.heap.size w w'

theorem quiet_same {P : Program} {f : FuncId} {args : Array Value} {w : World} {n : Nat} {v : Value}
    (h : Calls P f args (w.drewN n) fun e w' => e = .returned v ∧ w.drewN n = w') : Calls P f args (w.drewN n) fun e w'' => e = .returned v ∧ ∃ m, w'' = w.drewN m :=
  h.mono fun _ _ ⟨he, hm⟩ => ⟨he, n, hm.symm⟩

def sameB (n n' N M : Nat) : Bool := decide (n = n' ∧ N = M)

theorem digs_all {n N M : Nat} (hN : N < Bw ^ n) (hM : M < Bw ^ n) (h : ∀ j, j < n → dig N j = dig M j) : N = M := eq_of_digs hN hM h

theorem below_drewN {w W : World} {B : Nat} (h : Below B w W) (q : Nat) : Below B w (W.drewN q) := ⟨h.os, h.tape, h.output, h.size, h.block⟩

/-- -1, 0, 1. -/
def cmpN (N N' : Nat) : Int := if N < N' then -1 else if N' < N then 1 else 0
theorem cmpN_lt {N N' : Nat} (h : N < N') : cmpN N N' = -1 := by simp [cmpN, h]
theorem cmpN_gt {N N' : Nat} (h : N' < N) : cmpN N N' = 1 := by unfold cmpN; rw [if_neg (by omega), if_pos h]
theorem cmpN_eq (N : Nat) : cmpN N N = 0 := by simp [cmpN]

theorem Rds.lit {w : World} {t : TypeId} {cs : Array Value} {l : List Num} (hcs : ∀ k (h : k < l.length), cs[k]? = some (.slice l[k].A l[k].n l[k].c)) (hok : ∀ x ∈ l, x.ok w w.heap.size) :
    Rds (w.alloc (.cells cs t)) (w.heap.size + 1) (some ⟨w.heap.size, 0, none⟩) l := fun k hk =>
  ⟨⟨_, rfl, by simp, by
    have h := World.alloc_heap_new' w (.cells cs t)
    rw [add_new]
    simp only [World.cell?, h]
    simpa using hcs k hk⟩, ((hok _ (List.getElem_mem hk)).below ((Below.refl _ _).alloc (Nat.le_refl _) _)).more (by omega)⟩
theorem Rds.two {w : World} {t : TypeId} {x y : Num} (hx : x.ok w w.heap.size) (hy : y.ok w w.heap.size) :
    Rds (w.alloc (.cells #[.slice x.A x.n x.c, .slice y.A y.n y.c] t)) (w.alloc (.cells #[.slice x.A x.n x.c, .slice y.A y.n y.c] t)).heap.size (some ⟨w.heap.size, 0, none⟩) [x, y] := by
  rw [World.size_alloc]
  refine Rds.lit (fun k hk => ?_) (fun z hz => ?_)
  · match k, hk with
    | 0, _ => rfl
    | 1, _ => rfl
  · simp only [List.mem_cons, List.not_mem_nil, or_false] at hz
    rcases hz with rfl | rfl <;> assumption
theorem Rds.one {w : World} {t : TypeId} {x : Num} (hx : x.ok w w.heap.size) :
    Rds (w.alloc (.cells #[.slice x.A x.n x.c] t)) (w.alloc (.cells #[.slice x.A x.n x.c] t)).heap.size (some ⟨w.heap.size, 0, none⟩) [x] := by
  rw [World.size_alloc]
  refine Rds.lit (fun k hk => ?_) (fun z hz => ?_)
  · match k, hk with
    | 0, _ => rfl
  · simp only [List.mem_cons, List.not_mem_nil, or_false] at hz
    subst hz; assumption

/-- A number that has been handed back may be handed on. -/
theorem Fr.ok {w' : World} {lo c N : Nat} {A : Option Addr} (h : Fr w' lo w'.heap.size A (lenL N) N) (hc : lenL N ≤ c) (hm : c ≤ maxLen) (hl : lenL N ≤ 35184372087808) : (Num.mk A (lenL N) c N).ok w' w'.heap.size := ⟨h.rd, hc, hm, hl⟩

theorem one_limb (w : World) {N g : Nat} {v : Int} (hv : v = (N : Int)) (hg : w.heap.size = g) (hN : N < 4294967296) : (Num.mk (some ⟨g, 0, none⟩) 1 1 N).ok (w.alloc (.cells #[.int .u32 v] 25)) (w.alloc (.cells #[.int .u32 v] 25)).heap.size := by
  subst hv hg
  refine ⟨?_, Nat.le_refl _, by simp [maxLen], by simp⟩
  rw [World.size_alloc]
  refine (Fr.lit (lo := 0) (Nat.zero_le _) (by simpa [Bw] using hN) (fun j hj => ?_)).rd
  have hj : j < 1 := hj
  obtain rfl : j = 0 := by omega
  simp [dig, Bw, Nat.mod_eq_of_lt hN]

theorem Gives.alloc {w w' : World} {o : Obj} {N : Nat} {e : Ending} (h : Gives (w.alloc o) N e w') : Gives w N e w' := by
  obtain ⟨A, c, he, h1, h2, h3, h4⟩ := h
  rw [World.size_alloc] at h3 h4
  exact ⟨A, c, he, h1, h2, h3.from (by omega), ((Below.refl _ w).alloc (Nat.le_refl _) o).trans (h4.mono (by omega))⟩
theorem Num.ok.alloc {w : World} {x : Num} (h : x.ok w w.heap.size) (o : Obj) : x.ok (w.alloc o) (w.alloc o).heap.size :=
  (h.below ((Below.refl _ _).alloc (Nat.le_refl _) _)).more (by simp)
theorem Num.ok.later {w w' : World} {x : Num} (h : x.ok w w.heap.size) (hb : Below w.heap.size w w') : x.ok w' w'.heap.size := (h.below hb).more hb.size

/-- Nothing that lay in w has turned, and the numbers of l lie in W. -/
def Env (w : World) (l : List Num) (W : World) : Prop := Below w.heap.size w W ∧ ∀ x ∈ l, x.ok W W.heap.size
section
variable {w W : World} {l : List Num} {x y z : Num}
theorem Env.start (h : ∀ x ∈ l, x.ok w w.heap.size) : Env w l w := ⟨Below.refl _ _, h⟩
theorem Env.step {W' : World} (h : Env w l W) (hb : Below W.heap.size W W') : Env w l W' := ⟨h.1.trans (hb.mono h.1.size), fun x hx => (h.2 x hx).later hb⟩
theorem Env.alloc (h : Env w l W) (o : Obj) : Env w l (W.alloc o) := h.step ((Below.refl _ _).alloc (Nat.le_refl _) _)
theorem Env.add (h : Env w l W) (hx : x.ok W W.heap.size) : Env w (x :: l) W := ⟨h.1, fun y hy => by
  rcases List.mem_cons.1 hy with rfl | hy
  · exact hx
  · exact h.2 y hy⟩

theorem big (h : x.n ≤ 35184372087808) : x.n ≤ 9223372036854775806 := by omega

/-- A number is handed back, of the call's own, in blocks from lo on. -/
def Back (w : World) (l : List Num) (lo N : Nat) (f : Num → Value) (e : Ending) (W' : World) : Prop :=
  ∃ r : Num, e = .returned (f r) ∧ r.N = N ∧ r.n = lenL N ∧ Env w (r :: l) W' ∧ Fr W' lo W'.heap.size r.A r.n r.N

theorem back_of_gives {N : Nat} {e : Ending} {W' : World} (h : Env w l W) (hg : Gives W N e W') (hN : lenL N ≤ 35184372087808) : Back w l W.heap.size N (fun r => .slice r.A r.n r.c) e W' := by
  obtain ⟨A, c, he, hc, hm, hF, hb⟩ := hg
  exact ⟨⟨A, lenL N, c, N⟩, he, rfl, rfl, (h.step hb).add (hF.ok hc hm hN), hF⟩

theorem lenL_add {N M n : Nat} (h1 : N < Bw ^ n) (h2 : M < Bw ^ n) : lenL (N + M) ≤ n + 1 := by
  rw [lenL_le, Nat.pow_succ, Bw_eq]
  have : (4294967296 : Nat) ^ n = Bw ^ n := rfl
  rw [this]
  omega
theorem lt_pow_of {N n m : Nat} (h : N < Bw ^ n) (hm : n ≤ m) : N < Bw ^ m := Nat.lt_of_lt_of_le h (Nat.pow_le_pow_right Bw_pos hm)
theorem sum_len (h : Env w l W) (hx : x ∈ l) (hy : y ∈ l) {b : Nat} (h1 : x.n ≤ b) (h2 : y.n ≤ b) : lenL (x.N + y.N) ≤ b + 1 :=
  lenL_add (lt_pow_of (h.2 x hx).1.1 h1) (lt_pow_of (h.2 y hy).1.1 h2)

end

/-- A difference that is the call's own is handed back. -/
def GivesS (w : World) (N : Nat) (e : Ending) (w' : World) : Prop :=
  ∃ A c, e = .returned (.tuple #[.slice A (lenL N) c, .int .i64 0]) ∧ lenL N ≤ c ∧ c ≤ maxLen ∧ Fr w' w.heap.size w'.heap.size A (lenL N) N ∧ Below w.heap.size w w'

theorem rTrim_end {w W' : World} {N m : Nat} {v' : Value} (hm : m = lenL N)
    (hown : W'.ownsRow w.heap.size 25 1 v' (0 + m) ([] ++ limbs N m)) (hg : (w.alloc (.cells #[] 25)).grownBy W' (some w.heap.size)) : Gives w N (.returned v') W' := by
  subst hm
  rw [Nat.zero_add, List.nil_append] at hown
  obtain ⟨A, c, rfl, h1, h2, h3⟩ := Fr.of_own hown (lt_pow_lenL N) (fun j hj => limbs_at hj)
  exact ⟨A, c, rfl, h1, h2, h3, ((Below.refl _ w).alloc (Nat.le_refl _) _).grown hg (by simp) (fun k e => by cases e; exact Nat.le_refl _)⟩

theorem limbs_read' {W : World} {A : Option Addr} {n N k : Nat} (h : Rd W W.heap.size A n N) (hk : k ≤ n) : ∀ j u, (limbs N k)[j]? = some u → ∃ ad : Addr, A = some ad ∧ (W.alloc (.cells #[] 25)).cell? (ad.add j) = some u := fun j u hu => by
  obtain ⟨hj, rfl⟩ := limbs_get hu
  obtain ⟨ad, e, hb, hc⟩ := (h.below (Below.alloc (Below.refl _ W) (Nat.le_refl _) (.cells #[] 25))).at_ (k := j) (by omega)
  exact ⟨ad, e, hc⟩

/-- A count downwards: at -1 it is over; at place j, j + 1 are left. -/
def DownAt (P : Nat → Prop) (v : Value) : Prop := (v = .int .i64 (-1) ∧ P 0) ∨ ∃ j : Nat, j ≤ 9223372036854775805 ∧ v = .int .i64 j ∧ P (j + 1)
theorem downAt {P : Nat → Prop} (n : Nat) (hn : n ≤ 9223372036854775806) (h : P n) : DownAt P (.int .i64 ((n : Int) - 1)) := by
  rcases n with _ | n
  · exact .inl ⟨rfl, h⟩
  · exact .inr ⟨n, by omega, by simp, h⟩

theorem limbs_succ (N k : Nat) : limbs N k ++ [.int .u32 (dig N k : Nat)] = limbs N (k + 1) := by simp [limbs, List.range_succ]
theorem one_read (W : World) (t : TypeId) (v : Value) : ∀ j u, [v][j]? = some u → ∃ ad : Addr, (some ⟨W.heap.size, 0, none⟩ : Option Addr) = some ad ∧ (W.alloc (.cells #[v] t)).cell? (ad.add j) = some u := fun j u hu => by
  have hj : j = 0 := by
    rcases j with _ | j
    · rfl
    · simp at hu
  subst hj
  simp only [List.getElem?_cons_zero, Option.some.injEq] at hu
  subst hu
  refine ⟨_, rfl, ?_⟩
  have h := World.alloc_heap_new' W (.cells #[v] t)
  rw [add_new]
  simp only [World.cell?, h]
  rfl
theorem own_step {w wr w1 : World} {e : TypeId} {v v' : Value} {k N t : Nat} {vs : Value} (hb : Below w.heap.size w wr) (hown : wr.ownsRow w.heap.size e 1 v k (limbs N k)) (hv : vs = .int .u32 (dig N k : Nat))
    (hown' : w1.ownsRow w.heap.size e 1 v' (k + 1) (limbs N k ++ [vs])) (hg : (wr.alloc (.cells #[vs] t)).grownBy w1 v.ownBlock) : w1.ownsRow w.heap.size e 1 v' (k + 1) (limbs N (k + 1)) ∧ Below w.heap.size w w1 := by
  subst hv
  rw [limbs_succ] at hown'
  exact ⟨hown', (hb.alloc hb.size _).grown hg (by rw [World.size_alloc]; have := hb.size; omega) (fun q hq => (hown.lt q hq).1)⟩
theorem Gives.later {w w1 w' : World} {N : Nat} {e : Ending} (hb : Below w.heap.size w w1) (h : Gives w1 N e w') : Gives w N e w' := by
  obtain ⟨A, c, he, h1, h2, h3, h4⟩ := h
  exact ⟨A, c, he, h1, h2, h3.from hb.size, hb.trans (h4.mono hb.size)⟩

theorem oneCell_u32 (x : Int) : ∀ u ∈ [Value.int .u32 x], u.oneCell' = true := by
  intro u hu
  simp only [List.mem_cons, List.not_mem_nil, or_false] at hu
  subst hu
  rfl

end Go.Proofs.Ytjakmpphfjhbaaa
