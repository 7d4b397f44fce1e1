/- Layer 2 in the laws: what the program's functions are to answer (as a condition, which the program's own texts pay), and what the reference's do. -/
import Derived.Test.YtjakmpphfjhbaaaGreat2
import Derived.Test.YtjakmpphfjhbaaaSame2
import Derived.Test.YtjakmpphfjhbaaaBits
import Derived.Test.YtjakmpphfjhbaaaUp
namespace Go.Proofs.Ytjakmpphfjhbaaa
open Go Go.RowKit

section
variable {w W : World} {e : List Num} {x y : Num}

theorem mul_len {N M n m : Nat} (h : N < Bw ^ n) (h' : M < Bw ^ m) : lenL (N * M) ≤ n + m := lenL_le.2 (prod_lt h h')
theorem rMul_E (h : Env w e W) (hx : x ∈ e) (hy : y ∈ e) (bx : x.n ≤ 100000) (by' : y.n ≤ 100000) :
    Calls Try.prog 12 #[.slice x.A x.n x.c, .slice y.A y.n y.c] W (Back w e W.heap.size (x.N * y.N) (fun r => .slice r.A r.n r.c)) :=
  (rMul_any W _ _ _ _ _ _ _ _ (h.2 x hx).1 (h.2 y hy).1 (by omega) (by omega)).mono fun _ _ hg => back_of_gives h hg (Nat.le_trans (mul_len (h.2 x hx).1.1 (h.2 y hy).1.1) (by omega))
theorem rBy_E {M : Nat} (h : Env w e W) (hx : x ∈ e) (bx : x.n ≤ 100000) (hM : M < 4294967296) :
    Calls Try.prog 16 #[.slice x.A x.n x.c, .int .u32 M] W (Back w e W.heap.size (x.N * M) (fun r => .slice r.A r.n r.c)) :=
  (rBy_any W _ _ _ _ _ (h.2 x hx).1 (by omega) hM).mono fun _ _ hg => back_of_gives h hg (Nat.le_trans (mul_len (m := 1) (h.2 x hx).1.1 (by rw [Nat.pow_one, Bw_eq]; exact hM)) (by omega))
theorem rAll_EL {A : Option Addr} {c : Nat} {l : List Num} (h : Env w e W) (hR : Rds W W.heap.size A l) (hl : l.length ≤ 1000) (hb : ∀ z ∈ l, z.n ≤ 100000) (hs : ∀ k, lenL (prodAt l k) ≤ 100000) :
    Calls Try.prog 14 #[.slice A l.length c] W (Back w e W.heap.size (prodN l) (fun r => .slice r.A r.n r.c)) :=
  (rAll_any W A c l hR (by omega) hb hs).mono fun _ _ hg => back_of_gives h hg (by have := hs l.length; rw [prodAt_all] at this; omega)
theorem rBits_E (h : Env w e W) (hx : x ∈ e) (bx : x.n ≤ 100000) :
    Calls Try.prog 18 #[.slice x.A x.n x.c] W fun e' W' => e' = .returned (.int .i64 (bitsN x.N : Nat)) ∧ Env w e W' := by
  obtain ⟨h1, h2, h3, h4⟩ := h.2 x hx
  exact (rBits_any W _ _ _ _ h1 h2 h3 (by omega)).mono fun _ _ ⟨he, hb⟩ => ⟨he, h.step hb⟩
theorem rPow_E {k : Int} (h : Env w e W) (hx : x ∈ e) (bx : x.n ≤ 1000) (hk : -9223372036854775808 ≤ k ∧ k ≤ 9223372036854775807) :
    Calls Try.prog 20 #[.slice x.A x.n x.c, .int .i64 k] W (Back w e W.heap.size (x.N ^ min k.toNat 256) (fun r => .slice r.A r.n r.c)) :=
  (rPow_any W _ _ _ _ _ (h.2 x hx).1 bx hk).mono fun _ _ hg => back_of_gives h hg (by
    have h1 := pow_len (h.2 x hx).1.1 (min k.toNat 256)
    have h2 : x.n * min k.toNat 256 ≤ 1000 * 256 := Nat.mul_le_mul bx (by omega)
    omega)
theorem up_len {N n : Nat} (h : N < Bw ^ n) (m : Nat) : lenL (N * 2 ^ m) ≤ m / 32 + n + 1 := by
  have := up_lt (q := m / 32) (r := m % 32) h (by omega)
  rw [Nat.div_add_mod] at this
  exact lenL_le.2 this
theorem rUp_E {k : Int} (h : Env w e W) (hx : x ∈ e) (bx : x.n ≤ 100000) (hk : -9223372036854775808 ≤ k ∧ k ≤ 9223372036854775807) :
    Calls Try.prog 22 #[.slice x.A x.n x.c, .int .i64 k] W (Back w e W.heap.size (x.N * 2 ^ min k.toNat 65536) (fun r => .slice r.A r.n r.c)) :=
  (rUp_any W _ _ _ _ _ (h.2 x hx).1 (by omega) hk).mono fun _ _ hg => back_of_gives h hg (by have := up_len (h.2 x hx).1.1 (min k.toNat 65536); omega)
theorem rDown_E {k : Int} (h : Env w e W) (hx : x ∈ e) (bx : x.n ≤ 100000) (hk : -9223372036854775808 ≤ k ∧ k ≤ 9223372036854775807) :
    Calls Try.prog 24 #[.slice x.A x.n x.c, .int .i64 k] W (Back w e W.heap.size (x.N / 2 ^ min k.toNat 65536) (fun r => .slice r.A r.n r.c)) :=
  (rDown_any W _ _ _ _ _ (h.2 x hx).1 (by omega) hk).mono fun _ _ hg => back_of_gives h hg (by have := lenL_mono (Nat.div_le_self x.N (2 ^ min k.toNat 65536)); have := lenL_le.2 (h.2 x hx).1.1; omega)
end

/-- What the program's Mul, All, By, Up, Down, Bits, Pow are to answer. -/
def MulTold : Prop := ∀ (w W : World) (e : List Num) (x y : Num), Env w e W → x ∈ e → y ∈ e → x.n ≤ 100000 → y.n ≤ 100000 →
  Calls Try.prog 11 #[.slice x.A x.n x.c, .slice y.A y.n y.c] W (Back w e W.heap.size (x.N * y.N) (fun r => .slice r.A r.n r.c))
def ByTold : Prop := ∀ (w W : World) (e : List Num) (x : Num) (M : Nat), Env w e W → x ∈ e → x.n ≤ 100000 → M < 4294967296 →
  Calls Try.prog 15 #[.slice x.A x.n x.c, .int .u32 M] W (Back w e W.heap.size (x.N * M) (fun r => .slice r.A r.n r.c))
def AllTold : Prop := ∀ (w W : World) (e : List Num) (A : Option Addr) (c : Nat) (l : List Num), Env w e W → Rds W W.heap.size A l → l.length ≤ c → c ≤ maxLen → l.length ≤ 1000 → (∀ z ∈ l, z.n ≤ 100000) → (∀ k, lenL (prodAt l k) ≤ 100000) →
  Calls Try.prog 13 #[.slice A l.length c] W (Back w e W.heap.size (prodN l) (fun r => .slice r.A r.n r.c))
def BitsTold : Prop := ∀ (w W : World) (e : List Num) (x : Num), Env w e W → x ∈ e → x.n ≤ 100000 →
  Calls Try.prog 17 #[.slice x.A x.n x.c] W fun e' W' => e' = .returned (.int .i64 (bitsN x.N : Nat)) ∧ Env w e W'
def PowTold : Prop := ∀ (w W : World) (e : List Num) (x : Num) (k : Int), Env w e W → x ∈ e → x.n ≤ 1000 → (-9223372036854775808 ≤ k ∧ k ≤ 9223372036854775807) →
  Calls Try.prog 19 #[.slice x.A x.n x.c, .int .i64 k] W (Back w e W.heap.size (x.N ^ min k.toNat 256) (fun r => .slice r.A r.n r.c))
def UpTold : Prop := ∀ (w W : World) (e : List Num) (x : Num) (k : Int), Env w e W → x ∈ e → x.n ≤ 100000 → (-9223372036854775808 ≤ k ∧ k ≤ 9223372036854775807) →
  Calls Try.prog 21 #[.slice x.A x.n x.c, .int .i64 k] W (Back w e W.heap.size (x.N * 2 ^ min k.toNat 65536) (fun r => .slice r.A r.n r.c))
def DownTold : Prop := ∀ (w W : World) (e : List Num) (x : Num) (k : Int), Env w e W → x ∈ e → x.n ≤ 100000 → (-9223372036854775808 ≤ k ∧ k ≤ 9223372036854775807) →
  Calls Try.prog 23 #[.slice x.A x.n x.c, .int .i64 k] W (Back w e W.heap.size (x.N / 2 ^ min k.toNat 65536) (fun r => .slice r.A r.n r.c))
structure ProdTold : Prop where
  mul : MulTold
  by_ : ByTold
  all : AllTold
  bits : BitsTold
  pow : PowTold
  up : UpTold
  down : DownTold
end Go.Proofs.Ytjakmpphfjhbaaa
