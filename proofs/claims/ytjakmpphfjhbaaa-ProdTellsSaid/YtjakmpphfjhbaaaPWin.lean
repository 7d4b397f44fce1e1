/- Contract of package prod's windows: a number's bits from any place on come limb by limb, without end, by a range over a function. -/
import Derived.Shelf.Abstract
import Derived.Shelf.RegionOpen
import Derived.OwnWalkIn
import Derived.TacticsInMore
import Derived.LoopNIn
import Derived.LoopIn
import Derived.Sort.QuietIn
import Derived.Test.YtjakmpphfjhbaaaRange
import Derived.Test.YtjakmpphfjhbaaaPBits
import Derived.Test.YtjakmpphfjhbaaaPLimbs
import Derived.Test.YtjakmpphfjhbaaaDown
namespace Go.Proofs.Ytjakmpphfjhbaaa
open Go Go.RowKit
attribute [local go_sem] Oper.semAt_some

set_option maxHeartbeats 1000000 in
theorem windows_in (A : Option Addr) (n c : Nat) (f : Int) (w : World) :
    CallsIn Fence.wide 0 Try.prog 51 #[.slice A n c, .int .i64 f] w fun e w' =>
      e = .returned (.func (.func 61) #[] #[.pointer (some ⟨w.heap.size + 1, 0, none⟩), .pointer (some ⟨w.heap.size, 0, none⟩)]) ∧ w' = (w.alloc (.cells #[.slice A n c] 23)).alloc (.cells #[.int .i64 f] 3) := by
  refine callsIn_wide.2 ?_
  go_enter Try.func51, Try.ntmps51
  go_wp2
  go_ret
  exact ⟨rfl, rfl⟩

/-- The limb that lies r bits above place p. -/
def winL (N : Nat) (p : Int) (r : Nat) : Nat := (digI N p + 4294967296 * digI N (p + 1)) / 2 ^ r % 4294967296

theorem and31 (f : Int) : bits BinOp.and IntKind.i64 f 31 = f % 32 := by
  have h31 : (BitVec.ofInt 64 31).toNat = 2 ^ 5 - 1 := by decide
  have key : (BitVec.ofInt 64 f &&& BitVec.ofInt 64 31).toNat = (f % ((2 ^ 64 : Nat) : Int)).toNat % 2 ^ 5 := by
    rw [BitVec.toNat_and, BitVec.toNat_ofInt, h31, Nat.and_two_pow_sub_one_eq_mod]
  show IntKind.i64.wrap ((BitVec.ofInt 64 f &&& BitVec.ofInt 64 31).toNat : Nat) = f % 32
  rw [key, IntKind.wrap_i64]
  omega

theorem or_win {x y r : Nat} (hx : x < 4294967296) (hr : r < 32) : bits BinOp.or IntKind.u32 ((x : Int) / 2 ^ r) ((y : Int) * 2 ^ (32 - r) % 4294967296) = (((x + 4294967296 * y) / 2 ^ r % 4294967296 : Nat) : Int) := by
  have hB : 4294967296 = 2 ^ r * 2 ^ (32 - r) := by rw [← Nat.pow_add, show r + (32 - r) = 32 from by omega]
  have e1 : (x : Int) / 2 ^ r = ((x / 2 ^ r : Nat) : Int) := by rw [Int.natCast_ediv, Int.natCast_pow]; rfl
  have e2 : (y : Int) * 2 ^ (32 - r) % 4294967296 = ((y * 2 ^ (32 - r) % 4294967296 : Nat) : Int) := by rw [Int.natCast_emod, Int.natCast_mul, Int.natCast_pow]; rfl
  have h1 : x / 2 ^ r < 2 ^ (32 - r) := by rw [Nat.div_lt_iff_lt_mul (Nat.two_pow_pos r), Nat.mul_comm, ← hB]; exact hx
  have h2 : y * 2 ^ (32 - r) % 4294967296 = 2 ^ (32 - r) * (y % 2 ^ r) := by rw [hB, Nat.mul_comm (2 ^ r), Nat.mul_comm y, Nat.mul_mod_mul_left]
  have h3 : x / 2 ^ r ≤ x := Nat.div_le_self _ _
  rw [e1, e2, u32_or_nat _ _ (by omega) (Nat.mod_lt _ (by omega))]
  congr 1
  rw [Nat.or_comm, nat_join (32 - r) _ _ (by rw [h2, Nat.mul_mod_right]) h1, h2]
  have h4 : (x + 4294967296 * y) / 2 ^ r = x / 2 ^ r + 2 ^ (32 - r) * y := by
    conv => lhs; rw [show 4294967296 * y = 2 ^ r * (2 ^ (32 - r) * y) by rw [← Nat.mul_assoc, ← hB]]
    rw [Nat.add_mul_div_left _ _ (Nat.two_pow_pos r)]
  rw [h4, hB, Nat.mul_comm (2 ^ r), Nat.mod_mul, Nat.add_mul_mod_self_left, Nat.mod_eq_of_lt h1, Nat.add_mul_div_left _ _ (Nat.two_pow_pos _), Nat.div_eq_of_lt h1, Nat.zero_add, Nat.add_comm]

set_option maxRecDepth 100000 in
set_option maxHeartbeats 2000000 in
theorem windows1_tells (b hi : Nat) (A : Option Addr) (n c N L : Nat) (q f : Int) (r : Nat) (hf : f = 32 * q + r) (hr : r < 32) (hq : -1000000 ≤ q ∧ q ≤ 1000000) (hL : L ≤ 1000000000000) (I : Nat → World → Prop) (hI : ∀ s W, I s W → Src b hi A n c N W ∧ W.cell? ⟨b + 1, 0, none⟩ = some (.int .i64 f) ∧ s ≤ L) (F : Fence) (hF : F = Fence.wide) :
    Tells F 9 Try.prog 61 #[.pointer (some ⟨b + 1, 0, none⟩), .pointer (some ⟨b, 0, none⟩)] (fun x : Nat × Nat => #[.int .i64 (x.1 : Nat), .int .u32 (x.2 : Nat)])
      (fun (s : Nat) (x : Nat × Nat) => x = (s, winL N (q + (s : Int)) r) ∧ s ≤ L) (fun s _ => s + 1) 0 (fun _ => False) (fun _ => True) I := by
  subst hF
  intro l J Jx W hJI hJ hJx hY h0
  obtain ⟨⟨hb1, _⟩, hb2, _⟩ := hI _ _ (hJI _ _ h0)
  have hand := and31 f
  have hm : f % 32 = r := by omega
  have hd : f / 32 = q := by omega
  rw [hm] at hand
  clear hf
  refine callsIn_of_wp Try.func61 rfl trivial ?_ rfl
  simp only [Try.ntmps61, List.size_toArray, List.length_cons, List.length_nil, Nat.reduceAdd, Nat.reduceSub, Array.replicate_succ, Array.replicate_zero, List.push_toArray, List.append_toArray, List.nil_append, List.cons_append]
  gi_wp2
  refine wpIn_wide.2 ?_
  go_quiet (fail)
  clear hb1 hb2 hand hm hd
  gi_wp2
  gi_loopw [6] (fun i wr => ∃ k : Nat, i = .int .i64 k ∧ J k wr) (fun i _ => L + 1 - (intOf i).toNat)
  case atStart => exact ⟨0, rfl, hJ _ _ _ h0 (grown_drewN _ _ _)⟩
  case round =>
    obtain ⟨k, rfl, hJs⟩ := hrel
    obtain ⟨⟨hc1, hR⟩, hc2, hkL⟩ := hI _ _ (hJI _ _ hJs)
    obtain ⟨p, hp⟩ : ∃ p, q + (k : Int) = p := ⟨_, rfl⟩
    have hpb : -1000000 ≤ p ∧ p ≤ 2000000000000 := by omega
    have hRn : ∀ q, Rd (wr.drewN q) hi A n N := fun _ => hR
    have d1 := digI_lt N p
    obtain ⟨p2, hp2⟩ : ∃ p2, p + 1 = p2 := ⟨_, rfl⟩
    have d2 := digI_lt N p2
    gi_wp2
    refine wpIn_wide.2 ?_
    go_quiet ((first
      | (go_at_call 62; with_reducible exact quiet_same (plimbAt_any _ hi A n c N (hRn _) p))
      | (go_at_call 62; with_reducible exact quiet_same (plimbAt_any _ hi A n c N (hRn _) p2))))
    have e := or_win (y := digI N p2) d1 hr
    obtain ⟨fn, tmps, assign, body, hy, hRd⟩ := hY k (k, winL N (q + k) r) (wr.drewN nq) (hJ _ _ _ hJs (grown_drewN _ _ _)) ⟨rfl, hkL⟩
    dsimp only [winL] at hy
    rw [hp, hp2, ← e] at hy
    clear e hp hp2 hRn
    gi_wp2
    refine hRd.mono ?_
    rintro e W3 ⟨b, rfl, hb1, hb2⟩
    have g1 := Lib.hid hb1
    have g2 := Lib.hid hb2
    clear hb1 hb2
    cases b
    · gi_wp2
      refine bodyPost_ret (results_none rfl _ _ _) rfl ?_
      exact ⟨⟨_, rfl⟩, .inr ⟨_, (by first | exact ⟨trivial, g2.out (by first | rfl | trivial)⟩ | exact g2.out (by first | rfl | trivial))⟩⟩
    · gi_wp2
      go_roundw
      case rel => exact ⟨k + 1, by go_num, g1.out (by first | rfl | trivial)⟩
      case measure => simp [intOf]; omega
end Go.Proofs.Ytjakmpphfjhbaaa
