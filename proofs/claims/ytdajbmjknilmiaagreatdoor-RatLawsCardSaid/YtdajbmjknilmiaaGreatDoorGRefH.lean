/- Contract of nat.Small. -/
import Derived.OwnWalk
import Derived.Test.YtdajbmjknilmiaaGreatDoorGNatA
import Derived.Test.YtdajbmjknilmiaaGreatDoorGRefA
import Derived.Test.YtdajbmjknilmiaaGreatDoorGNum
import Derived.Test.YtdajbmjknilmiaaGreatDoorGRefC
import Derived.Test.YtdajbmjknilmiaaGreatDoorGRefB
namespace Go.Proofs.YtdajbmjknilmiaaGreatDoor
open Go Go.RowKit

set_option maxHeartbeats 400000 in
theorem Small_no (w : World) (hi : Nat) (A : Option Addr) (n c N : Nat) (h : Rd w hi A n N) (hn : n ≤ c) (hc : c ≤ 9223372036854775807) (hN : ¬ N < 18446744073709551616) :
    Calls Tryz.prog 132 #[.slice A n c] w fun e w' => e = .returned (.tuple #[.int .u64 0, .bool false]) ∧ w = w' := by
  have hl := lenL_le.2 h.1
  have h2 : 2 < lenL N := by rw [← lenL_small] at hN; omega
  clear hN
  go_enter Tryz.func132, Tryz.ntmps132
  go_wp2_with (go_at_call 94; refine (cut_any _ _ A n c N h hn (by omega)).mono ?_; rintro e w' ⟨rfl, rfl⟩)
  go_ret2
  exact ⟨rfl, rfl⟩

set_option maxHeartbeats 400000 in
theorem Small_yes (w : World) (hi : Nat) (A : Option Addr) (n c N : Nat) (h : Rd w hi A n N) (hn : n ≤ c) (hc : c ≤ 9223372036854775807) (hN : N < 18446744073709551616) :
    Calls Tryz.prog 132 #[.slice A n c] w fun e w' => e = .returned (.tuple #[.int .u64 N, .bool true]) ∧ w = w' := by
  have hl := lenL_le.2 h.1
  have h2 : lenL N ≤ 2 := lenL_small.2 hN
  have hd0 := dig_lt N 0
  have hd1 := dig_lt N 1
  have hv := Lib.hid (two_limbs (lenL_le.1 h2))
  clear hN
  go_enter Tryz.func132, Tryz.ntmps132
  go_wp2_with (first
    | (go_at_call 94; refine (cut_any _ _ A n c N h hn (by omega)).mono ?_; rintro e w' ⟨rfl, rfl⟩)
    | (go_at_call 140; refine (limbAt_any _ _ _ _ _ _ h.cut _ (by omega)).mono ?_; rintro e w' ⟨rfl, rfl⟩; simp only [Int.toNat_one, Int.toNat_zero]))
  rw [or_limbs hd1 hd0, hv.out]
  go_ret2
  exact ⟨rfl, rfl⟩
end Go.Proofs.YtdajbmjknilmiaaGreatDoor

/- Contract of the reference's Of of layer 1. -/
namespace Go.Proofs.YtdajbmjknilmiaaGreatDoor
open Go Go.RowKit

set_option maxHeartbeats 400000 in
theorem rOf_any (w : World) (N : Nat) (h : N < 18446744073709551616) :
    Calls Tryz.prog 55 #[.int .u64 N] w (Gives w N) := by
  have H := Lib.hid (dig_of_u64 h)
  go_enter Tryz.func55, Tryz.ntmps55
  go_wp2_with fail
  have hF : Fr (w.alloc (Obj.cells #[Value.int IntKind.u32 (↑N % 4294967296), Value.int IntKind.u32 (↑N / 4294967296)] 52)) w.heap.size (w.heap.size + 1) (some ⟨w.heap.size, 0, none⟩) 2 N :=
    Fr.lit (Nat.le_refl _) H.out.1 H.out.2
  refine (rTrim_any _ _ 2 2 N (by simpa using hF.rd) (by omega) (by simp [maxLen]) (by omega)).mono ?_
  intro e w' hgv
  obtain ⟨A, c, rfl, h1, h2, h3, h4⟩ := hgv.alloc
  go_wp2
  go_ret
  exact ⟨A, c, rfl, h1, h2, h3, h4⟩
end Go.Proofs.YtdajbmjknilmiaaGreatDoor

/- Contract of the reference's Small of layer 1. -/
namespace Go.Proofs.YtdajbmjknilmiaaGreatDoor
open Go Go.RowKit

end Go.Proofs.YtdajbmjknilmiaaGreatDoor

/- Contract of the reference's Div of layer 3: bit by bit, from the highest one on. -/
namespace Go.Proofs.YtdajbmjknilmiaaGreatDoor
open Go Go.RowKit

theorem Buf.below {W W' : World} {g n O : Nat} (h : Buf W g n O) (hg : g < W.heap.size) (hb : Below W.heap.size W W') : Buf W' g n O := fun j hj =>
  ⟨(hb.cell (p := ⟨g, j, none⟩) hg).trans (h j hj).1, (hb.frozen (p := ⟨g, j, none⟩) hg).trans (h j hj).2⟩

theorem Env.put {w wr W : World} {x y d r : Num} {l : List Num} {g p lo : Nat} (hx : x.ok w w.heap.size) (hy : y.ok w w.heap.size) (h : Env w [r, x, y] wr) (hE : Env wr (d :: l) W) (hF : Fr W lo W.heap.size d.A d.n d.N) (hg : w.heap.size ≤ g) (hlo : g < lo) (v : Value) :
    Env w [d, x, y] (W.setCell ⟨g, p, none⟩ v) := by
  have hb := (h.1.trans (hE.1.mono h.1.size)).setCell (p := ⟨g, p, none⟩) hg v
  refine ⟨hb, fun z hz => ?_⟩
  simp only [List.mem_cons, List.not_mem_nil, or_false] at hz
  rcases hz with rfl | rfl | rfl
  · obtain ⟨_, h2, h3, h4⟩ := hE.2 z (by simp)
    exact ⟨((hF.setCell hlo v).rd).more (by simp), h2, h3, h4⟩
  · exact hx.later hb
  · exact hy.later hb
theorem Env.next {w wr W : World} {x y d r : Num} {l : List Num} (h : Env w [r, x, y] wr) (hE : Env wr (d :: l) W) (hx : x ∈ d :: l) (hy : y ∈ d :: l) : Env w [d, x, y] W := by
  refine ⟨h.1.trans (hE.1.mono h.1.size), fun z hz => ?_⟩
  simp only [List.mem_cons, List.not_mem_nil, or_false] at hz
  rcases hz with rfl | rfl | rfl
  · exact hE.2 z (by simp)
  · exact hE.2 z hx
  · exact hE.2 z hy
end Go.Proofs.YtdajbmjknilmiaaGreatDoor
