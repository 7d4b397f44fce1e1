/- Contract of nat.Cmp: limbs of both numbers come from the highest place on, by a range over a function; the first place where they part is left by a label. -/
import Derived.Shelf.Abstract
import Derived.Shelf.RegionOpen
import Derived.OwnWalkIn
import Derived.TacticsInMore
import Derived.LoopNIn
import Derived.LoopIn
import Derived.Sort.QuietIn
import Derived.Test.YtjakmpphfjhbaaaRange
import Derived.Test.YtjakmpphfjhbaaaNNat
import Derived.Test.YtjakmpphfjhbaaaNDown
namespace Go.Proofs.Ytjakmpphfjhbaaa
open Go Go.RowKit
attribute [local go_sem] Oper.semAt_some

theorem cmpN_bounds (N N' : Nat) : -1 ≤ cmpN N N' ∧ cmpN N N' ≤ 1 := by unfold cmpN; split <;> (try split) <;> omega

/-- Between two rounds of 'Cmp': all places from s on are alike. -/
def CmpI (w : World) (A A' : Option Addr) (n n' c c' N N' : Nat) (s : Nat) (W : World) : Prop :=
  Both (w.heap.size + 1) A A' n n' c c' N N' W ∧ Boxed W w.heap.size 3 (.int .i64 0) ∧ (∀ j, s ≤ j → dig N j = dig N' j) ∧ Below w.heap.size w W
/-- A round has left: the order is settled. -/
def CmpX (w : World) (N N' : Nat) (c : Code) (_ : Nat) (W : World) : Prop :=
  c = .exit 0 ∧ Boxed W w.heap.size 3 (.int .i64 (cmpN N N')) ∧ Below w.heap.size w W
theorem cmpI_own {w : World} {A A' : Option Addr} {n n' c c' N N' k : Nat} (hk : k = w.heap.size + 3) : OwnFrom k (CmpI w A A' n n' c c' N N') := by
  rintro s W W' row ⟨⟨⟨h1, h2⟩, h3, h4⟩, h5, h6, h7⟩ hg hr
  have hr' := fun r e => (hr r e).2
  exact ⟨⟨⟨cell_kept h1 hg hr', cell_kept h2 hg hr'⟩, h3.kept hg hr', h4.kept hg hr'⟩, boxed_kept h5 hg hr', h6, h7.grown hg h7.size (fun r e => by have := (hr r e).1; omega)⟩
theorem cmpX_own {w : World} {N N' k : Nat} (hk : k = w.heap.size + 3) (c : Code) : OwnFrom k (CmpX w N N' c) := by
  rintro s W W' row ⟨h1, h5, h7⟩ hg hr
  have hr' := fun r e => (hr r e).2
  exact ⟨h1, boxed_kept h5 hg hr', h7.grown hg h7.size (fun r e => by have := (hr r e).1; omega)⟩

set_option maxRecDepth 100000 in
set_option maxHeartbeats 2000000 in
theorem Cmp_in (A A' : Option Addr) (n n' c c' N N' : Nat) (w : World) (hn : n ≤ 9223372036854775806) (hn' : n' ≤ 9223372036854775806) (h : Rd w w.heap.size A n N) (h' : Rd w w.heap.size A' n' N') :
    CallsIn Fence.wide 10 Try.prog 59 #[.slice A n c, .slice A' n' c'] w fun e w' => e = .returned (.int .i64 (cmpN N N')) ∧ Below w.heap.size w w' := by
  refine callsIn_of_wp_marks Try.func59 rfl trivial ?_ rfl
  simp only [Try.ntmps59, List.size_toArray, List.length_cons, List.length_nil, Nat.reduceAdd, Nat.reduceSub, Array.replicate_succ, Array.replicate_zero, List.push_toArray, List.append_toArray, List.nil_append, List.cons_append]
  gi_wp2
  apply wpIn_scope_wide
  gi_wp2
  refine wpIn_label ?_
  gi_wp2_with (refine ⟨trivial, ?_⟩; gi_at_call 65; refine (callsIn_wide.2 (callsIn_wide.1 (downwards_in A A' n n' c c' _))).mono ?_; rintro e w' ⟨rfl, rfl⟩)
  have bO := Boxed.new w 3 (.int .i64 0)
  have b1 := Boxed.new (w.alloc (.cells #[.int .i64 0] 3)) 23 (.slice A n c)
  have b2 := Boxed.new ((w.alloc (.cells #[.int .i64 0] 3)).alloc (.cells #[.slice A n c] 23)) 23 (.slice A' n' c')
  rw [World.size_alloc] at b1
  rw [World.size_alloc, World.size_alloc] at b2
  have hB0 : Below w.heap.size w (((w.alloc (.cells #[.int .i64 0] 3)).alloc (.cells #[.slice A n c] 23)).alloc (.cells #[.slice A' n' c'] 23)) := (((Below.refl _ w).alloc (Nat.le_refl _) _).alloc (by simp) _).alloc (by simp; omega) _
  have hsz : (((w.alloc (.cells #[.int .i64 0] 3)).alloc (.cells #[.slice A n c] 23)).alloc (.cells #[.slice A' n' c'] 23)).heap.size = w.heap.size + 3 := by simp
  replace bO := (bO.alloc (.cells #[.slice A n c] 23)).alloc (.cells #[.slice A' n' c'] 23)
  replace b1 := b1.alloc (.cells #[.slice A' n' c'] 23)
  obtain ⟨W0, hW0⟩ : ∃ W0, ((w.alloc (.cells #[.int .i64 0] 3)).alloc (.cells #[.slice A n c] 23)).alloc (.cells #[.slice A' n' c'] 23) = W0 := ⟨_, rfl⟩
  rw [hW0] at bO b1 b2 hB0 hsz ⊢
  clear hW0
  have hI : ∀ s W, (CmpI w A A' n n' c c' N N' s W) → Both (w.heap.size + 1) A A' n n' c c' N N' W := fun s W h => h.1
  refine wpIn_rangeFunc_told rfl (by omega) (gf := 66) (lb := #[.pointer (some ⟨w.heap.size + 1, 0, none⟩), .pointer (some ⟨w.heap.size + 1 + 1, 0, none⟩)]) rfl trivial (enters_of Try.func66 (by kernel_rfl) rfl)
    (fun _ => rfl) (CmpI w A A' n n' c c' N N') (CmpX w N N') (cmpI_own hsz) (cmpX_own hsz)
    ⟨⟨⟨b1.cell, b2.cell⟩, (h.below hB0).more (by omega), (h'.below hB0).more (by omega)⟩, bO, (fun j hj => by rw [dig_ge h.1 (by omega), dig_ge h'.1 (by omega)]), hB0⟩
    (downwards1_tells (w.heap.size + 1) A A' n n' c c' N N' hn hn' _ hI Fence.wide rfl)
    (fun x => { tmps := #[.slice A n c, .slice A' n' c', undef, undef, .int .i64 0, .pointer (some ⟨w.heap.size, 0, none⟩), .int .u32 (x.1 : Nat), .int .u32 (x.2 : Nat), .slice A n c, .slice A' n' c', .func (.func 66) #[] #[.pointer (some ⟨w.heap.size + 1, 0, none⟩), .pointer (some ⟨w.heap.size + 1 + 1, 0, none⟩)], .int .u32 (x.1 : Nat), .int .u32 (x.2 : Nat), undef, undef, undef, undef, undef, undef, undef, undef, undef], defers := [] }) ?assign ?body ?done ?stop
  case assign =>
    intro l x W K hK
    gi_wp2
    exact hK
  case body =>
    rintro l s x W ⟨hB, bO1, hs1, hBl⟩ ⟨hs, rfl⟩
    obtain ⟨j, rfl⟩ : ∃ j, s = j + 1 := ⟨s - 1, by omega⟩
    have hO := bO1.cell
    have hf := bO1.frozen
    have HS := Lib.hid hs1
    clear hs1
    simp only [Nat.add_sub_cancel]
    rcases Nat.lt_trichotomy (dig N j) (dig N' j) with hlt | heq | hgt
    · have HN := Lib.hid (lt_of_digs2 h.1 h'.1 (fun i hi => HS.out i (by omega)) hlt)
      gi_wp2
      refine ⟨(KeepsOthers.setCell _ _ _).from _, rfl, ?_, hBl.setCell (p := ⟨w.heap.size, 0, none⟩) (Nat.le_refl _) _⟩
      rw [cmpN_lt HN.out]
      exact bO1.set _
    · have HE := Lib.hid heq
      rw [heq]
      clear heq
      gi_wp2
      exact ⟨KeepsFrom.refl _ _, hB, bO1, (fun i hi => by
        rcases Nat.lt_or_ge j i with h1 | h1
        · exact HS.out i (by omega)
        · obtain rfl : i = j := by omega
          exact HE.out), hBl⟩
    · have HN := Lib.hid (lt_of_digs2 h'.1 h.1 (fun i hi => (HS.out i (by omega)).symm) hgt)
      gi_wp2
      refine ⟨(KeepsOthers.setCell _ _ _).from _, rfl, ?_, hBl.setCell (p := ⟨w.heap.size, 0, none⟩) (Nat.le_refl _) _⟩
      rw [cmpN_gt HN.out]
      exact bO1.set _
  case done =>
    rintro D s W hD rfl ⟨hB, bO1, hs1, hBl⟩ hK
    have hO := bO1.cell
    have HN := Lib.hid (eq_of_digs2 h.1 h'.1 (fun j => hs1 j (Nat.zero_le _)))
    clear hs1
    gi_wp2
    rw [Exit.noGoto_ret]
    refine ⟨by simp, .inl ⟨_, _, rfl, run_takeDeferred hK, ?_⟩⟩
    exact ⟨_, results_tmp rfl _ _ _, by rw [← HN.out, cmpN_eq]; rfl, hBl.trans (belowK_b (w := w) (Nat.le_refl _) W D _ _ (by omega) hK rfl rfl)⟩
  case stop =>
    rintro D c s W hD _ ⟨rfl, bO1, hBl⟩ hK
    have hO := bO1.cell
    gi_wp2
    rw [Exit.noGoto_ret]
    refine ⟨by simp, .inl ⟨_, _, rfl, run_takeDeferred hK, ?_⟩⟩
    exact ⟨_, results_tmp rfl _ _ _, rfl, hBl.trans (belowK_b (w := w) (Nat.le_refl _) W D _ _ (by omega) hK rfl rfl)⟩

theorem Cmp_any (A A' : Option Addr) (n n' c c' N N' : Nat) (w : World) (h : Rd w w.heap.size A n N) (h' : Rd w w.heap.size A' n' N') (hn : n ≤ 9223372036854775806) (hn' : n' ≤ 9223372036854775806) :
    Calls Try.prog 59 #[.slice A n c, .slice A' n' c'] w fun e w' => e = .returned (.int .i64 (cmpN N N')) ∧ Below w.heap.size w w' :=
  callsIn_wide.1 (Cmp_in A A' n n' c c' N N' w hn hn' h h')
end Go.Proofs.Ytjakmpphfjhbaaa
