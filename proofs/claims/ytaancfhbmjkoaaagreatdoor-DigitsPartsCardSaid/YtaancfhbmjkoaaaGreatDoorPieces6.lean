/- Contract of package digits' pieces: a text, nine bytes at a time, the first piece what is left over. -/
import Derived.Shelf.Abstract
import Derived.Shelf.RegionOpen
import Derived.OwnWalkIn
import Derived.TacticsInMore
import Derived.LoopNIn
import Derived.LoopIn
import Derived.Sort.QuietIn
import Derived.Test.YtaancfhbmjkoaaaGreatDoorGGen
import Derived.Test.YtaancfhbmjkoaaaGreatDoorDigM
namespace Go.Proofs.YtaancfhbmjkoaaaGreatDoor
open Go Go.RowKit
attribute [local go_sem] Oper.semAt_some

set_option maxHeartbeats 1000000 in
theorem dpieces_any (s : ByteArray) (w : World) :
    Calls Tryz.prog 29 #[.string s] w fun e w' =>
      e = .returned (.func (.func 42) #[] #[.pointer (some ⟨w.heap.size, 0, none⟩)]) ∧ w' = w.alloc (.cells #[.string s] 9) := by
  go_enter Tryz.func29, Tryz.ntmps29
  go_wp2
  go_ret
  exact ⟨rfl, rfl⟩

/-- Where the piece that begins at k ends. -/
def PieceTo (n k t : Nat) : Prop := (k = 0 ∧ t = (n - 1) % 9 + 1) ∨ (0 < k ∧ k ≤ n ∧ (n - k) % 9 = 0 ∧ t = k + 9)
theorem PieceTo.bounds {n k t : Nat} (h : PieceTo n k t) (hk : k < n) : k < t ∧ t ≤ n ∧ t ≤ k + 9 := by
  rcases h with ⟨rfl, rfl⟩ | ⟨h1, h2, h3, rfl⟩ <;> omega
theorem PieceTo.next {n k t : Nat} (h : PieceTo n k t) (hk : k < n) : PieceTo n t (t + 9) := by
  have := h.bounds hk
  rcases h with ⟨rfl, rfl⟩ | ⟨h1, h2, h3, rfl⟩
  · exact .inr ⟨by omega, by omega, by omega, rfl⟩
  · exact .inr ⟨by omega, by omega, by omega, rfl⟩

set_option maxRecDepth 100000 in
set_option maxHeartbeats 2000000 in
theorem dpieces1_tells (bs : Nat) (s : ByteArray) (h1 : 1 ≤ s.size) (h60 : s.size ≤ 60) (I : Nat → World → Prop) (hI : ∀ k W, I k W → W.cell? ⟨bs, 0, none⟩ = some (.string s)) (F : Fence) (hF : F = Fence.wide) :
    Tells F 9 Tryz.prog 42 #[.pointer (some ⟨bs, 0, none⟩)] (fun x : ByteArray => #[.string x])
      (fun k x => k < s.size ∧ ∃ t, PieceTo s.size k t ∧ x = s.extract k t) (fun k x => k + x.size) 0 (fun k => k = s.size) (fun _ => True) I := by
  subst hF
  intro l J Jx W hJI hJ hJx hY h0
  have hb1 := hI _ _ (hJI _ _ h0)
  refine callsIn_of_wp Tryz.func42 rfl trivial ?_ rfl
  simp only [Tryz.ntmps42, List.size_toArray, List.length_cons, List.length_nil, Nat.reduceAdd, Nat.reduceSub, Array.replicate_succ, Array.replicate_zero, List.push_toArray, List.append_toArray, List.nil_append, List.cons_append]
  have hbn : ∀ q, (W.drewN q).cell? ⟨bs, 0, none⟩ = some (.string s) := fun _ => hb1
  gi_wp2
  refine wpIn_wide.2 ?_
  go_quiet ((fail))
  obtain ⟨f, hf, hpf⟩ : ∃ f : Nat, ((s.size : Int) - 1) % 9 + 1 = (f : Int) ∧ PieceTo s.size 0 f := ⟨(s.size - 1) % 9 + 1, by omega, .inl ⟨rfl, rfl⟩⟩
  rw [hf]
  have h0' := hJ _ _ _ h0 (grown_drewN W nq none)
  clear hf hbn hb1 h0
  gi_wp2
  gi_loopw [3, 4] (fun fv tv wr => ∃ k t : Nat, fv = .int .i64 k ∧ tv = .int .i64 t ∧ k ≤ s.size ∧ Hid (PieceTo s.size k t) ∧ J k wr) (fun fv _ _ => s.size - (intOf fv).toNat)
  case atStart => exact ⟨0, f, rfl, rfl, Nat.zero_le _, Lib.hid hpf, h0'⟩
  case round =>
    obtain ⟨k, t, rfl, rfl, hk, hP, hJs⟩ := hrel
    have hc := hI _ _ (hJI _ _ hJs)
    by_cases hlt : k < s.size
    · obtain ⟨p1, p2, p3⟩ := hP.out.bounds hlt
      have hxs : (s.extract k t).size = t - k := by rw [ByteArray.size_extract]; omega
      obtain ⟨fn, tmps, assign, body, hy, hRd⟩ := (hY k (s.extract k t) wr hJs ⟨hlt, t, hP.out, rfl⟩)
      rw [hxs, show k + (t - k) = t by omega] at hRd
      have HRd := Lib.hid hRd
      clear hRd
      gi_wp2
      refine HRd.out.mono ?_
      rintro e W3 ⟨b, rfl, hb1, hb2⟩
      have g1 := Lib.hid hb1
      have g2 := Lib.hid hb2
      clear hb1 hb2
      cases b
      · gi_wp2
        refine bodyPost_ret (results_none rfl _ _ _) rfl ?_
        exact ⟨⟨_, rfl⟩, .inr ⟨t, trivial, g2.out trivial⟩⟩
      · gi_wp2
        go_roundw
        case rel => exact ⟨t, t + 9, rfl, by go_num, p2, Lib.hid (hP.out.next hlt), g1.out trivial⟩
        case measure => simp [intOf]; omega
    · obtain rfl : k = s.size := by omega
      gi_wp2
      go_end0
      exact ⟨⟨_, rfl⟩, .inl ⟨_, rfl, hJs⟩⟩
end Go.Proofs.YtaancfhbmjkoaaaGreatDoor
