/- Contract of package digits' Parse: piece by piece, left by a label where a byte is no digit. -/
import Derived.Shelf.Abstract
import Derived.Shelf.RegionOpen
import Derived.OwnWalkIn
import Derived.TacticsInMore
import Derived.LoopNIn
import Derived.LoopIn
import Derived.Sort.QuietIn
import Derived.Lib.OthersKept
import Derived.Test.YtaancfhbmjkoaaaGreatDoorRangeR
import Derived.Test.YtaancfhbmjkoaaaGreatDoorPieces6
import Derived.Test.YtaancfhbmjkoaaaGreatDoorPByN
import Derived.Test.YtaancfhbmjkoaaaGreatDoorGNatB
namespace Go.Proofs.YtaancfhbmjkoaaaGreatDoor
open Go Go.RowKit
attribute [local go_sem] Oper.semAt_some

set_option maxRecDepth 100000 in
set_option maxHeartbeats 1000000 in
theorem parse_short (s : ByteArray) (w : World) (hs : ¬ (1 ≤ s.size ∧ s.size ≤ 60)) (hm : s.size ≤ 1000000) :
    Calls Tryz.prog 10 #[.string s] w fun e w' => e = .returned (.tuple #[.slice none 0 0, .int .i64 60]) ∧ Below w.heap.size w w' := by
  rcases (by omega : s.size = 0 ∨ 60 < s.size) with h0 | h0
  · have hs0 : s = ⟨#[]⟩ := by
      apply ByteArray.ext
      exact Array.eq_empty_of_size_eq_zero h0
    subst hs0
    go_enter Tryz.func10, Tryz.ntmps10
    go_wp2
    apply wp_scope_straight
    go_wp2
    rw [Exit.noGoto_ret]
    go_ret2
    exact ⟨rfl, Below.refl _ _⟩
  · have hne : (s.toList == []) = false := by
      rw [beq_eq_false_iff_ne]
      intro e
      rw [Lib.toList_data] at e
      have := str_len s
      rw [e] at this
      simp at this
      omega
    go_enter Tryz.func10, Tryz.ntmps10
    go_wp2
    apply wp_scope_straight
    go_wp2
    rw [Exit.noGoto_ret]
    go_ret2
    exact ⟨rfl, Below.refl _ _⟩

theorem take_piece {l : List UInt8} {k t : Nat} (hk : k ≤ t) : l.take t = l.take k ++ (l.take t).drop k := by
  have h := (List.take_append_drop k (l.take t)).symm
  rwa [List.take_take, Nat.min_eq_left hk] at h
theorem val_piece {l : List UInt8} {k t : Nat} (hP : PieceTo l.length k t) (hk : k < l.length) : val (l.take t) = val (l.take k) * 1000000000 + val ((l.take t).drop k) := by
  obtain ⟨h1, h2, h3⟩ := hP.bounds hk
  conv => lhs; rw [take_piece (Nat.le_of_lt h1), val_append]
  rcases hP with ⟨rfl, _⟩ | ⟨_, _, _, rfl⟩
  · simp [val_nil]
  · have e : ((l.take (k + 9)).drop k).length = 9 := by rw [List.length_drop, List.length_take]; omega
    rw [e]
/-- Between two rounds of Parse: k bytes have come, all of them digits. -/
structure ParI (w : World) (s : ByteArray) (b4 b5 bs : Nat) (k : Nat) (W : World) : Prop where
  src : W.cell? ⟨bs, 0, none⟩ = some (.string s)
  bel : Below b4 w W
  b5 : Boxed W b5 29 (.int .i64 0)
  sum : ∃ r : Num, Boxed W b4 23 (.slice r.A r.n r.c) ∧ r.N = val (s.data.toList.take k) ∧ r.n = lenL r.N ∧ r.ok W W.heap.size
  digs : Digs (s.data.toList.take k)
theorem Num.kept {W W' : World} {x : Num} {row : Option Nat} (h : x.ok W W.heap.size) (hg : W.grownBy W' row) (hr : ∀ r, row = some r → ∃ o : Obj, W.heap[r]? = some o ∧ o.isCells = false) : x.ok W' W'.heap.size :=
  ⟨(h.1.kept hg hr).more hg.size, h.2⟩
theorem parI_own {w : World} {s : ByteArray} {b4 b5 bs B : Nat} (hB : b4 ≤ B) : OwnFrom B (ParI w s b4 b5 bs) := fun _ A _ _ h hg hr => by
  have hr' := fun r e => (hr r e).2
  obtain ⟨r, h1, h2, h3, h4⟩ := h.sum
  exact ⟨cell_kept h.src hg hr', h.bel.grown hg (Nat.le_of_lt h1.lt) (fun k e => Nat.le_trans hB (hr k e).1), boxed_kept h.b5 hg hr', ⟨r, boxed_kept h1 hg hr', h2, h3, Num.kept h4 hg hr'⟩, h.digs⟩
/-- Parse has been left: a byte is no digit. -/
def ParX (w : World) (s : ByteArray) (b4 b5 : Nat) (c : Code) (_ : Nat) (W : World) : Prop :=
  c = .exit 0 ∧ Below b4 w W ∧ Boxed W b4 23 (.slice none 0 0) ∧ Boxed W b5 29 (.int .i64 60) ∧ ¬ Digs s.data.toList
theorem parX_own {w : World} {s : ByteArray} {b4 b5 B : Nat} (hB : b4 ≤ B) (c : Code) : OwnFrom B (ParX w s b4 b5 c) := fun _ A _ _ h hg hr => by
  have hr' := fun r e => (hr r e).2
  obtain ⟨h0, h1, h2, h3, h4⟩ := h
  exact ⟨h0, h1.grown hg (Nat.le_of_lt h2.lt) (fun k e => Nat.le_trans hB (hr k e).1), boxed_kept h2 hg hr', boxed_kept h3 hg hr', h4⟩

theorem parX_of {w : World} {s p : ByteArray} {b4 bs k j q B : Nat} {V : World} {v u : Value} (hI : ParI w s b4 (b4 + 1) bs k V) (h4 : Boxed (V.iter p q) b4 23 v) (h5 : Boxed (V.iter p q) (b4 + 1) 29 u) (hd : ¬ Digs s.data.toList) :
    KeepsFrom B V (((V.iter p q).setCell ⟨b4, 0, none⟩ (.slice none 0 0)).setCell ⟨b4 + 1, 0, none⟩ (.int .i64 60)) ∧ ParX w s b4 (b4 + 1) (.exit 0) j (((V.iter p q).setCell ⟨b4, 0, none⟩ (.slice none 0 0)).setCell ⟨b4 + 1, 0, none⟩ (.int .i64 60)) := by
  have hsz : V.heap.size ≤ (V.iter p q).heap.size := by unfold World.iter; simp
  have hle : b4 ≤ V.heap.size := by obtain ⟨r, h1, _⟩ := hI.sum; exact Nat.le_of_lt h1.lt
  refine ⟨(((KeepsOthers.alloc _ _).from B).trans ((KeepsOthers.setCell _ _ _).from B)).trans ((KeepsOthers.setCell _ _ _).from B), rfl, ?_, ?_, ?_, hd⟩
  · exact ((hI.bel.alloc hle _).setCell (p := ⟨b4, 0, none⟩) (Nat.le_refl _) _).setCell (p := ⟨b4 + 1, 0, none⟩) (Nat.le_succ _) _
  · exact (h4.set _).other (by omega) _
  · exact (h5.other (by omega) _).set _

theorem parI_next {w : World} {s p : ByteArray} {b4 bs k t N lo : Nat} {V W7 : World} {v : Value} {r : Num} {A7 : Option Addr} {x7 : Nat} (hI : ParI w s b4 (b4 + 1) bs k V) (hk : k < s.size) (hP : PieceTo s.size k t) (hb : bs = b4 + 1 + 1) (hpl : p.data.toList = (s.data.toList.take t).drop k)
    (hN : val p.data.toList = N) (hd : Digs p.data.toList) (hr : r.N = val (s.data.toList.take k)) (h7 : Below V.heap.size V W7) (k4 : Boxed W7 b4 23 v) (k5 : Boxed W7 (b4 + 1) 29 (.int .i64 0)) (hlo : b4 < lo)
    (h3 : Fr W7 lo W7.heap.size A7 (lenL (r.N * 1000000000 + N)) (r.N * 1000000000 + N)) (x1 : lenL (r.N * 1000000000 + N) ≤ x7) (x2 : x7 ≤ maxLen) (hs60 : s.size ≤ 60) (B : Nat) :
    KeepsFrom B V (W7.setCell ⟨b4, 0, none⟩ (.slice A7 (lenL (r.N * 1000000000 + N)) x7)) ∧ ParI w s b4 (b4 + 1) bs t (W7.setCell ⟨b4, 0, none⟩ (.slice A7 (lenL (r.N * 1000000000 + N)) x7)) := by
  obtain ⟨q1, q2, q3⟩ := hP.bounds hk
  have hle : b4 ≤ V.heap.size := by obtain ⟨r, h1, _⟩ := hI.sum; exact Nat.le_of_lt h1.lt
  have hss : s.data.toList.length = s.size := str_len s
  have hval : r.N * 1000000000 + N = val (s.data.toList.take t) := by
    rw [val_piece (by rw [hss]; exact hP) (by rw [hss]; exact hk), ← hpl, hN, hr]
  have hdg : Digs (s.data.toList.take t) := by
    rw [take_piece (Nat.le_of_lt q1), ← hpl]
    exact digs_append.mpr ⟨hI.digs, hd⟩
  have hsrc : W7.cell? ⟨bs, 0, none⟩ = some (.string s) := by
    have hbl : bs < V.heap.size := by
      have := World.block_lt_of_cell? V ⟨bs, 0, none⟩ hI.src
      exact this
    exact (h7.cell (p := ⟨bs, 0, none⟩) hbl).trans hI.src
  have h60' : val (s.data.toList.take t) < Bw ^ 60 := Nat.lt_of_lt_of_le (val_lt hdg) (Nat.le_trans (Nat.pow_le_pow_right (by omega) (show _ ≤ 60 by rw [List.length_take]; omega)) (Nat.pow_le_pow_left (by rw [Bw_eq]; omega) 60))
  have hl7 : lenL (r.N * 1000000000 + N) ≤ 35184372087808 := by
    rw [hval]
    have := lenL_le.2 h60'
    omega
  refine ⟨(KeepsFrom.of_grownBy (B := B) (below_grown h7 none) (fun j e => by cases e)).trans ((KeepsOthers.setCell _ _ _).from B), ⟨?_, ?_, ?_, ?_, hdg⟩⟩
  · rw [World.cell?_setCell_other _ _ _ _ (by intro e; injection e with e; omega)]; exact hsrc
  · exact (hI.bel.trans (h7.mono hle)).setCell (p := ⟨b4, 0, none⟩) (Nat.le_refl _) _
  · exact k5.other (by omega) _
  · exact ⟨⟨A7, lenL (r.N * 1000000000 + N), x7, r.N * 1000000000 + N⟩, k4.set _, hval, rfl, ⟨(h3.setCell hlo _).rd.more (by rw [World.size_setCell]; exact Nat.le_refl _), x1, x2, hl7⟩⟩

/-- What Parse answers to a text of 1 to 60 bytes. -/
def ParPost (w : World) (s : ByteArray) (e : Ending) (W : World) : Prop :=
  Below w.heap.size w W ∧ (Digs s.data.toList → ∃ r : Num, e = .returned (.tuple #[.slice r.A r.n r.c, .int .i64 0]) ∧ r.N = val s.data.toList ∧ r.n = lenL r.N ∧ r.ok W W.heap.size) ∧
    (¬ Digs s.data.toList → e = .returned (.tuple #[.slice none 0 0, .int .i64 60]))

set_option maxRecDepth 100000 in
set_option maxHeartbeats 4000000 in
theorem parse_in (s : ByteArray) (w : World) (h1 : 1 ≤ s.size) (h60 : s.size ≤ 60) :
    CallsIn Fence.wide 10 Tryz.prog 10 #[.string s] w (ParPost w s) := by
  have hne : (s.toList == []) = false := by
    rw [beq_eq_false_iff_ne]
    intro e
    rw [Lib.toList_data] at e
    have := str_len s
    rw [e] at this
    simp at this
    omega
  refine callsIn_of_wp_marks Tryz.func10 rfl trivial ?_ rfl
  simp only [Tryz.ntmps10, List.size_toArray, List.length_cons, List.length_nil, Nat.reduceAdd, Nat.reduceSub, Array.replicate_succ, Array.replicate_zero, List.push_toArray, List.append_toArray, List.nil_append, List.cons_append]
  gi_wp2
  apply wpIn_scope_wide
  gi_wp2_with fail
  refine wpIn_label ?_
  gi_wp2_with (refine ⟨trivial, ?_⟩; gi_at_call 29; refine (callsIn_wide.2 (dpieces_any s _)).mono ?_; rintro e w' ⟨rfl, rfl⟩)
  have g1 := (Below.refl w.heap.size w).alloc (Nat.le_refl _) (.cells #[.slice none 0 0] 23)
  have g2 := g1.alloc g1.size (.cells #[.int .i64 0] 29)
  have g3 := g2.alloc g2.size (.cells #[.string s] 9)
  have k4 := ((Boxed.new w 23 (.slice none 0 0)).alloc (.cells #[.int .i64 0] 29)).alloc (.cells #[.string s] 9)
  have k5 := (Boxed.new (w.alloc (.cells #[.slice none 0 0] 23)) 29 (.int .i64 0)).alloc (.cells #[.string s] 9)
  have ks := (Boxed.new ((w.alloc (.cells #[.slice none 0 0] 23)).alloc (.cells #[.int .i64 0] 29)) 9 (.string s)).cell
  simp only [World.size_alloc] at k5 ks ⊢
  obtain ⟨W3, hW3⟩ : ∃ W3, ((w.alloc (.cells #[.slice none 0 0] 23)).alloc (.cells #[.int .i64 0] 29)).alloc (.cells #[.string s] 9) = W3 := ⟨_, rfl⟩
  have hs3 : W3.heap.size = w.heap.size + 3 := by rw [← hW3]; simp
  rw [hW3] at g3 k4 k5 ks ⊢
  have h0 : ParI w s w.heap.size (w.heap.size + 1) (w.heap.size + 1 + 1) 0 W3 := ⟨ks, g3, k5, ⟨⟨none, 0, 0, 0⟩, k4, rfl, lenL_zero.symm, Rd.none_, Nat.le_refl _, by simp [maxLen], by simp⟩, digs_nil⟩
  clear g1 g2 g3 k4 k5 ks hW3 hne
  refine wpIn_rangeFunc_as (n := 10) rfl (by omega) (gf := 42) (lb := #[.pointer (some ⟨w.heap.size + 1 + 1, 0, none⟩)]) rfl trivial (enters_of Tryz.func42 (by kernel_rfl) rfl) (fun _ => rfl)
    (ParI w s w.heap.size (w.heap.size + 1) (w.heap.size + 1 + 1)) (ParX w s w.heap.size (w.heap.size + 1)) (parI_own (by omega)) (parX_own (by omega)) h0
    (dpieces1_tells (w.heap.size + 1 + 1) s h1 h60 _ (fun _ _ h => h.src) Fence.wide rfl) ?round ?done ?stop
  case round =>
    clear h0
    rintro l k x W _ ⟨hk, t, hP, rfl⟩
    gi_wp2
    refine ⟨trivial, fun l' V hI => ?_⟩
    obtain ⟨p1, p2, p3⟩ := hP.bounds hk
    obtain ⟨p, hp⟩ : ∃ p, s.extract k t = p := ⟨_, rfl⟩
    have hps : p.size = t - k := by rw [← hp, ByteArray.size_extract]; omega
    have hpl : p.data.toList = (s.data.toList.take t).drop k := by rw [← hp, Lib.extract_data, List.take_drop]; congr 2; omega
    rw [hp]
    have HPL := Lib.hid hpl
    have HP := Lib.hid hP
    clear hpl
    have HI := Lib.hid hI
    clear hp hP hI
    obtain ⟨r, hr4, hrN, hrn, hrk⟩ := HI.out.sum
    have hb5 := HI.out.b5
    have hn4 : ∀ q, Boxed (V.iter p q) w.heap.size 23 (.slice r.A r.n r.c) := fun q => hr4.alloc _
    have hn5 : ∀ q, Boxed (V.iter p q) (w.heap.size + 1) 29 (.int .i64 0) := fun q => hb5.alloc _
    have c4 := fun q => (hn4 q).cell
    have f4 := fun q => (hn4 q).frozen
    have c5 := fun q => (hn5 q).cell
    have f5 := fun q => (hn5 q).frozen
    have HRN := Lib.hid hrN
    have HRn := Lib.hid hrn
    have HRK := Lib.hid hrk
    have HB := Lib.hid (And.intro hn4 hn5)
    clear hrN hrn hrk hr4 hb5 hn4 hn5
    gi_wp2_with fail
    gi_loopw [7] (fun pv wr => ∃ pos : Nat, pos ≤ p.size ∧ pv = .int .u32 (val (p.data.toList.take pos) : Nat) ∧ wr = V.iter p pos ∧ Hid (Digs (p.data.toList.take pos))) (fun _ wr => p.size - wr.iterPos V.heap.size)
    case atStart => exact ⟨0, Nat.zero_le _, rfl, rfl, Lib.hid digs_nil⟩
    case round =>
      obtain ⟨pos, hpos, rfl, rfl, hdg⟩ := hrel
      by_cases hlt : pos < p.size
      · have hts := take_snoc p pos hlt
        have hmem := mem_str p pos hlt
        by_cases hd : 48 ≤ p[pos].toNat ∧ p[pos].toNat ≤ 57
        · have hnext := fun ty => run_next_ascii (P := Tryz.prog) V p pos ty hlt (by omega)
          obtain ⟨d, hd10, hcd⟩ : ∃ d, d < 10 ∧ p[pos].toNat = 48 + d := ⟨p[pos].toNat - 48, by omega, by omega⟩
          rw [hcd] at hnext
          obtain ⟨N, hN⟩ : ∃ N, val (p.data.toList.take pos) = N := ⟨_, rfl⟩
          have hNlt : N < 100000000 := by
            rw [← hN]
            refine Nat.lt_of_lt_of_le (val_lt hdg.out) (show 10 ^ _ ≤ 10 ^ 8 from Nat.pow_le_pow_right (by omega) (by rw [List.length_take]; omega))
          have HN : Hid (val (p.data.toList.take (pos + 1)) = 10 * N + d) := Lib.hid (by rw [hts, val_snoc, hN, hcd]; omega)
          have HDG : Hid (Digs (p.data.toList.take (pos + 1))) := Lib.hid (by rw [hts]; refine digs_append.mpr ⟨hdg.out, ?_⟩; intro c hc; simp only [List.mem_cons, List.not_mem_nil, or_false] at hc; subst hc; omega)
          rw [hN]
          clear hts hmem hd hcd hN hdg
          gi_wp2
          refine ⟨⟨pos + 1, by omega, ?_, rfl, HDG⟩, by rw [World.iterPos_iter, World.iterPos_iter]; omega⟩
          rw [HN.out]
          exact congrArg _ (by omega)
        · obtain ⟨ru, q, hnext, hru⟩ : ∃ ru q : Nat, (∀ ty, (Instr.next (.pointer (some ⟨V.heap.size, 0, none⟩)) true ty).run Tryz.prog (V.iter p pos) = .ok (.tuple #[.bool true, .int .i64 pos, .int .i32 ru]) (V.iter p q)) ∧ (ru < 48 ∨ 57 < ru) := by
            by_cases ha : p[pos].toNat < 128
            · exact ⟨_, _, fun ty => run_next_ascii V p pos ty hlt ha, by omega⟩
            · exact ⟨_, _, fun ty => run_next_any V p pos ty hlt, .inr (by have := (decode_high p pos hlt (by omega)).1; omega)⟩
          have HND : Hid (¬ Digs s.data.toList) := Lib.hid (fun h => hd (h _ (by
            have h2 := hmem
            rw [HPL.out] at h2
            exact List.mem_of_mem_take (List.mem_of_mem_drop h2))))
          clear hts hmem hd hdg
          rcases hru with hru | hru
          · gi_wp2
            exact parX_of HI.out (HB.out.1 q) (HB.out.2 q) HND.out
          · gi_wp2
            exact parX_of HI.out (HB.out.1 q) (HB.out.2 q) HND.out
      · have hnext := fun ty => run_next_end (P := Tryz.prog) V p pos ty hlt
        have hpe : pos = p.size := by omega
        have HTK : Hid (p.data.toList.take pos = p.data.toList) := Lib.hid (List.take_of_length_le (by rw [str_len]; omega))
        rw [HTK.out] at hdg ⊢
        obtain ⟨N, hN⟩ : ∃ N, val p.data.toList = N := ⟨_, rfl⟩
        rw [hN]
        have HN := Lib.hid hN
        have hNlt : N < 1000000000 := by
          rw [← hN]
          refine Nat.lt_of_lt_of_le (val_lt hdg.out) (show 10 ^ _ ≤ 10 ^ 9 from Nat.pow_le_pow_right (by omega) (by rw [str_len]; omega))
        clear hN hpe
        have hrb : r.n ≤ 60 := by
          rw [HRn.out]
          refine lenL_le.2 (Nat.lt_of_lt_of_le (show r.N < 10 ^ 60 from ?_) (Nat.pow_le_pow_left (by rw [Bw_eq]; omega) 60))
          rw [HRN.out]
          exact Nat.lt_of_lt_of_le (val_lt HI.out.digs) (Nat.pow_le_pow_right (by omega) (by rw [List.length_take]; omega))
        have hV0 : Below V.heap.size V (V.iter p pos) := (Below.refl _ V).alloc (Nat.le_refl _) _
        have hr0 := HRK.out.later hV0
        have EB := Lib.hid (pBy_any (V.iter p pos) r.A r.n r.c r.N 1000000000 hr0.1 hr0.2.1 hr0.2.2.1 (by omega) (by omega))
        have hl2 : lenL (r.N * 1000000000) ≤ 100 := by
          have := mul_len (n := 60) (m := 1) (lt_pow_of hr0.1.1 hrb) (show 1000000000 < Bw ^ 1 by rw [Nat.pow_one, Bw_eq]; omega)
          omega
        have HL2 := Lib.hid hl2
        have HV0 := Lib.hid hV0
        clear hl2 hV0 hr0
        gi_wp2_with fail
        refine ⟨trivial, (CallsIn.inRound l' (callsIn_wide.2 EB.out)).mono ?_⟩
        rintro e W4 ⟨A4, x4, rfl, a1, a2, a3, a4⟩
        have oy := a3.ok a1 a2 (by have := HL2.out; omega)
        have oz := one_limb W4 (N := N) (v := (N : Nat)) rfl rfl (by omega)
        have hb5 : Below W4.heap.size W4 (W4.alloc (.cells #[.int .u32 (N : Nat)] 47)) := (Below.refl _ _).alloc (Nat.le_refl _) _
        have oy5 := oy.later hb5
        have hS : sumN [(⟨A4, lenL (r.N * 1000000000), x4, r.N * 1000000000⟩ : Num), ⟨some ⟨W4.heap.size, 0, none⟩, 1, 1, N⟩] = r.N * 1000000000 + N := by simp [sumN]
        have EA := Add_any ((W4.alloc (.cells #[.int .u32 (N : Nat)] 47)).alloc (.cells #[.slice A4 (lenL (r.N * 1000000000)) x4, .slice (some ⟨W4.heap.size, 0, none⟩) 1 1] 23)) (some ⟨(W4.alloc (.cells #[.int .u32 (N : Nat)] 47)).heap.size, 0, none⟩) 2 [⟨A4, lenL (r.N * 1000000000), x4, r.N * 1000000000⟩, ⟨some ⟨W4.heap.size, 0, none⟩, 1, 1, N⟩] (Rds.two oy5 oz) (by simp)
        rw [hS] at EA
        rw [World.size_alloc] at EA
        have hb6 := a4.trans ((hb5.alloc hb5.size (.cells #[.slice A4 (lenL (r.N * 1000000000)) x4, .slice (some ⟨W4.heap.size, 0, none⟩) 1 1] 23)).mono a4.size)
        have HEA := Lib.hid EA
        have HB6 := Lib.hid hb6
        clear oy oz hb5 oy5 hS EA hb6 a1 a2 a3 a4
        gi_wp2_with fail
        refine ⟨trivial, (CallsIn.inRound l' (callsIn_wide.2 HEA.out)).mono ?_⟩
        rintro e W7 ⟨A7, x7, rfl, b1, b2, b3, b4⟩
        have hb7 := HB6.out.trans (b4.mono HB6.out.size)
        have hv7 := HV0.out.trans (hb7.mono HV0.out.size)
        have k4 := boxed_below (HB.out.1 pos) hb7 (HB.out.1 pos).lt
        have k5 := boxed_below (HB.out.2 pos) hb7 (HB.out.2 pos).lt
        have HLO := Lib.hid (Nat.lt_of_lt_of_le (HB.out.1 pos).lt HB6.out.size)
        have kc4 := k4.cell
        have kf4 := k4.frozen
        have HK4 := Lib.hid k4
        have HK5 := Lib.hid k5
        have HV7 := Lib.hid hv7
        have B1 := Lib.hid b1
        have B2 := Lib.hid b2
        have B3 := Lib.hid b3
        clear b1 b2 b3 b4 hb7 hv7 k4 k5
        gi_wp2
        have hkt : k + p.size = t := by rw [hps]; omega
        rw [hkt]
        exact parI_next HI.out hk HP.out rfl HPL.out HN.out hdg.out HRN.out HV7.out HK4.out HK5.out HLO.out B3.out B1.out B2.out h60 _
  case done =>
    rintro D k W hD rfl hI hK
    obtain ⟨r, hr4, hrN, hrn, hrk⟩ := hI.sum
    have c4 := hr4.cell
    have c5 := hI.b5.cell
    have n4 : ∀ q, (W.drewN q).cell? ⟨w.heap.size, 0, none⟩ = some (.slice r.A r.n r.c) := fun _ => c4
    have n5 : ∀ q, (W.drewN q).cell? ⟨w.heap.size + 1, 0, none⟩ = some (.int .i64 0) := fun _ => c5
    have HI := Lib.hid hI
    have HK := Lib.hid hK
    have HRN := Lib.hid hrN
    have HRn := Lib.hid hrn
    have HRK := Lib.hid hrk
    have H4 := Lib.hid hr4.lt
    clear hI hK hrN hrn hrk hr4
    gi_wp2_with fail
    refine wpIn_wide.2 ?_
    go_quiet ((fail))
    gi_wp2_with fail
    rw [Exit.noGoto_ret]
    have hk2 : (W.drewN nq).heap[D]? = some (.deferred (some [])) := HK.out
    have hg := (grown_drewN W nq (some D)).trans (grownBy_putObj' (W.drewN nq) D (.deferred none))
    have hr : ∀ r, some D = some r → ∃ o : Obj, W.heap[r]? = some o ∧ o.isCells = false := fun r e => by cases e; exact ⟨_, HK.out, rfl⟩
    have hl : s.data.toList.take s.size = s.data.toList := List.take_of_length_le (by rw [str_len]; exact Nat.le_refl _)
    refine ⟨by simp, .inl ⟨_, _, rfl, run_takeDeferred hk2, ?_⟩⟩
    refine ⟨_, results_tmp2 rfl _ _ _, HI.out.bel.grown hg (Nat.le_of_lt H4.out) (fun k e => by cases e; omega), fun _ => ⟨r, rfl, by rw [HRN.out, hl], HRn.out, Num.kept HRK.out hg hr⟩, fun h => absurd (by have := HI.out.digs; rwa [hl] at this) h⟩
  case stop =>
    rintro D c k W hD _ ⟨rfl, hb, h4, h5, hd⟩ hK
    have c4 := h4.cell
    have c5 := h5.cell
    have n4 : ∀ q, (W.drewN q).cell? ⟨w.heap.size, 0, none⟩ = some (.slice none 0 0) := fun _ => c4
    have n5 : ∀ q, (W.drewN q).cell? ⟨w.heap.size + 1, 0, none⟩ = some (.int .i64 60) := fun _ => c5
    have HK := Lib.hid hK
    have HB := Lib.hid hb
    have HD := Lib.hid hd
    have H4 := Lib.hid h4.lt
    clear hK hb hd h4 h5
    gi_wp2_with fail
    refine wpIn_wide.2 ?_
    go_quiet ((fail))
    gi_wp2_with fail
    rw [Exit.noGoto_ret]
    have hk2 : (W.drewN nq).heap[D]? = some (.deferred (some [])) := HK.out
    have hg := (grown_drewN W nq (some D)).trans (grownBy_putObj' (W.drewN nq) D (.deferred none))
    refine ⟨by simp, .inl ⟨_, _, rfl, run_takeDeferred hk2, ?_⟩⟩
    exact ⟨_, results_tmp2 rfl _ _ _, HB.out.grown hg (Nat.le_of_lt H4.out) (fun k e => by cases e; omega), fun h => absurd h HD.out, fun _ => rfl⟩

theorem parse_long (s : ByteArray) (w : World) (h1 : 1 ≤ s.size) (h60 : s.size ≤ 60) : Calls Tryz.prog 10 #[.string s] w (ParPost w s) := callsIn_wide.1 (parse_in s w h1 h60)
end Go.Proofs.YtaancfhbmjkoaaaGreatDoor
