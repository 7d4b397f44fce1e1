/- Rows of texts: the program's All, the document's All, SameTexts. -/
import Derived.Test.YtaancfhbmjkoaaaGreatDoorRowN
import Derived.Test.YtaancfhbmjkoaaaGreatDoorDigE
import Derived.Test.YtaancfhbmjkoaaaGreatDoorRText
import Derived.Test.YtaancfhbmjkoaaaGreatDoorGQuotA
namespace Go.Proofs.YtaancfhbmjkoaaaGreatDoor
open Go Go.RowKit

/-- The texts of the numbers, as values. -/
def txts (l : List Num) : List Value := l.map fun x => .string ⟨(dec x.N).toArray⟩
theorem txts_length (l : List Num) : (txts l).length = l.length := by simp [txts]
theorem txts_at {l : List Num} {k : Nat} (h : k < l.length) : (txts l)[k]? = some (.string ⟨(dec l[k].N).toArray⟩) := by simp [txts, h]
theorem txts_take {l : List Num} {k : Nat} (h : k < l.length) : txts (l.take (k + 1)) = txts (l.take k) ++ [.string ⟨(dec l[k].N).toArray⟩] := by
  unfold txts
  rw [List.take_succ_eq_append_getElem h, List.map_append]
  rfl
theorem info_str : (Tryz.prog.info? 9).map (fun i => (i.zero, i.size, i.bytes)) = some (some (.string ⟨#[]⟩), 1, 16) := by kernel_rfl
/-- A row of texts is appended to: the text behind the literal at g. -/
theorem text_append {W : World} {base g n : Nat} {v : Value} {xs : List Value} (h : W.ownsRow base 9 1 v n xs) (hb : base ≤ W.heap.size) (hl : n ≤ 1000000) (s : ByteArray) (hg : W.heap.size = g) :
    ∃ v' WC, (Builtin.append_ #[40, 40] 40 #[v, .slice (some ⟨g, 0, none⟩) 1 1]).run Tryz.prog (W.alloc (.cells #[.string s] 9)) = .ok v' WC ∧ WC.ownsRow base 9 1 v' (n + 1) (xs ++ [.string s]) ∧ W.grownBy WC v.ownBlock := by
  subst hg
  obtain ⟨i0, hi, hz0, hz1, hz2⟩ := info_parts info_str
  have h' : (W.alloc (.cells #[.string s] 9)).ownsRow base 9 1 v n xs := World.ownsRow.alloc h _
  obtain ⟨v', WC, h1, h2, h3, -, -⟩ := run_append_own_at (P := Tryz.prog) (w := W.alloc (.cells #[.string s] 9)) base 40 40 9 i0 (.string ⟨#[]⟩) 1 16 Tryz.underlying40 hi hz0 hz1 hz2 rfl (by decide) v n xs h'
    ⟨W.heap.size, 0, none⟩ 1 1 [.string s] rfl (cell_one_new _ _ _) (by simp [Value.oneCell']) (by simp only [maxLen]; omega) (by omega) (by rw [World.size_alloc]; exact Nat.le_trans hb (Nat.le_succ _))
  exact ⟨v', WC, h1, h2, (World.grownBy_alloc _ _ _).trans h3⟩
/-- The cells of a row of one's own. -/
theorem own_at {w : World} {B n : Nat} {e : TypeId} {v : Value} {xs : List Value} (h : w.ownsRow B e 1 v n xs) : ∃ A c, v = .slice A n c ∧ n ≤ c ∧ c ≤ maxLen ∧ ∀ j u, xs[j]? = some u → ∃ ad, A = some ad ∧ w.cell? (ad.add j) = some u := by
  have hc := h
  rcases h.2 with ⟨rfl, rfl⟩ | ⟨g, cap, cur, rfl, _, _, h1, h2, _, _⟩
  · refine ⟨none, 0, rfl, Nat.le_refl _, by simp [maxLen], fun j u hj => ?_⟩
    have h0 := (List.getElem?_eq_some_iff.1 hj).1
    have h1 : xs.length = 0 * 1 := h.1
    omega
  · exact ⟨_, _, rfl, h1, h2, fun j u hj => ⟨_, rfl, hc.cells (g := g) rfl j u hj⟩⟩
/-- The value is a row of one's own of these texts. -/
def RepS (xs : List Value) (v : Value) (V : World) : Prop := ∃ B, V.ownsRow B 9 1 v xs.length xs
theorem own_below {W W' : World} {B n : Nat} {e : TypeId} {v : Value} {xs : List Value} (h : W.ownsRow B e 1 v n xs) (hb : Below W.heap.size W W') : W'.ownsRow B e 1 v n xs := by
  refine h.kept (grown_of_below (r := none) hb) ?_
  cases h1 : v.ownBlock with
  | none => exact .inl rfl
  | some g => exact .inr (by simp)
theorem RepS.keep {xs : List Value} {v : Value} {V V' : World} (h : RepS xs v V) (hb : Below V.heap.size V V') : RepS xs v V' := by
  obtain ⟨B, h⟩ := h
  exact ⟨B, own_below h hb⟩
/-- The texts of the numbers are told, in a row of the call's own. -/
def GivesL (w : World) (xs : List Value) (e : Ending) (W : World) : Prop := ∃ v, e = .returned v ∧ Below w.heap.size w W ∧ RepS xs v W

section
variable {w0 w : World} {A : Option Addr} {c : Nat} {l : List Num}
theorem grown_row {w V V' : World} {v : Value} {n : Nat} {xs : List Value} (h : Below w.heap.size w V) (hO : V.ownsRow w.heap.size 9 1 v n xs) (hG : V.grownBy V' v.ownBlock) : Below w.heap.size w V' :=
  h.grown hG h.size (fun k hk => (hO.lt k hk).1)
set_option maxRecDepth 100000 in
set_option maxHeartbeats 2000000 in
theorem pAll6_any (S : DigTold w0) (h0 : Below w0.heap.size w0 w) (hR : Rds w w.heap.size A l) (hl : l.length ≤ 1000) (hb : ∀ z ∈ l, z.n ≤ 100) :
    Calls Tryz.prog 23 #[.slice A l.length c] w (GivesL w (txts l)) := by
  have SH := Lib.hid S
  go_enter Tryz.func23, Tryz.ntmps23
  go_wp2
  go_loopw [3, 8] (fun tv i V => ∃ k : Nat, k ≤ l.length ∧ i = .int .i64 k ∧ Hid (Below w.heap.size w V ∧ V.ownsRow w.heap.size 9 1 tv k (txts (l.take k)))) (fun _ i _ => l.length - (intOf i).toNat)
  case atStart => exact ⟨0, Nat.zero_le _, rfl, Lib.hid ⟨Below.refl _ _, World.ownsRow_nil _ _ _ _⟩⟩
  case round =>
    obtain ⟨k, hk, rfl, HI⟩ := hrel
    obtain ⟨hB, hO⟩ := HI.out
    by_cases hlt : k < l.length
    · obtain ⟨⟨ad, rfl, hadb, hc⟩, hr⟩ := (hR.below hB) k hlt
      have ET := Lib.hid (S.text wr wr [l[k]] l[k] (h0.trans (hB.mono h0.size)) (Env.start (by simp only [List.mem_singleton, forall_eq]; exact hr.more hB.size)) (by simp) (hb _ (List.getElem_mem hlt)))
      have HB := Lib.hid hB
      have HO := Lib.hid hO
      clear hr hB hO
      go_wp2_with fail
      refine ET.out.mono ?_
      rintro e W2 ⟨rfl, hE2⟩
      have HB2 := Lib.hid (HB.out.trans (hE2.1.mono HB.out.size))
      have hO2 := own_below HO.out hE2.1
      obtain ⟨v', WC, happ, q2, q3⟩ := text_append hO2 HB2.out.size (by omega) ⟨(dec l[k].N).toArray⟩ rfl
      rw [← txts_take hlt] at q2
      have HA := Lib.hid happ
      have Q := Lib.hid (And.intro (grown_row HB2.out hO2 q3) q2)
      clear happ hE2 hO2 q2 q3 HB HO
      go_wp2_with (at_builtin; refine wpList_append_run rfl _ _ _ rfl _ _ _ rfl rfl HA.out ?_)
      go_roundw
      case rel => exact ⟨k + 1, by omega, by go_num, Q⟩
      case measure => simp [intOf]; omega
    · obtain rfl : k = l.length := by omega
      go_wp2
      go_ret
      rw [List.take_length] at hO
      exact ⟨_, rfl, hB, _, by rw [txts_length]; exact hO⟩
set_option maxRecDepth 100000 in
set_option maxHeartbeats 2000000 in
theorem rAll6_any (hR : Rds w w.heap.size A l) (hl : l.length ≤ 1000) (hb : ∀ z ∈ l, z.n ≤ 700) :
    Calls Tryz.prog 24 #[.slice A l.length c] w (GivesL w (txts l)) := by
  go_enter Tryz.func24, Tryz.ntmps24
  go_wp2
  go_loopw [3, 4] (fun tv i V => ∃ k : Nat, k ≤ l.length ∧ i = .int .i64 k ∧ Hid (Below w.heap.size w V ∧ V.ownsRow w.heap.size 9 1 tv k (txts (l.take k)))) (fun _ i _ => l.length - (intOf i).toNat)
  case atStart => exact ⟨0, Nat.zero_le _, rfl, Lib.hid ⟨Below.refl _ _, World.ownsRow_nil _ _ _ _⟩⟩
  case round =>
    obtain ⟨k, hk, rfl, HI⟩ := hrel
    obtain ⟨hB, hO⟩ := HI.out
    by_cases hlt : k < l.length
    · obtain ⟨⟨ad, rfl, hadb, hc⟩, hr⟩ := (hR.below hB) k hlt
      have ET := Lib.hid (rText_E (w := wr) (W := wr) (e := [l[k]]) (x := l[k]) (Env.start (by simp only [List.mem_singleton, forall_eq]; exact hr.more hB.size)) (by simp) (hb _ (List.getElem_mem hlt)))
      have HB := Lib.hid hB
      have HO := Lib.hid hO
      clear hr hB hO
      go_wp2_with fail
      refine ET.out.mono ?_
      rintro e W2 ⟨rfl, hE2⟩
      have HB2 := Lib.hid (HB.out.trans (hE2.1.mono HB.out.size))
      have hO2 := own_below HO.out hE2.1
      obtain ⟨v', WC, happ, q2, q3⟩ := text_append hO2 HB2.out.size (by omega) ⟨(dec l[k].N).toArray⟩ rfl
      rw [← txts_take hlt] at q2
      have HA := Lib.hid happ
      have Q := Lib.hid (And.intro (grown_row HB2.out hO2 q3) q2)
      clear happ hE2 hO2 q2 q3 HB HO
      go_wp2_with (at_builtin; refine wpList_append_run rfl _ _ _ rfl _ _ _ rfl rfl HA.out ?_)
      go_roundw
      case rel => exact ⟨k + 1, by omega, by go_num, Q⟩
      case measure => simp [intOf]; omega
    · obtain rfl : k = l.length := by omega
      go_wp2
      go_ret
      rw [List.take_length] at hO
      exact ⟨_, rfl, hB, _, by rw [txts_length]; exact hO⟩
end

set_option maxRecDepth 100000 in
set_option maxHeartbeats 2000000 in
theorem sameTexts_any {w : World} {v v' : Value} {l : List Num} (h : RepS (txts l) v w) (h' : RepS (txts l) v' w) (hl : l.length ≤ 1000) :
    Calls Tryz.prog 22 #[v, v'] w fun e W => e = .returned (.bool true) ∧ Below w.heap.size w W := by
  obtain ⟨B, h⟩ := h
  obtain ⟨B', h'⟩ := h'
  rw [txts_length] at h h'
  obtain ⟨A, c, rfl, a1, a2, a3⟩ := own_at h
  obtain ⟨A', c', rfl, b1, b2, b3⟩ := own_at h'
  have H1 := Lib.hid a3
  have H2 := Lib.hid b3
  clear h h' a3 b3
  go_enter Tryz.func22, Tryz.ntmps22
  go_wp2
  go_loopw [5] (fun i V => ∃ k : Nat, k ≤ l.length ∧ i = .int .i64 k ∧ Below w.heap.size w V ∧ V.heap = w.heap) (fun i _ => l.length - (intOf i).toNat)
  case atStart => exact ⟨0, Nat.zero_le _, rfl, Below.refl _ _, rfl⟩
  case round =>
    obtain ⟨k, hk, rfl, hB, hH⟩ := hrel
    by_cases hlt : k < l.length
    · obtain ⟨ad, rfl, hc⟩ := H1.out k _ (txts_at hlt)
      obtain ⟨ad', rfl, hc'⟩ := H2.out k _ (txts_at hlt)
      have hd : wr.cell? (ad.add k) = some (.string ⟨(dec l[k].N).toArray⟩) := by unfold World.cell? at hc ⊢; rw [hH]; exact hc
      have hd' : wr.cell? (ad'.add k) = some (.string ⟨(dec l[k].N).toArray⟩) := by unfold World.cell? at hc' ⊢; rw [hH]; exact hc'
      clear hc hc'
      go_wp2
      go_quiet (fail)
      go_wp2
      go_roundw
      case rel => exact ⟨k + 1, by omega, by go_num, below_drewN hB _, hH⟩
      case measure => simp [intOf]; omega
    · obtain rfl : k = l.length := by omega
      go_wp2
      go_ret
      exact ⟨rfl, hB⟩
end Go.Proofs.YtaancfhbmjkoaaaGreatDoor
