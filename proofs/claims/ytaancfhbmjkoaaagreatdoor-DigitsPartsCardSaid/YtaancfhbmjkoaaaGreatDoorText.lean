/- Contract of package digits' Text: the places' digits, written into a builder; the noughts ahead are cut off. -/
import Derived.Shelf.Abstract
import Derived.Shelf.RegionOpen
import Derived.OwnWalkIn
import Derived.TacticsInMore
import Derived.LoopNIn
import Derived.LoopIn
import Derived.Sort.QuietIn
import Derived.Test.YtaancfhbmjkoaaaGreatDoorPlaces
import Derived.Test.YtaancfhbmjkoaaaGreatDoorSquares
import Derived.Test.YtaancfhbmjkoaaaGreatDoorWstr
import Derived.Test.YtaancfhbmjkoaaaGreatDoorShelf6
namespace Go.Proofs.YtaancfhbmjkoaaaGreatDoor
open Go Go.RowKit
attribute [local go_sem] Oper.semAt_some

/-- The library's table of powers of ten, as its text lays it. -/
abbrev Pow10 (w : World) : Prop := Lib.TabIs Tryz.prog w "internal/strconv.uint64pow10" .u64 Lib.pow10Tab

theorem pow10_later {w w' : World} (h : Pow10 w) (hb : Below w.heap.size w w') : Pow10 w' := by
  unfold Pow10 Lib.TabIs World.var? at h ⊢
  rw [show Tryz.prog.globalNamed "internal/strconv.uint64pow10" = some 0 by kernel_rfl] at h ⊢
  simp only [Option.bind_some] at h ⊢
  have hlt : 0 < w.heap.size := by
    rcases Nat.lt_or_ge 0 w.heap.size with h' | h'
    · exact h'
    · rw [Array.getElem?_eq_none h'] at h; cases h
  rw [hb.block _ hlt]
  exact h
theorem below_sgrow (w : World) (k : Nat) (os : Array Obj) : Below w.heap.size w (Sort.grow (w.drewN k) os) :=
  ⟨rfl, rfl, rfl, (by show w.heap.size ≤ (w.heap ++ os).size; rw [Array.size_append]; omega), fun j hj => (by show (w.heap ++ os)[j]? = _; rw [Array.getElem?_append_left hj])⟩

/-- A turn of what is no cells: the builder is as it was. -/
theorem AtB.turn {B b : Nat} {p : Value} {bs : List Value} {W W' : World} {row : Option Nat} (h : AtB B b p bs W) (hg : W.grownBy W' row) (hr : ∀ r, row = some r → ∃ o : Obj, W.heap[r]? = some o ∧ o.isCells = false) : AtB B b p bs W' := by
  obtain ⟨hB, v, hbk, hown, hne⟩ := h
  refine ⟨hB, v, (hg.block b (Array.getElem?_eq_some_iff.1 hbk).1 fun e => ?_).trans hbk, hown.kept hg ?_, hne⟩
  · obtain ⟨o, h1, h2⟩ := hr b e.symm
    rw [hbk] at h1; cases h1; cases h2
  · cases hv : v.ownBlock with
    | none => exact .inl rfl
    | some g =>
      refine .inr fun e => ?_
      obtain ⟨c, fz, hc⟩ := Lib.ownsRowF_kind hown g hv
      obtain ⟨o, h1, h2⟩ := hr g e.symm
      rw [hc] at h1; cases h1; cases h2
theorem IsB.turn {B b : Nat} {bs : List Value} {W W' : World} {row : Option Nat} (h : IsB B b bs W) (hg : W.grownBy W' row) (hr : ∀ r, row = some r → ∃ o : Obj, W.heap[r]? = some o ∧ o.isCells = false) : IsB B b bs W' :=
  h.elim (fun h => .inl (AtB.turn h hg hr)) (fun h => .inr (AtB.turn h hg hr))

theorem rdsO_of_own {b base : Nat} {W : World} {v : Value} {l : List Num} (h : W.ownsRow base 23 1 v l.length (rowV l)) (hn : ∀ z ∈ l, NumO b W z) (ho : ∀ k, base ≤ k → Out b W k) :
    ∃ A c, v = .slice A l.length c ∧ l.length ≤ c ∧ c ≤ maxLen ∧ RdsO b W A l := by
  rcases h.2 with ⟨rfl, h0⟩ | ⟨g, cap, cur, rfl, h1, h2, h3, h4, _⟩
  · exact ⟨none, 0, by rw [h0], by omega, by simp [maxLen], fun k hk => absurd hk (by omega)⟩
  · refine ⟨_, cap, rfl, h3, h4, fun k hk => ⟨⟨_, rfl, (Array.getElem?_eq_some_iff.1 h2).1, ho g h1, ?_⟩, hn _ (List.getElem_mem hk)⟩⟩
    rw [add_new, h.cellAt k (by omega)]
    simp [rowV, hk]

/-- Behind squares and places: what the iterator reads lies apart from the builder, in which nothing has been written yet. -/
theorem psrc_start {b : Nat} {w W1 W2 : World} {x : Num} {v : Value} {l : List Num} (hw : w.heap.size = b) (hx : x.ok w w.heap.size) (hxb : x.n ≤ 100) (h1 : Below w.heap.size w W1) (hs1 : W1.heap.size = b + 1) (hb1 : W1.heap[b]? = some (.cells #[.pointer none, .slice none 0 0] 60 (0, 0)))
    (h2 : Below W1.heap.size W1 W2) (hown : W2.ownsRow W1.heap.size 23 1 v l.length (rowV l)) (hn : ∀ z ∈ l, Fr W2 W1.heap.size W2.heap.size z.A z.n z.N ∧ z.n ≤ z.c ∧ z.c ≤ maxLen ∧ z.n ≤ 1000) (hp : ∀ k (h : k < l.length), l[k].N = P9 k) (hlt : x.N < P9 l.length) :
    ∃ A c, v = .slice A l.length c ∧
      PSrc b ((W2.alloc (.cells #[.slice x.A x.n x.c] 23)).alloc (.cells #[.slice A l.length c] 26)) (W2.heap.size + 1) W2.heap.size A c l x ∧
      IsB b b [] ((W2.alloc (.cells #[.slice x.A x.n x.c] 23)).alloc (.cells #[.slice A l.length c] 26)) := by
  have hs2 := h2.size
  have hB1 : IsB b b [] W1 := .inl ⟨Nat.le_refl _, _, hb1, World.ownsRowF_nil _ _ _ _, by simp [Value.ownBlock]⟩
  have hB2 := hB1.turn (grown_of_below (r := none) h2) (fun r e => by cases e)
  have hb2 : W2.heap[b]? = some (.cells #[.pointer none, .slice none 0 0] 60 (0, 0)) := (h2.block b (by omega)).trans hb1
  have hr2 : rowOf b W2 = none := by
    unfold rowOf
    rw [show W2.cell? ⟨b, 1, none⟩ = some (.slice none 0 0) by simp [World.cell?, hb2]]
    rfl
  have ho : ∀ k, k ≠ b → Out b W2 k := fun k hk => ⟨hk, by rw [hr2]; simp⟩
  have hNx : NumO b W2 x := ⟨((hx.below h1).below (h2.mono (by omega))).more (by omega), fun h0 ad e => by
    obtain ⟨ad', e', hlt, _⟩ := hx.1.2 h0
    rw [e] at e'; cases e'
    exact ho _ (by omega)⟩
  have hNl : ∀ z ∈ l, NumO b W2 z := fun z hz => by
    obtain ⟨n1, n2, n3, n4⟩ := hn z hz
    exact ⟨⟨n1.rd, n2, n3, by omega⟩, fun h0 ad e => by
      obtain ⟨g, e', g1, _⟩ := n1.2 h0
      rw [e] at e'; cases e'
      exact ho _ (by simp only; omega)⟩
  obtain ⟨A, c, rfl, c1, c2, hR⟩ := rdsO_of_own hown hNl (fun k hk => ho k (by omega))
  refine ⟨A, c, rfl, ?_, ?_⟩
  · have hBk := hB2.bok
    have g1 := World.grownBy_alloc W2 (.cells #[.slice x.A x.n x.c] 23) none
    have t1 := hBk.turn g1 (fun r e => by cases e)
    have g2 := World.grownBy_alloc (W2.alloc (.cells #[.slice x.A x.n x.c] 23)) (.cells #[.slice A l.length c] 26) none
    have t2 := t1.1.turn g2 (fun r e => by cases e)
    have hRn := (hBk.grown g1).trans (t1.1.grown g2)
    have k1 := ((Boxed.new W2 23 (.slice x.A x.n x.c)).alloc (.cells #[.slice A l.length c] 26)).cell
    have k2 := (Boxed.new (W2.alloc (.cells #[.slice x.A x.n x.c] 23)) 26 (.slice A l.length c)).cell
    rw [World.size_alloc] at k2
    have ho3 : ∀ k, k ≠ b → Out b ((W2.alloc (.cells #[.slice x.A x.n x.c] 23)).alloc (.cells #[.slice A l.length c] 26)) k := fun k hk => ⟨hk, by rw [t2.2, t1.2, hr2]; simp⟩
    refine ⟨⟨by simp, ho3 _ (by omega), k2⟩, ⟨by simp; omega, ho3 _ (by omega), k1⟩, hR.rnd hRn, hNx.rnd hRn, fun k hk => ⟨hp k hk, ?_⟩, ⟨c1, c2⟩, hlt, by omega⟩
    have := (hn l[k] (List.getElem_mem hk)).2.2.2
    omega
  · exact (hB2.turn (World.grownBy_alloc _ _ none) (fun r e => by cases e)).turn (World.grownBy_alloc _ _ none) (fun r e => by cases e)

/-- What the rounds of Text keep. -/
def TextI (w : World) (b : Nat) (s : List Nat) (V : World) : Prop := IsB b b (Lib.byteCells (pads s)) V ∧ Below b w V
theorem textI_own {w : World} {b B : Nat} (hB : b ≤ B) : OwnFrom B (TextI w b) := fun _ _ _ _ h hg hr =>
  ⟨h.1.turn hg (fun r e => (hr r e).2), h.2.grown hg (Nat.le_of_lt h.1.bok.1) (fun k e => Nat.le_trans hB (hr k e).1)⟩
theorem strCells_list (l : List UInt8) : Lib.strCells ⟨l.toArray⟩ = Lib.byteCells l := by simp [Lib.strCells, Lib.byteCells]
theorem byteCells_app (l m : List UInt8) : Lib.byteCells l ++ Lib.byteCells m = Lib.byteCells (l ++ m) := by simp [Lib.byteCells]
theorem cut_first (c : UInt8) (l : List UInt8) (n : Nat) (h : n = l.length + 1) : (⟨(c :: l).toArray⟩ : ByteArray).extract 1 n = ⟨l.toArray⟩ := by
  subst h
  apply ByteArray.ext
  apply Array.ext'
  rw [Lib.extract_data]
  simp

set_option maxRecDepth 100000 in
set_option maxHeartbeats 4000000 in
theorem text_in (w : World) (x : Num) (hx : x.ok w w.heap.size) (hb : x.n ≤ 100) (hT : Pow10 w) :
    CallsIn Fence.wide 12 Tryz.prog 16 #[.slice x.A x.n x.c] w fun e w' => e = .returned (.string ⟨(dec x.N).toArray⟩) ∧ Below w.heap.size w w' := by
  obtain ⟨W1, hW1⟩ : ∃ W1, w.alloc (.cells #[.pointer none, .slice none 0 0] 60) = W1 := ⟨_, rfl⟩
  have hb1 : Below w.heap.size w W1 := by rw [← hW1]; exact (Below.refl _ w).alloc (Nat.le_refl _) _
  have hs1 : W1.heap.size = w.heap.size + 1 := by rw [← hW1]; simp
  have hc1 : W1.heap[w.heap.size]? = some (.cells #[.pointer none, .slice none 0 0] 60 (0, 0)) := by rw [← hW1]; exact World.alloc_heap_new w _
  have ES := Lib.hid (squares_any W1 x ((hx.below hb1).more hb1.size) hb)
  obtain ⟨b, hbw⟩ : ∃ b, w.heap.size = b := ⟨_, rfl⟩
  have HC1 := Lib.hid hc1
  have HT := Lib.hid hT
  have HX := Lib.hid hx
  clear hc1 hT hx
  refine callsIn_of_wp_marks Tryz.func16 rfl trivial ?_ rfl
  simp only [Tryz.ntmps16, List.size_toArray, List.length_cons, List.length_nil, Nat.reduceAdd, Nat.reduceSub, Array.replicate_succ, Array.replicate_zero, List.push_toArray, List.append_toArray, List.nil_append, List.cons_append]
  gi_wp2_with fail
  refine ⟨trivial, ?_⟩
  refine (callsIn_wide.2 ES.out).mono ?_
  rintro e W2 ⟨v, l, rfl, -, q1, q2, q3, q4, q5, q6⟩
  have hC := HC1.out
  rw [hbw] at hC
  obtain ⟨A, c, rfl, hps, hib⟩ := psrc_start hbw HX.out hb hb1 (by omega) hC q1 q2 q3 q4 q5
  have HPS := Lib.hid hps
  have HIB := Lib.hid hib
  have hb2 : Below b w W2 := (hbw ▸ hb1).trans (q1.mono (by omega))
  have hs2 := q1.size
  clear hps hib q1 q2 q3 q4 hC HC1
  gi_wp2_with (refine ⟨trivial, ?_⟩; gi_at_call 33; refine (callsIn_wide.2 (places_any x A l.length c _)).mono ?_; rintro e w' ⟨rfl, rfl⟩)
  obtain ⟨W3, hW3⟩ : ∃ W3, (W2.alloc (.cells #[.slice x.A x.n x.c] 23)).alloc (.cells #[.slice A l.length c] 26) = W3 := ⟨_, rfl⟩
  have hb3 : Below b w W3 := by rw [← hW3]; exact (hb2.alloc (by omega) _).alloc (by simp; omega) _
  simp only [hW3] at HPS HIB ⊢
  have hpl : (placesOf l.length x.N).length ≤ 4096 := by rw [places_length]; exact Nat.pow_le_pow_right (n := 2) (by omega) q6
  have h0 : TextI w b [] W3 := ⟨HIB.out, hb3⟩
  have hs3 : b ≤ W3.heap.size := Nat.le_of_lt h0.1.bok.1
  refine wpIn_rangeFunc_on (b := b) 4096 (xs := placesOf l.length x.N) (pre := []) (w0 := W3) rfl rfl (gf := 50) (lb := #[.pointer (some ⟨W2.heap.size + 1, 0, none⟩), .pointer (some ⟨W2.heap.size, 0, none⟩)]) rfl (enters_of Tryz.func50 (by kernel_rfl) rfl) rfl (by simpa using hpl)
    (TextI w b) (textI_own hs3) (fun s A h => h.1.bok) h0 (Rnd.refl _ _) (places_tells b l.length (by omega) W3 _ _ A c l x rfl HPS.out) ?round ?done
  case round =>
    clear hW3 HPS HIB h0
    intro l2 s x' V hl2 _ hx' hsN
    gi_wp2
    refine ⟨trivial, fun V' hI' => ?_⟩
    have EI := sh_Itoa (1000000000 + (x' : Int)) (by omega) (by omega) V' (pow10_later (w := w) HT.out (hbw ▸ hI'.2))
    rw [itoa_place hx'] at EI
    have HI := Lib.hid hI'
    have HEI := Lib.hid EI
    clear hI' EI
    gi_wp2_with fail
    refine ⟨trivial, (CallsIn.inRound l2 (callsIn_wide.2 HEI.out)).mono ?_⟩
    rintro e w' ⟨rfl, k, os, hw'⟩
    have hbg := below_sgrow V' k os
    rw [← hw'] at hbg
    have hI2 := HI.out.1.turn (grown_of_below (r := none) hbg) (fun r e => by cases e)
    have hB2 : Below b w w' := HI.out.2.trans (hbg.mono (Nat.le_of_lt HI.out.1.bok.1))
    have hR2 := HI.out.1.bok.grown (grown_of_below (r := none) hbg)
    have hcut := cut_first 49 (dpad 9 x') 10 (by rw [dpad_length])
    have EW := wstr_any ⟨(dpad 9 x').toArray⟩ w' hI2 (by rw [Lib.byteCells_length, pads_length, str_size, dpad_length]; omega) (Nat.le_of_lt hI2.bok.1)
    rw [strCells_list, byteCells_app, ← pads_one x', ← pads_append] at EW
    rw [pads_one x'] at EW
    have hlen9 : (dpad 9 x').length = 9 := dpad_length 9 x'
    have HEW := Lib.hid EW
    have HR2 := Lib.hid hR2
    have HB2 := Lib.hid hB2
    clear EW hR2 hB2 hI2 hbg hw'
    gi_wp2_with fail
    refine ⟨trivial, (CallsIn.inRound l2 (callsIn_wide.2 HEW.out)).mono ?_⟩
    rintro e w5 ⟨rfl, hI5, hB5, hR5⟩
    gi_wp2
    exact ⟨⟨hI5, HB2.out.trans hB5⟩, HR2.out.trans hR5⟩
  case done =>
    intro D V hD hI hRV hK
    rw [List.nil_append] at hI
    have EST := Lib.hid (sh_String b b (pads (placesOf l.length x.N)) V hI.1 (Nat.le_of_lt hI.1.bok.1))
    have ETR := Lib.hid (fun W => sh_TrimLeft ⟨(pads (placesOf l.length x.N)).toArray⟩ 48 (by decide) W)
    have htd : ((⟨(pads (placesOf l.length x.N)).toArray⟩ : ByteArray)).data.toList = pads (placesOf l.length x.N) := rfl
    rw [htd, trim_places q5] at ETR
    have HBV := Lib.hid hI.2
    have HDb := Lib.hid ((hI.1.bok.out_of hK rfl).1)
    have HK := Lib.hid hK
    clear hI hRV hK htd hW3 HPS HIB h0 ES
    gi_wp2_with fail
    refine ⟨trivial, (callsIn_wide.2 EST.out).mono ?_⟩
    rintro e V1 ⟨rfl, hb5, hk5⟩
    have HK5 : Hid (V1.heap[D]? = some (.deferred (some []))) := Lib.hid (hk5 D _ HK.out (fun e => HDb.out (Option.some.inj e)) (fun _ _ e => by cases e))
    have HB5 := Lib.hid (HBV.out.trans hb5)
    clear hb5 hk5
    gi_wp2_with fail
    refine ⟨trivial, (callsIn_wide.2 (ETR.out _)).mono ?_⟩
    rintro e V2 ⟨rfl, hV2⟩
    rw [hV2]
    have hK2 := HK5.out
    have hlt := (Array.getElem?_eq_some_iff.1 hK2).1
    have hfin : Below w.heap.size w (V1.putObj D (.deferred none)) := by rw [hbw]; exact HB5.out.grown (grownBy_putObj' V1 D _) (by omega) (fun k e => by cases e; omega)
    have HF := Lib.hid hfin
    clear hfin
    by_cases h0 : x.N = 0
    · have HD : Hid (dec x.N = [48]) := Lib.hid (by rw [h0, dec_zero])
      rw [h0, decz_zero]
      gi_wp2
      refine ⟨by simp, .inl ⟨_, _, rfl, run_takeDeferred hK2, ?_⟩⟩
      exact ⟨_, results_tmp rfl _ _ _, by rw [HD.out]; rfl, HF.out⟩
    · have HD : Hid (dec x.N = decz x.N) := Lib.hid (dec_pos h0)
      have hne := decz_ne h0
      obtain ⟨c0, m, hcm⟩ : ∃ c0 m, decz x.N = c0 :: m := by
        cases hd : decz x.N with
        | nil => exact absurd hd hne
        | cons c0 m => exact ⟨c0, m, rfl⟩
      rw [hcm] at HD ⊢
      clear hne hcm h0
      gi_wp2
      refine ⟨by simp, .inl ⟨_, _, rfl, run_takeDeferred hK2, ?_⟩⟩
      exact ⟨_, results_tmp rfl _ _ _, by rw [HD.out]; rfl, HF.out⟩
theorem text_any (w : World) (x : Num) (hx : x.ok w w.heap.size) (hb : x.n ≤ 100) (hT : Pow10 w) :
    Calls Tryz.prog 16 #[.slice x.A x.n x.c] w fun e w' => e = .returned (.string ⟨(dec x.N).toArray⟩) ∧ Below w.heap.size w w' := callsIn_wide.1 (text_in w x hx hb hT)
end Go.Proofs.YtaancfhbmjkoaaaGreatDoor
