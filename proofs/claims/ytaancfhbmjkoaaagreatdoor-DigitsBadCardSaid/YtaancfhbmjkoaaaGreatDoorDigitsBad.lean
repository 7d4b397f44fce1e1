/- DigitsBad, over what the program's functions answer: with a sign that is no digit put anywhere, or with too many digits, a text is no number. -/
import Derived.Laws.IdiomStrings
import Derived.Laws.DeepStrings4
import Derived.Test.YtaancfhbmjkoaaaGreatDoorWakes6
import Derived.Test.YtaancfhbmjkoaaaGreatDoorFactsN
import Derived.Test.YtaancfhbmjkoaaaGreatDoorLaw
namespace Go.Proofs.YtaancfhbmjkoaaaGreatDoor
open Go Go.ChangeShapes Go.WideShapes Go.ChangeAt Go.RowKit Go.Deep

section
variable {w W : World}
/-- What the readers say of a text: that all went well, or that it is no number. -/
theorem says_ok (S : DigTold w) (h : Env w [] W) (l : List UInt8) (hr : Reads l) :
    Calls Tryz.prog 10 #[.string ⟨l.toArray⟩] W fun e' W' => ∃ v, e' = .returned (.tuple #[v, .int .i64 0]) ∧ Env w [] W' := by
  refine (parse_ok S h.1 h l hr).mono ?_
  rintro e' W' ⟨r, rfl, _, _, hE⟩
  exact ⟨_, rfl, hE.pick (by simp)⟩
theorem says_bad (S : DigTold w) (h : Env w [] W) (l : List UInt8) (hl : l.length ≤ 1000) (hr : ¬ Reads l) :
    Calls Tryz.prog 10 #[.string ⟨l.toArray⟩] W fun e' W' => ∃ v, e' = .returned (.tuple #[v, .int .i64 60]) ∧ Env w [] W' := by
  refine (parse_bad S h.1 h l hl hr).mono ?_
  rintro e' W' ⟨rfl, hE⟩
  exact ⟨_, rfl, hE⟩
theorem saysInt_ok (S : DigTold w) (h : Env w [] W) (l : List UInt8) (hl : l.length ≤ 1000) (hr : Reads (iRest l)) :
    Calls Tryz.prog 12 #[.string ⟨l.toArray⟩] W fun e' W' => ∃ (u : Bool) (A : Option Addr) (n c : Nat), e' = .returned (.tuple #[.agg #[.bool u, .slice A n c], .int .i64 0]) ∧ Env w [] W' := by
  refine (parseInt_ok S h.1 h l hl hr).mono ?_
  rintro e' W' ⟨r, rfl, _, _, hE⟩
  exact ⟨_, _, _, _, rfl, hE.pick (by simp)⟩
theorem saysInt_bad (S : DigTold w) (h : Env w [] W) (l : List UInt8) (hl : l.length ≤ 1000) (hr : ¬ Reads (iRest l)) :
    Calls Tryz.prog 12 #[.string ⟨l.toArray⟩] W fun e' W' => ∃ (u : Bool) (A : Option Addr) (n c : Nat), e' = .returned (.tuple #[.agg #[.bool u, .slice A n c], .int .i64 60]) ∧ Env w [] W' := by
  refine (parseInt_bad S h.1 h l hl hr).mono ?_
  rintro e' W' ⟨rfl, hE⟩
  exact ⟨_, _, _, _, rfl, hE⟩
end
theorem iRest_sign (l : List UInt8) : iRest (45 :: l) = l := rfl
theorem not_reads_sign (l : List UInt8) : ¬ Reads (45 :: l) := fun h => by
  have := h.2.2 45 (by simp)
  revert this
  decide

theorem mod_place (a : Int) (n : Nat) (hn : n ≤ 60) : ∃ p : Nat, p ≤ n ∧ (wrap64 (wrap64 (a.tmod ((n : Int) + 1) + (n : Int)) + 1)).tmod ((n : Int) + 1) = (p : Int) := by
  have hm : (0 : Int) < (n : Int) + 1 := by omega
  obtain ⟨q, hq⟩ : ∃ q, a.tmod ((n : Int) + 1) = q := ⟨_, rfl⟩
  have h1 : -(n : Int) ≤ q ∧ q ≤ n := by
    rw [← hq, tmod_eq_if]
    have e1 := Int.emod_nonneg a (show ((n : Int) + 1) ≠ 0 by omega)
    have e2 := Int.emod_lt_of_pos a hm
    have e3 := Int.emod_nonneg (-a) (show ((n : Int) + 1) ≠ 0 by omega)
    have e4 := Int.emod_lt_of_pos (-a) hm
    split <;> omega
  rw [hq]
  have hw : wrap64 (wrap64 (q + (n : Int)) + 1) = q + n + 1 := by unfold wrap64; omega
  rw [hw, tmod_eq_if, if_pos (by omega)]
  have e1 := Int.emod_nonneg (q + n + 1) (show ((n : Int) + 1) ≠ 0 by omega)
  have e2 := Int.emod_lt_of_pos (q + n + 1) hm
  exact ⟨((q + n + 1) % ((n : Int) + 1)).toNat, by omega, by omega⟩
theorem cut_from (l : List UInt8) (k : Nat) : (⟨l.toArray⟩ : ByteArray).extract k l.length = ⟨(l.drop k).toArray⟩ := by
  apply ByteArray.ext
  apply Array.ext'
  rw [Lib.extract_data]
  exact List.take_of_length_le (by simp)
theorem cut_to (l : List UInt8) (k : Nat) : (⟨l.toArray⟩ : ByteArray).extract 0 k = ⟨(l.take k).toArray⟩ := by
  apply ByteArray.ext
  apply Array.ext'
  rw [Lib.extract_data]
  simp
def lenB (v : Value) : Nat := match v with | .string b => b.size | _ => 0
theorem lenB_str (l : List UInt8) : lenB (.string ⟨l.toArray⟩) = l.length := str_size l
/-- With a sign put in: digits all of them, if the sign is one. -/
theorem put_len (l : List UInt8) (p : Nat) (ch : UInt8) (hp : p ≤ l.length) : (l.take p ++ [ch] ++ l.drop p).length = l.length + 1 := by
  simp only [List.length_append, List.length_take, List.length_drop, List.length_singleton]
  omega
theorem put_digs {l : List UInt8} (p : Nat) (ch : UInt8) (hd : Digs l) : Digs (l.take p ++ [ch] ++ l.drop p) ↔ 48 ≤ ch.toNat ∧ ch.toNat ≤ 57 := by
  constructor
  · intro h
    exact h ch (by simp)
  · intro h
    refine digs_append.mpr ⟨digs_append.mpr ⟨fun c hc => hd c (List.mem_of_mem_take hc), fun c hc => ?_⟩, fun c hc => hd c (List.mem_of_mem_drop hc)⟩
    simp only [List.mem_cons, List.not_mem_nil, or_false] at hc
    subst hc
    exact h
/-- The value is a slice of that one byte. -/
def RepB (z : Int) (v : Value) (V : World) : Prop := ∃ g : Nat, v = .slice (some ⟨g, 0, none⟩) 1 1 ∧ V.heap[g]? = some (.cells #[.int .u8 z] 5 (0, 0))
theorem RepB.keep {z : Int} {v : Value} {V V' : World} (h : RepB z v V) (hb : Below V.heap.size V V') : RepB z v V' := by
  obtain ⟨g, h1, h2⟩ := h
  exact ⟨g, h1, (hb.block g (Array.getElem?_eq_some_iff.1 h2).1).trans h2⟩
theorem string_byte {V : World} {g : Nat} {v : Int} (hg : V.heap[g]? = some (.cells #[.int .u8 v] 5 (0, 0))) :
    (convert 48 9 (.slice (some ⟨g, 0, none⟩) 1 1)).run Tryz.prog V = .ok (.string ⟨#[UInt8.ofNat v.toNat]⟩) V := by
  rw [run_convert_bytes_string (P := Tryz.prog) _ 48 9 5 _ 1 1 (by kernel_rfl) (by kernel_rfl) (by kernel_rfl)]
  rw [run_bytesToString (P := Tryz.prog) _ _ 1 1 [v] (run_loadCells_list (P := Tryz.prog) _ _ [.int .u8 v] (fun j u hj => by
    have hj0 : j = 0 := by
      have := (List.getElem?_eq_some_iff.1 hj).1
      simpa using this
    subst hj0
    have hu : Value.int .u8 v = u := by simpa using hj
    subst hu
    rw [add_new]
    simp [World.cell?, hg]))]
  rfl

set_option maxRecDepth 100000 in
set_option maxHeartbeats 4000000 in
theorem dbad_long (w : World) (S : DigTold w) (s : ByteArray) (a c : Int) (hs : s.size ≤ maxLen) (hl : 60 < s.size) :
    Calls Tryz.prog 6 #[.string s, .int .i64 a, .int .u8 c] w fun e w' => e = .returned (.bool true) ∧ Below w.heap.size w w' := by
  have EW := Lib.hid (wakes6_E (e := []) S (Env.start (by simp)))
  have hs2 : s.size ≤ 9223372036854775807 := by simpa [maxLen] using hs
  go_enter Tryz.func6, Tryz.ntmps6
  go_wp2_with fail
  refine EW.out.mono ?_
  rintro e Vw ⟨rfl, hEw⟩
  go_wp2
  go_ret
  exact ⟨rfl, hEw.1⟩

set_option maxRecDepth 100000 in
set_option maxHeartbeats 4000000 in
theorem dbad_go (w : World) (S : DigTold w) (l : List UInt8) (a : Int) (cb : Nat) (hl : l.length ≤ 60) (hc : cb ≤ 255) :
    Calls Tryz.prog 6 #[.string ⟨l.toArray⟩, .int .i64 a, .int .u8 (cb : Nat)] w fun e w' => e = .returned (.bool true) ∧ Below w.heap.size w w' := by
  have hE0 : Env w [] w := Env.start (by simp)
  have EW := Lib.hid (wakes6_E S hE0)
  go_enter Tryz.func6, Tryz.ntmps6
  go_wp2_with fail
  go_loopw [7] (fun iv V => ∃ k : Nat, iv = .int .i64 k ∧ k ≤ l.length ∧ Hid (Digs (l.take k)) ∧ V = w) (fun iv _ => l.length - (intOf iv).toNat)
  case atStart => exact ⟨0, rfl, by omega, Lib.hid digs_nil, rfl⟩
  case round =>
    obtain ⟨k, rfl, hk, hd, rfl⟩ := hrel
    by_cases hlt : k < l.length
    · have hkb : k < (⟨l.toArray⟩ : ByteArray).size := by rw [str_size]; exact hlt
      have hge : (⟨l.toArray⟩ : ByteArray)[k] = l[k] := rfl
      have hlim : l[k].toNat < 256 := l[k].toNat_lt
      by_cases h1 : l[k].toNat < 48
      · have hb : decide ((((⟨l.toArray⟩ : ByteArray)[k]).toNat : Int) < 48) = true := by rw [hge, decide_eq_true_eq]; omega
        clear hge h1
        go_wp2_with fail
        refine EW.out.mono ?_
        rintro e V4 ⟨rfl, hE9⟩
        go_wp2
        go_ret
        exact ⟨rfl, hE9.1⟩
      · have hb : decide ((((⟨l.toArray⟩ : ByteArray)[k]).toNat : Int) < 48) = false := by rw [hge, decide_eq_false_iff_not]; omega
        by_cases h2 : 57 < l[k].toNat
        · have hb2 : decide (57 < (((⟨l.toArray⟩ : ByteArray)[k]).toNat : Int)) = true := by rw [hge, decide_eq_true_eq]; omega
          clear hge h1 h2
          go_wp2_with fail
          refine EW.out.mono ?_
          rintro e V4 ⟨rfl, hE9⟩
          go_wp2
          go_ret
          exact ⟨rfl, hE9.1⟩
        · have hb2 : decide (57 < (((⟨l.toArray⟩ : ByteArray)[k]).toNat : Int)) = false := by rw [hge, decide_eq_false_iff_not]; omega
          have HD : Hid (Digs (l.take (k + 1))) := Lib.hid (by
            rw [List.take_succ_eq_append_getElem hlt]
            refine digs_append.mpr ⟨hd.out, ?_⟩
            intro c hc
            simp only [List.mem_cons, List.not_mem_nil, or_false] at hc
            subst hc
            omega)
          clear hge h1 h2
          go_wp2
          exact ⟨⟨k + 1, congrArg _ (by omega), hlt, HD, trivial⟩, by simp [intOf]; omega⟩
    · have hdl : Digs l := by
        have := hd.out
        rwa [List.take_of_length_le (by omega)] at this
      have HD := Lib.hid hdl
      obtain rfl : k = l.length := by omega
      clear hdl hd hlt hk EW
      rcases Nat.eq_zero_or_pos l.length with h0 | h0
      · have HRD : Hid (¬ Reads l) := Lib.hid (fun h => by have := h.1; omega)
        have hz : decide (0 < (l.length : Int)) = false := by rw [decide_eq_false_iff_not]; omega
        have hz2 : ¬ 0 < l.length := by omega
        have H0 := Lib.hid h0
        clear h0
        go_wp2_with fail
        refine (says_bad S hE0 l (by omega) HRD.out).mono ?_
        rintro e V1 ⟨v1, rfl, hE1⟩
        have hsl : (⟨#[45]⟩ : ByteArray) ++ ⟨l.toArray⟩ = ⟨(45 :: l).toArray⟩ := str_app [45] l
        clear hE0
        go_wp2_with fail
        refine (saysInt_bad S hE1 (45 :: l) (by simp; omega) (by rw [iRest_sign]; exact HRD.out)).mono ?_
        rintro e V2 ⟨u2, A2, n2, c2, rfl, hE2⟩
        have hE3 := hE2.alloc (.cells #[.bool u2, .slice A2 n2 c2] 25)
        clear hE1
        go_wp2_with fail
        obtain ⟨p, hp, hpe⟩ : ∃ p : Nat, p ≤ l.length ∧ (wrap64 (wrap64 (a.tmod ((l.length : Int) + 1) + (l.length : Int)) + 1)).tmod ((l.length : Int) + 1) = (p : Int) := mod_place a l.length hl
        rw [hpe]
        obtain ⟨ch, hch, hcn⟩ : ∃ ch : UInt8, UInt8.ofNat cb = ch ∧ ch.toNat = cb := ⟨_, rfl, by rw [UInt8.toNat_ofNat']; omega⟩
        obtain ⟨W3, hW3⟩ : ∃ W3, V2.alloc (.cells #[.bool u2, .slice A2 n2 c2] 25) = W3 := ⟨_, rfl⟩
        rw [hW3] at hE3 ⊢
        clear hE2 hsl
        refine wp_region_facts 12 [79, 80, 81, 82, 83, 84, 85, 86, 87, 88, 89, 12] (fun i v V => match i with
            | 0 => v = .string ⟨l.toArray⟩
            | 1 => v = .int .i64 (p : Nat)
            | 2 => v = .string ⟨(l.take p).toArray⟩
            | 3 => v = .int .u8 (cb : Nat)
            | 4 => RepB (cb : Int) v V
            | 5 => v = .string ⟨[ch].toArray⟩
            | 6 => v = .string ⟨(l.take p ++ [ch]).toArray⟩
            | 7 => v = .string ⟨l.toArray⟩
            | 8 => v = .int .i64 (p : Nat)
            | 9 => v = .string ⟨(l.drop p).toArray⟩
            | 10 => v = .string ⟨(l.take p ++ [ch] ++ l.drop p).toArray⟩
            | _ => v = .string ⟨(l.take p ++ [ch] ++ l.drop p).toArray⟩) (fun V => Below W3.heap.size W3 V) (by kernel_rfl) (by kernel_rfl) rfl (by decide) (by first | (simp; done) | (simp; done)) (Below.refl _ _).drew ?_ ?_ ?_
        · intro i v V V2 hf hb _
          match i, hf with
          | 0, hf => exact hf
          | 1, hf => exact hf
          | 2, hf => exact hf
          | 3, hf => exact hf
          | 4, hf => exact RepB.keep hf hb
          | 5, hf => exact hf
          | 6, hf => exact hf
          | 7, hf => exact hf
          | 8, hf => exact hf
          | 9, hf => exact hf
          | 10, hf => exact hf
          | _ + 11, hf => exact hf
        · intro i t ht a V hC hF hd
          match i, ht with
          | 0, ht =>
            cases ht
            have h0 : a.tmps[0]?.getD undef = .string ⟨l.toArray⟩ := (hF.at_ 0 (by decide)).trans rfl
            exact step_value (v := .string ⟨l.toArray⟩) rfl rfl (wanted_free rfl) (by go_simp) hC rfl
          | 1, ht =>
            cases ht
            have h1 : a.tmps[1]?.getD undef = .int .i64 (p : Nat) := (hF.at_ 1 (by decide)).trans rfl
            exact step_value (v := .int .i64 (p : Nat)) rfl rfl (wanted_free rfl) (by go_simp) hC rfl
          | 2, ht =>
            cases ht
            have h79 : a.tmps[79]?.getD undef = .string ⟨l.toArray⟩ := (slot_eq a 79).symm.trans (hd 0 79 rfl (by kernel_rfl))
            have h80 : a.tmps[80]?.getD undef = .int .i64 (p : Nat) := (slot_eq a 80).symm.trans (hd 1 80 rfl (by kernel_rfl))
            have hcut := cut_to l p
            exact step_value (v := .string ⟨(l.take p).toArray⟩) rfl rfl (wanted_free rfl) (by go_simp; try (intro h; omega)) hC rfl
          | 3, ht =>
            cases ht
            have h2 : a.tmps[2]?.getD undef = .int .u8 (cb : Nat) := (hF.at_ 2 (by decide)).trans rfl
            exact step_value (v := .int .u8 (cb : Nat)) rfl rfl (wanted_free rfl) (by go_simp) hC rfl
          | 4, ht =>
            cases ht
            have h82 : a.tmps[82]?.getD undef = .int .u8 (cb : Nat) := (slot_eq a 82).symm.trans (hd 3 82 rfl (by kernel_rfl))
            have hb : Below V.heap.size V (V.alloc (.cells #[.int .u8 (cb : Nat)] 5)) := (Below.refl _ _).alloc (Nat.le_refl _) _
            exact step_grow (v := .slice (some ⟨V.heap.size, 0, none⟩) 1 1) (w' := V.alloc (.cells #[.int .u8 (cb : Nat)] 5)) rfl rfl (wanted_free rfl) (by go_simp) hb (hC.trans (hb.mono hC.size)) ⟨_, rfl, World.alloc_heap_new' _ _⟩
          | 5, ht =>
            cases ht
            have r83 : RepB (cb : Int) (a.tmps.getD 83 undef) V := hd 4 83 rfl (by kernel_rfl)
            have h83 : a.tmps[83]?.getD undef = a.tmps.getD 83 undef := (slot_eq a 83).symm
            obtain ⟨g, hv, hg⟩ := r83
            rw [hv] at h83
            have hs := string_byte hg
            rw [Int.toNat_natCast, hch] at hs
            exact step_value (v := .string ⟨[ch].toArray⟩) rfl rfl (wanted_free rfl) (by go_simp) hC rfl
          | 6, ht =>
            cases ht
            have h81 : a.tmps[81]?.getD undef = .string ⟨(l.take p).toArray⟩ := (slot_eq a 81).symm.trans (hd 2 81 rfl (by kernel_rfl))
            have h84 : a.tmps[84]?.getD undef = .string ⟨[ch].toArray⟩ := (slot_eq a 84).symm.trans (hd 5 84 rfl (by kernel_rfl))
            have hap := str_app (l.take p) [ch]
            exact step_value (v := .string ⟨(l.take p ++ [ch]).toArray⟩) rfl rfl (wanted_free rfl) (by go_simp; try omega) hC rfl
          | 7, ht =>
            cases ht
            have h0 : a.tmps[0]?.getD undef = .string ⟨l.toArray⟩ := (hF.at_ 0 (by decide)).trans rfl
            exact step_value (v := .string ⟨l.toArray⟩) rfl rfl (wanted_free rfl) (by go_simp) hC rfl
          | 8, ht =>
            cases ht
            have h1 : a.tmps[1]?.getD undef = .int .i64 (p : Nat) := (hF.at_ 1 (by decide)).trans rfl
            exact step_value (v := .int .i64 (p : Nat)) rfl rfl (wanted_free rfl) (by go_simp) hC rfl
          | 9, ht =>
            cases ht
            have h86 : a.tmps[86]?.getD undef = .string ⟨l.toArray⟩ := (slot_eq a 86).symm.trans (hd 7 86 rfl (by kernel_rfl))
            have h87 : a.tmps[87]?.getD undef = .int .i64 (p : Nat) := (slot_eq a 87).symm.trans (hd 8 87 rfl (by kernel_rfl))
            have hcut := cut_from l p
            exact step_value (v := .string ⟨(l.drop p).toArray⟩) rfl rfl (wanted_free rfl) (by go_simp; try (intro h; omega)) hC rfl
          | 10, ht =>
            cases ht
            have h85 : a.tmps[85]?.getD undef = .string ⟨(l.take p ++ [ch]).toArray⟩ := (slot_eq a 85).symm.trans (hd 6 85 rfl (by kernel_rfl))
            have h88 : a.tmps[88]?.getD undef = .string ⟨(l.drop p).toArray⟩ := (slot_eq a 88).symm.trans (hd 9 88 rfl (by kernel_rfl))
            have hap := str_app (l.take p ++ [ch]) (l.drop p)
            exact step_value (v := .string ⟨(l.take p ++ [ch] ++ l.drop p).toArray⟩) rfl rfl (wanted_free rfl) (by go_simp; try omega) hC rfl
          | 11, ht =>
            cases ht
            have h89 : a.tmps[89]?.getD undef = .string ⟨(l.take p ++ [ch] ++ l.drop p).toArray⟩ := (slot_eq a 89).symm.trans (hd 10 89 rfl (by kernel_rfl))
            exact step_value (v := .string ⟨(l.take p ++ [ch] ++ l.drop p).toArray⟩) rfl rfl (wanted_free rfl) (by go_simp) hC rfl
          | k + 12, ht => simp at ht
        · intro a2 V5 hC hF hf
          obtain ⟨g, pg, _⟩ := (hf 4 83 rfl : RepB (cb : Int) (a2.tmps.getD 83 undef) V5)
          have hlit := act_eq (a := a2) (.string ⟨l.toArray⟩ :: .int .i64 (p : Nat) :: .int .u8 (cb : Nat) :: undef :: undef :: undef :: u6 :: .int .i64 (l.length : Nat) :: v1 :: .int .i64 60 :: .pointer (some ⟨V2.heap.size, 0, none⟩) :: .int .i64 60 :: .string ⟨(l.take p ++ [ch] ++ l.drop p).toArray⟩ :: undef :: undef :: undef :: undef :: undef :: undef :: undef :: undef :: undef :: undef :: .string ⟨l.toArray⟩ :: .int .i64 (l.length : Nat) :: .bool (decide (60 < (l.length : Int))) :: undef :: .int .i64 (l.length : Nat) :: .string ⟨l.toArray⟩ :: .int .i64 (l.length : Nat) :: .bool false :: u31 :: u32 :: u33 :: u34 :: u35 :: u36 :: u37 :: u38 :: u39 :: u40 :: u41 :: u42 :: u43 :: .tuple #[v1, .int .i64 60] :: .string ⟨l.toArray⟩ :: .tuple #[v1, .int .i64 60] :: v1 :: .int .i64 60 :: .tuple #[.agg #[.bool u2, .slice A2 n2 c2], .int .i64 60] :: .string ⟨l.toArray⟩ :: .string ⟨(45 :: l).toArray⟩ :: .tuple #[.agg #[.bool u2, .slice A2 n2 c2], .int .i64 60] :: .agg #[.bool u2, .slice A2 n2 c2] :: .int .i64 60 :: .int .i64 60 :: .bool false :: .string ⟨l.toArray⟩ :: .int .i64 (l.length : Nat) :: .bool false :: .bool false :: .bool false :: .int .i64 60 :: .int .i64 60 :: .bool false :: .bool false :: .int .i64 a :: .string ⟨l.toArray⟩ :: .int .i64 (l.length : Nat) :: .int .i64 ((l.length : Int) + 1) :: .int .i64 (a.tmod ((l.length : Int) + 1)) :: .string ⟨l.toArray⟩ :: .int .i64 (l.length : Nat) :: .int .i64 (wrap64 (a.tmod ((l.length : Int) + 1) + (l.length : Int))) :: .int .i64 (wrap64 (wrap64 (a.tmod ((l.length : Int) + 1) + (l.length : Int)) + 1)) :: .string ⟨l.toArray⟩ :: .int .i64 (l.length : Nat) :: .int .i64 ((l.length : Int) + 1) :: .int .i64 (p : Nat) :: .string ⟨l.toArray⟩ :: .int .i64 (p : Nat) :: .string ⟨(l.take p).toArray⟩ :: .int .u8 (cb : Nat) :: .slice (some ⟨g, 0, none⟩) 1 1 :: .string ⟨[ch].toArray⟩ :: .string ⟨(l.take p ++ [ch]).toArray⟩ :: .string ⟨l.toArray⟩ :: .int .i64 (p : Nat) :: .string ⟨(l.drop p).toArray⟩ :: .string ⟨(l.take p ++ [ch] ++ l.drop p).toArray⟩ :: undef :: undef :: undef :: undef :: undef :: undef :: undef :: undef :: undef :: undef :: undef :: undef :: undef :: undef :: undef :: undef :: undef :: undef :: undef :: undef :: undef :: undef :: undef :: undef :: undef :: undef :: undef :: undef :: undef :: undef :: undef :: undef :: undef :: undef :: undef :: undef :: undef :: undef :: undef :: undef :: undef :: undef :: undef :: undef :: undef :: undef :: undef :: undef :: undef :: undef :: undef :: undef :: undef :: undef :: undef :: undef :: undef :: undef :: []) (by simpa using hF.size) hF.defers (fun i hi => match i, hi with
            | 0, _ => (hF.same 0 (by decide)).trans rfl
            | 1, _ => (hF.same 1 (by decide)).trans rfl
            | 2, _ => (hF.same 2 (by decide)).trans rfl
            | 3, _ => (hF.same 3 (by decide)).trans rfl
            | 4, _ => (hF.same 4 (by decide)).trans rfl
            | 5, _ => (hF.same 5 (by decide)).trans rfl
            | 6, _ => (hF.same 6 (by decide)).trans rfl
            | 7, _ => (hF.same 7 (by decide)).trans rfl
            | 8, _ => (hF.same 8 (by decide)).trans rfl
            | 9, _ => (hF.same 9 (by decide)).trans rfl
            | 10, _ => (hF.same 10 (by decide)).trans rfl
            | 11, _ => (hF.same 11 (by decide)).trans rfl
            | 12, _ => (hf 11 12 rfl : a2.tmps.getD 12 undef = _)
            | 13, _ => (hF.same 13 (by decide)).trans rfl
            | 14, _ => (hF.same 14 (by decide)).trans rfl
            | 15, _ => (hF.same 15 (by decide)).trans rfl
            | 16, _ => (hF.same 16 (by decide)).trans rfl
            | 17, _ => (hF.same 17 (by decide)).trans rfl
            | 18, _ => (hF.same 18 (by decide)).trans rfl
            | 19, _ => (hF.same 19 (by decide)).trans rfl
            | 20, _ => (hF.same 20 (by decide)).trans rfl
            | 21, _ => (hF.same 21 (by decide)).trans rfl
            | 22, _ => (hF.same 22 (by decide)).trans rfl
            | 23, _ => (hF.same 23 (by decide)).trans rfl
            | 24, _ => (hF.same 24 (by decide)).trans rfl
            | 25, _ => (hF.same 25 (by decide)).trans rfl
            | 26, _ => (hF.same 26 (by decide)).trans rfl
            | 27, _ => (hF.same 27 (by decide)).trans rfl
            | 28, _ => (hF.same 28 (by decide)).trans rfl
            | 29, _ => (hF.same 29 (by decide)).trans rfl
            | 30, _ => (hF.same 30 (by decide)).trans rfl
            | 31, _ => (hF.same 31 (by decide)).trans rfl
            | 32, _ => (hF.same 32 (by decide)).trans rfl
            | 33, _ => (hF.same 33 (by decide)).trans rfl
            | 34, _ => (hF.same 34 (by decide)).trans rfl
            | 35, _ => (hF.same 35 (by decide)).trans rfl
            | 36, _ => (hF.same 36 (by decide)).trans rfl
            | 37, _ => (hF.same 37 (by decide)).trans rfl
            | 38, _ => (hF.same 38 (by decide)).trans rfl
            | 39, _ => (hF.same 39 (by decide)).trans rfl
            | 40, _ => (hF.same 40 (by decide)).trans rfl
            | 41, _ => (hF.same 41 (by decide)).trans rfl
            | 42, _ => (hF.same 42 (by decide)).trans rfl
            | 43, _ => (hF.same 43 (by decide)).trans rfl
            | 44, _ => (hF.same 44 (by decide)).trans rfl
            | 45, _ => (hF.same 45 (by decide)).trans rfl
            | 46, _ => (hF.same 46 (by decide)).trans rfl
            | 47, _ => (hF.same 47 (by decide)).trans rfl
            | 48, _ => (hF.same 48 (by decide)).trans rfl
            | 49, _ => (hF.same 49 (by decide)).trans rfl
            | 50, _ => (hF.same 50 (by decide)).trans rfl
            | 51, _ => (hF.same 51 (by decide)).trans rfl
            | 52, _ => (hF.same 52 (by decide)).trans rfl
            | 53, _ => (hF.same 53 (by decide)).trans rfl
            | 54, _ => (hF.same 54 (by decide)).trans rfl
            | 55, _ => (hF.same 55 (by decide)).trans rfl
            | 56, _ => (hF.same 56 (by decide)).trans rfl
            | 57, _ => (hF.same 57 (by decide)).trans rfl
            | 58, _ => (hF.same 58 (by decide)).trans rfl
            | 59, _ => (hF.same 59 (by decide)).trans rfl
            | 60, _ => (hF.same 60 (by decide)).trans rfl
            | 61, _ => (hF.same 61 (by decide)).trans rfl
            | 62, _ => (hF.same 62 (by decide)).trans rfl
            | 63, _ => (hF.same 63 (by decide)).trans rfl
            | 64, _ => (hF.same 64 (by decide)).trans rfl
            | 65, _ => (hF.same 65 (by decide)).trans rfl
            | 66, _ => (hF.same 66 (by decide)).trans rfl
            | 67, _ => (hF.same 67 (by decide)).trans rfl
            | 68, _ => (hF.same 68 (by decide)).trans rfl
            | 69, _ => (hF.same 69 (by decide)).trans rfl
            | 70, _ => (hF.same 70 (by decide)).trans rfl
            | 71, _ => (hF.same 71 (by decide)).trans rfl
            | 72, _ => (hF.same 72 (by decide)).trans rfl
            | 73, _ => (hF.same 73 (by decide)).trans rfl
            | 74, _ => (hF.same 74 (by decide)).trans rfl
            | 75, _ => (hF.same 75 (by decide)).trans rfl
            | 76, _ => (hF.same 76 (by decide)).trans rfl
            | 77, _ => (hF.same 77 (by decide)).trans rfl
            | 78, _ => (hF.same 78 (by decide)).trans rfl
            | 79, _ => (hf 0 79 rfl : a2.tmps.getD 79 undef = _)
            | 80, _ => (hf 1 80 rfl : a2.tmps.getD 80 undef = _)
            | 81, _ => (hf 2 81 rfl : a2.tmps.getD 81 undef = _)
            | 82, _ => (hf 3 82 rfl : a2.tmps.getD 82 undef = _)
            | 83, _ => pg
            | 84, _ => (hf 5 84 rfl : a2.tmps.getD 84 undef = _)
            | 85, _ => (hf 6 85 rfl : a2.tmps.getD 85 undef = _)
            | 86, _ => (hf 7 86 rfl : a2.tmps.getD 86 undef = _)
            | 87, _ => (hf 8 87 rfl : a2.tmps.getD 87 undef = _)
            | 88, _ => (hf 9 88 rfl : a2.tmps.getD 88 undef = _)
            | 89, _ => (hf 10 89 rfl : a2.tmps.getD 89 undef = _)
            | 90, _ => (hF.same 90 (by decide)).trans rfl
            | 91, _ => (hF.same 91 (by decide)).trans rfl
            | 92, _ => (hF.same 92 (by decide)).trans rfl
            | 93, _ => (hF.same 93 (by decide)).trans rfl
            | 94, _ => (hF.same 94 (by decide)).trans rfl
            | 95, _ => (hF.same 95 (by decide)).trans rfl
            | 96, _ => (hF.same 96 (by decide)).trans rfl
            | 97, _ => (hF.same 97 (by decide)).trans rfl
            | 98, _ => (hF.same 98 (by decide)).trans rfl
            | 99, _ => (hF.same 99 (by decide)).trans rfl
            | 100, _ => (hF.same 100 (by decide)).trans rfl
            | 101, _ => (hF.same 101 (by decide)).trans rfl
            | 102, _ => (hF.same 102 (by decide)).trans rfl
            | 103, _ => (hF.same 103 (by decide)).trans rfl
            | 104, _ => (hF.same 104 (by decide)).trans rfl
            | 105, _ => (hF.same 105 (by decide)).trans rfl
            | 106, _ => (hF.same 106 (by decide)).trans rfl
            | 107, _ => (hF.same 107 (by decide)).trans rfl
            | 108, _ => (hF.same 108 (by decide)).trans rfl
            | 109, _ => (hF.same 109 (by decide)).trans rfl
            | 110, _ => (hF.same 110 (by decide)).trans rfl
            | 111, _ => (hF.same 111 (by decide)).trans rfl
            | 112, _ => (hF.same 112 (by decide)).trans rfl
            | 113, _ => (hF.same 113 (by decide)).trans rfl
            | 114, _ => (hF.same 114 (by decide)).trans rfl
            | 115, _ => (hF.same 115 (by decide)).trans rfl
            | 116, _ => (hF.same 116 (by decide)).trans rfl
            | 117, _ => (hF.same 117 (by decide)).trans rfl
            | 118, _ => (hF.same 118 (by decide)).trans rfl
            | 119, _ => (hF.same 119 (by decide)).trans rfl
            | 120, _ => (hF.same 120 (by decide)).trans rfl
            | 121, _ => (hF.same 121 (by decide)).trans rfl
            | 122, _ => (hF.same 122 (by decide)).trans rfl
            | 123, _ => (hF.same 123 (by decide)).trans rfl
            | 124, _ => (hF.same 124 (by decide)).trans rfl
            | 125, _ => (hF.same 125 (by decide)).trans rfl
            | 126, _ => (hF.same 126 (by decide)).trans rfl
            | 127, _ => (hF.same 127 (by decide)).trans rfl
            | 128, _ => (hF.same 128 (by decide)).trans rfl
            | 129, _ => (hF.same 129 (by decide)).trans rfl
            | 130, _ => (hF.same 130 (by decide)).trans rfl
            | 131, _ => (hF.same 131 (by decide)).trans rfl
            | 132, _ => (hF.same 132 (by decide)).trans rfl
            | 133, _ => (hF.same 133 (by decide)).trans rfl
            | 134, _ => (hF.same 134 (by decide)).trans rfl
            | 135, _ => (hF.same 135 (by decide)).trans rfl
            | 136, _ => (hF.same 136 (by decide)).trans rfl
            | 137, _ => (hF.same 137 (by decide)).trans rfl
            | 138, _ => (hF.same 138 (by decide)).trans rfl
            | 139, _ => (hF.same 139 (by decide)).trans rfl
            | 140, _ => (hF.same 140 (by decide)).trans rfl
            | 141, _ => (hF.same 141 (by decide)).trans rfl
            | 142, _ => (hF.same 142 (by decide)).trans rfl
            | 143, _ => (hF.same 143 (by decide)).trans rfl
            | 144, _ => (hF.same 144 (by decide)).trans rfl
            | 145, _ => (hF.same 145 (by decide)).trans rfl
            | 146, _ => (hF.same 146 (by decide)).trans rfl
            | 147, _ => (hF.same 147 (by decide)).trans rfl
            | _ + 148, h => absurd h (by simp only [List.length_cons, List.length_nil]; omega))
          subst hlit
          have hE5 := hE3.step hC
          clear hf hF hC pg
          show wpList _ _ _ [] _ V5
          have hbl := put_len l p ch hp
          have hbd := put_digs p ch HD.out
          obtain ⟨m, hm⟩ : ∃ m, l.take p ++ [ch] ++ l.drop p = m := ⟨_, rfl⟩
          rw [hm] at hbl hbd ⊢
          rw [hcn] at hbd
          have hs2 : (⟨#[45, 45]⟩ : ByteArray) ++ ⟨l.toArray⟩ = ⟨(45 :: 45 :: l).toArray⟩ := str_app [45, 45] l
          obtain ⟨ev, hev, EP⟩ : ∃ ev : Int, (ev = 0 ∧ 48 ≤ cb ∧ cb ≤ 57 ∧ m.length ≤ 60 ∨ ev = 60 ∧ (cb < 48 ∨ 48 ≤ cb ∧ 57 < cb ∨ 48 ≤ cb ∧ cb ≤ 57 ∧ decide ((m.length : Int) ≤ 60) = false)) ∧ Calls Tryz.prog 10 #[.string ⟨m.toArray⟩] V5 fun e' W' => ∃ v, e' = .returned (.tuple #[v, .int .i64 ev]) ∧ Env wr [] W' := by
            by_cases hr : Reads m
            · exact ⟨0, .inl ⟨rfl, (hbd.mp hr.2.2).1, (hbd.mp hr.2.2).2, hr.2.1⟩, says_ok S hE5 m hr⟩
            · refine ⟨60, .inr ⟨rfl, ?_⟩, says_bad S hE5 m (by omega) hr⟩
              by_cases h1 : cb < 48
              · exact .inl h1
              · by_cases h2 : 57 < cb
                · exact .inr (.inl ⟨by omega, h2⟩)
                · refine .inr (.inr ⟨by omega, by omega, ?_⟩)
                  by_cases h3 : m.length ≤ 60
                  · exact absurd ⟨by omega, h3, hbd.mpr ⟨by omega, by omega⟩⟩ hr
                  · rw [decide_eq_false_iff_not]; omega
          have HBL := Lib.hid hbl
          clear hbd hbl hE3 hW3
          go_wp2_with fail
          refine EP.mono ?_
          rintro e V6 ⟨v6, rfl, hE6⟩
          clear hE5 EP
          go_wp2_with fail
          refine (saysInt_bad S hE6 (45 :: 45 :: l) (by simp; omega) (by rw [iRest_sign]; exact not_reads_sign l)).mono ?_
          rintro e V7 ⟨u7, A7, n7, c7, rfl, hE7⟩
          have hE8 := hE7.alloc (.cells #[.bool u7, .slice A7 n7 c7] 25)
          obtain ⟨V8, hV8⟩ : ∃ V8, V7.alloc (.cells #[.bool u7, .slice A7 n7 c7] 25) = V8 := ⟨_, rfl⟩
          rw [hV8] at hE8
          clear hE6 hE7 hs2
          go_wp2_with fail
          go_loopw [17] (fun sv V => ∃ q : List UInt8, sv = .string ⟨q.toArray⟩ ∧ q.length ≤ 61 ∧ V = V8) (fun sv _ => 61 - lenB sv)
          case atStart => exact ⟨l, rfl, by omega, by first | rfl | exact hV8⟩
          case round =>
            obtain ⟨q, rfl, hq, rfl⟩ := hrel
            by_cases hq60 : q.length ≤ 60
            · go_wp2
              refine ⟨⟨48 :: q, congrArg _ (str_app [48] q), by simp; omega, by first | rfl | trivial⟩, ?_⟩
              rw [str_app [48] q, lenB_str, lenB_str]
              simp; omega
            · have hs3 : (⟨#[45]⟩ : ByteArray) ++ ⟨q.toArray⟩ = ⟨(45 :: q).toArray⟩ := str_app [45] q
              go_wp2_with fail
              refine (says_bad S hE8 q (by omega) (fun h => by have := h.2.1; omega)).mono ?_
              rintro e V9 ⟨v9, rfl, hE9⟩
              clear hE8
              go_wp2_with fail
              refine (saysInt_bad S hE9 (45 :: q) (by simp; omega) (by rw [iRest_sign]; exact fun h => by have := h.2.1; omega)).mono ?_
              rintro e V10 ⟨u10, A10, n10, c10, rfl, hE10⟩
              have hE11 := hE10.alloc (.cells #[.bool u10, .slice A10 n10 c10] 25)
              clear hE9 hE10 hs3
              rcases hev with ⟨rfl, h1, h2, h3⟩ | ⟨rfl, h1 | ⟨h1, h2⟩ | ⟨h1, h2, h3⟩⟩
              all_goals
                go_wp2_with fail
                refine (wakes6_E S hE11).mono ?_
                rintro e V12 ⟨rfl, hE12⟩
                go_wp2
                go_ret
                exact ⟨rfl, hE12.1⟩
      · have HRD : Hid (Reads l) := Lib.hid ⟨h0, hl, HD.out⟩
        go_wp2_with fail
        refine (says_ok S hE0 l HRD.out).mono ?_
        rintro e V1 ⟨v1, rfl, hE1⟩
        have hsl : (⟨#[45]⟩ : ByteArray) ++ ⟨l.toArray⟩ = ⟨(45 :: l).toArray⟩ := str_app [45] l
        clear hE0
        go_wp2_with fail
        refine (saysInt_ok S hE1 (45 :: l) (by simp; omega) (by rw [iRest_sign]; exact HRD.out)).mono ?_
        rintro e V2 ⟨u2, A2, n2, c2, rfl, hE2⟩
        have hE3 := hE2.alloc (.cells #[.bool u2, .slice A2 n2 c2] 25)
        clear hE1
        go_wp2_with fail
        obtain ⟨p, hp, hpe⟩ : ∃ p : Nat, p ≤ l.length ∧ (wrap64 (wrap64 (a.tmod ((l.length : Int) + 1) + (l.length : Int)) + 1)).tmod ((l.length : Int) + 1) = (p : Int) := mod_place a l.length hl
        rw [hpe]
        obtain ⟨ch, hch, hcn⟩ : ∃ ch : UInt8, UInt8.ofNat cb = ch ∧ ch.toNat = cb := ⟨_, rfl, by rw [UInt8.toNat_ofNat']; omega⟩
        obtain ⟨W3, hW3⟩ : ∃ W3, V2.alloc (.cells #[.bool u2, .slice A2 n2 c2] 25) = W3 := ⟨_, rfl⟩
        rw [hW3] at hE3 ⊢
        clear hE2 hsl
        refine wp_region_facts 12 [79, 80, 81, 82, 83, 84, 85, 86, 87, 88, 89, 12] (fun i v V => match i with
            | 0 => v = .string ⟨l.toArray⟩
            | 1 => v = .int .i64 (p : Nat)
            | 2 => v = .string ⟨(l.take p).toArray⟩
            | 3 => v = .int .u8 (cb : Nat)
            | 4 => RepB (cb : Int) v V
            | 5 => v = .string ⟨[ch].toArray⟩
            | 6 => v = .string ⟨(l.take p ++ [ch]).toArray⟩
            | 7 => v = .string ⟨l.toArray⟩
            | 8 => v = .int .i64 (p : Nat)
            | 9 => v = .string ⟨(l.drop p).toArray⟩
            | 10 => v = .string ⟨(l.take p ++ [ch] ++ l.drop p).toArray⟩
            | _ => v = .string ⟨(l.take p ++ [ch] ++ l.drop p).toArray⟩) (fun V => Below W3.heap.size W3 V) (by kernel_rfl) (by kernel_rfl) rfl (by decide) (by first | (simp; done) | (simp; done)) (Below.refl _ _).drew ?_ ?_ ?_
        · intro i v V V2 hf hb _
          match i, hf with
          | 0, hf => exact hf
          | 1, hf => exact hf
          | 2, hf => exact hf
          | 3, hf => exact hf
          | 4, hf => exact RepB.keep hf hb
          | 5, hf => exact hf
          | 6, hf => exact hf
          | 7, hf => exact hf
          | 8, hf => exact hf
          | 9, hf => exact hf
          | 10, hf => exact hf
          | _ + 11, hf => exact hf
        · intro i t ht a V hC hF hd
          match i, ht with
          | 0, ht =>
            cases ht
            have h0 : a.tmps[0]?.getD undef = .string ⟨l.toArray⟩ := (hF.at_ 0 (by decide)).trans rfl
            exact step_value (v := .string ⟨l.toArray⟩) rfl rfl (wanted_free rfl) (by go_simp) hC rfl
          | 1, ht =>
            cases ht
            have h1 : a.tmps[1]?.getD undef = .int .i64 (p : Nat) := (hF.at_ 1 (by decide)).trans rfl
            exact step_value (v := .int .i64 (p : Nat)) rfl rfl (wanted_free rfl) (by go_simp) hC rfl
          | 2, ht =>
            cases ht
            have h79 : a.tmps[79]?.getD undef = .string ⟨l.toArray⟩ := (slot_eq a 79).symm.trans (hd 0 79 rfl (by kernel_rfl))
            have h80 : a.tmps[80]?.getD undef = .int .i64 (p : Nat) := (slot_eq a 80).symm.trans (hd 1 80 rfl (by kernel_rfl))
            have hcut := cut_to l p
            exact step_value (v := .string ⟨(l.take p).toArray⟩) rfl rfl (wanted_free rfl) (by go_simp; try (intro h; omega)) hC rfl
          | 3, ht =>
            cases ht
            have h2 : a.tmps[2]?.getD undef = .int .u8 (cb : Nat) := (hF.at_ 2 (by decide)).trans rfl
            exact step_value (v := .int .u8 (cb : Nat)) rfl rfl (wanted_free rfl) (by go_simp) hC rfl
          | 4, ht =>
            cases ht
            have h82 : a.tmps[82]?.getD undef = .int .u8 (cb : Nat) := (slot_eq a 82).symm.trans (hd 3 82 rfl (by kernel_rfl))
            have hb : Below V.heap.size V (V.alloc (.cells #[.int .u8 (cb : Nat)] 5)) := (Below.refl _ _).alloc (Nat.le_refl _) _
            exact step_grow (v := .slice (some ⟨V.heap.size, 0, none⟩) 1 1) (w' := V.alloc (.cells #[.int .u8 (cb : Nat)] 5)) rfl rfl (wanted_free rfl) (by go_simp) hb (hC.trans (hb.mono hC.size)) ⟨_, rfl, World.alloc_heap_new' _ _⟩
          | 5, ht =>
            cases ht
            have r83 : RepB (cb : Int) (a.tmps.getD 83 undef) V := hd 4 83 rfl (by kernel_rfl)
            have h83 : a.tmps[83]?.getD undef = a.tmps.getD 83 undef := (slot_eq a 83).symm
            obtain ⟨g, hv, hg⟩ := r83
            rw [hv] at h83
            have hs := string_byte hg
            rw [Int.toNat_natCast, hch] at hs
            exact step_value (v := .string ⟨[ch].toArray⟩) rfl rfl (wanted_free rfl) (by go_simp) hC rfl
          | 6, ht =>
            cases ht
            have h81 : a.tmps[81]?.getD undef = .string ⟨(l.take p).toArray⟩ := (slot_eq a 81).symm.trans (hd 2 81 rfl (by kernel_rfl))
            have h84 : a.tmps[84]?.getD undef = .string ⟨[ch].toArray⟩ := (slot_eq a 84).symm.trans (hd 5 84 rfl (by kernel_rfl))
            have hap := str_app (l.take p) [ch]
            exact step_value (v := .string ⟨(l.take p ++ [ch]).toArray⟩) rfl rfl (wanted_free rfl) (by go_simp; try omega) hC rfl
          | 7, ht =>
            cases ht
            have h0 : a.tmps[0]?.getD undef = .string ⟨l.toArray⟩ := (hF.at_ 0 (by decide)).trans rfl
            exact step_value (v := .string ⟨l.toArray⟩) rfl rfl (wanted_free rfl) (by go_simp) hC rfl
          | 8, ht =>
            cases ht
            have h1 : a.tmps[1]?.getD undef = .int .i64 (p : Nat) := (hF.at_ 1 (by decide)).trans rfl
            exact step_value (v := .int .i64 (p : Nat)) rfl rfl (wanted_free rfl) (by go_simp) hC rfl
          | 9, ht =>
            cases ht
            have h86 : a.tmps[86]?.getD undef = .string ⟨l.toArray⟩ := (slot_eq a 86).symm.trans (hd 7 86 rfl (by kernel_rfl))
            have h87 : a.tmps[87]?.getD undef = .int .i64 (p : Nat) := (slot_eq a 87).symm.trans (hd 8 87 rfl (by kernel_rfl))
            have hcut := cut_from l p
            exact step_value (v := .string ⟨(l.drop p).toArray⟩) rfl rfl (wanted_free rfl) (by go_simp; try (intro h; omega)) hC rfl
          | 10, ht =>
            cases ht
            have h85 : a.tmps[85]?.getD undef = .string ⟨(l.take p ++ [ch]).toArray⟩ := (slot_eq a 85).symm.trans (hd 6 85 rfl (by kernel_rfl))
            have h88 : a.tmps[88]?.getD undef = .string ⟨(l.drop p).toArray⟩ := (slot_eq a 88).symm.trans (hd 9 88 rfl (by kernel_rfl))
            have hap := str_app (l.take p ++ [ch]) (l.drop p)
            exact step_value (v := .string ⟨(l.take p ++ [ch] ++ l.drop p).toArray⟩) rfl rfl (wanted_free rfl) (by go_simp; try omega) hC rfl
          | 11, ht =>
            cases ht
            have h89 : a.tmps[89]?.getD undef = .string ⟨(l.take p ++ [ch] ++ l.drop p).toArray⟩ := (slot_eq a 89).symm.trans (hd 10 89 rfl (by kernel_rfl))
            exact step_value (v := .string ⟨(l.take p ++ [ch] ++ l.drop p).toArray⟩) rfl rfl (wanted_free rfl) (by go_simp) hC rfl
          | k + 12, ht => simp at ht
        · intro a2 V5 hC hF hf
          obtain ⟨g, pg, _⟩ := (hf 4 83 rfl : RepB (cb : Int) (a2.tmps.getD 83 undef) V5)
          have hlit := act_eq (a := a2) (.string ⟨l.toArray⟩ :: .int .i64 (p : Nat) :: .int .u8 (cb : Nat) :: undef :: undef :: undef :: u6 :: .int .i64 (l.length : Nat) :: v1 :: .int .i64 0 :: .pointer (some ⟨V2.heap.size, 0, none⟩) :: .int .i64 0 :: .string ⟨(l.take p ++ [ch] ++ l.drop p).toArray⟩ :: undef :: undef :: undef :: undef :: undef :: undef :: undef :: undef :: undef :: undef :: .string ⟨l.toArray⟩ :: .int .i64 (l.length : Nat) :: .bool (decide (60 < (l.length : Int))) :: undef :: .int .i64 (l.length : Nat) :: .string ⟨l.toArray⟩ :: .int .i64 (l.length : Nat) :: .bool false :: u31 :: u32 :: u33 :: u34 :: u35 :: u36 :: u37 :: u38 :: u39 :: u40 :: u41 :: u42 :: u43 :: .tuple #[v1, .int .i64 0] :: .string ⟨l.toArray⟩ :: .tuple #[v1, .int .i64 0] :: v1 :: .int .i64 0 :: .tuple #[.agg #[.bool u2, .slice A2 n2 c2], .int .i64 0] :: .string ⟨l.toArray⟩ :: .string ⟨(45 :: l).toArray⟩ :: .tuple #[.agg #[.bool u2, .slice A2 n2 c2], .int .i64 0] :: .agg #[.bool u2, .slice A2 n2 c2] :: .int .i64 0 :: .int .i64 0 :: .bool true :: .string ⟨l.toArray⟩ :: .int .i64 (l.length : Nat) :: .bool true :: .bool false :: .bool false :: .int .i64 0 :: .int .i64 0 :: .bool false :: .bool false :: .int .i64 a :: .string ⟨l.toArray⟩ :: .int .i64 (l.length : Nat) :: .int .i64 ((l.length : Int) + 1) :: .int .i64 (a.tmod ((l.length : Int) + 1)) :: .string ⟨l.toArray⟩ :: .int .i64 (l.length : Nat) :: .int .i64 (wrap64 (a.tmod ((l.length : Int) + 1) + (l.length : Int))) :: .int .i64 (wrap64 (wrap64 (a.tmod ((l.length : Int) + 1) + (l.length : Int)) + 1)) :: .string ⟨l.toArray⟩ :: .int .i64 (l.length : Nat) :: .int .i64 ((l.length : Int) + 1) :: .int .i64 (p : Nat) :: .string ⟨l.toArray⟩ :: .int .i64 (p : Nat) :: .string ⟨(l.take p).toArray⟩ :: .int .u8 (cb : Nat) :: .slice (some ⟨g, 0, none⟩) 1 1 :: .string ⟨[ch].toArray⟩ :: .string ⟨(l.take p ++ [ch]).toArray⟩ :: .string ⟨l.toArray⟩ :: .int .i64 (p : Nat) :: .string ⟨(l.drop p).toArray⟩ :: .string ⟨(l.take p ++ [ch] ++ l.drop p).toArray⟩ :: undef :: undef :: undef :: undef :: undef :: undef :: undef :: undef :: undef :: undef :: undef :: undef :: undef :: undef :: undef :: undef :: undef :: undef :: undef :: undef :: undef :: undef :: undef :: undef :: undef :: undef :: undef :: undef :: undef :: undef :: undef :: undef :: undef :: undef :: undef :: undef :: undef :: undef :: undef :: undef :: undef :: undef :: undef :: undef :: undef :: undef :: undef :: undef :: undef :: undef :: undef :: undef :: undef :: undef :: undef :: undef :: undef :: undef :: []) (by simpa using hF.size) hF.defers (fun i hi => match i, hi with
            | 0, _ => (hF.same 0 (by decide)).trans rfl
            | 1, _ => (hF.same 1 (by decide)).trans rfl
            | 2, _ => (hF.same 2 (by decide)).trans rfl
            | 3, _ => (hF.same 3 (by decide)).trans rfl
            | 4, _ => (hF.same 4 (by decide)).trans rfl
            | 5, _ => (hF.same 5 (by decide)).trans rfl
            | 6, _ => (hF.same 6 (by decide)).trans rfl
            | 7, _ => (hF.same 7 (by decide)).trans rfl
            | 8, _ => (hF.same 8 (by decide)).trans rfl
            | 9, _ => (hF.same 9 (by decide)).trans rfl
            | 10, _ => (hF.same 10 (by decide)).trans rfl
            | 11, _ => (hF.same 11 (by decide)).trans rfl
            | 12, _ => (hf 11 12 rfl : a2.tmps.getD 12 undef = _)
            | 13, _ => (hF.same 13 (by decide)).trans rfl
            | 14, _ => (hF.same 14 (by decide)).trans rfl
            | 15, _ => (hF.same 15 (by decide)).trans rfl
            | 16, _ => (hF.same 16 (by decide)).trans rfl
            | 17, _ => (hF.same 17 (by decide)).trans rfl
            | 18, _ => (hF.same 18 (by decide)).trans rfl
            | 19, _ => (hF.same 19 (by decide)).trans rfl
            | 20, _ => (hF.same 20 (by decide)).trans rfl
            | 21, _ => (hF.same 21 (by decide)).trans rfl
            | 22, _ => (hF.same 22 (by decide)).trans rfl
            | 23, _ => (hF.same 23 (by decide)).trans rfl
            | 24, _ => (hF.same 24 (by decide)).trans rfl
            | 25, _ => (hF.same 25 (by decide)).trans rfl
            | 26, _ => (hF.same 26 (by decide)).trans rfl
            | 27, _ => (hF.same 27 (by decide)).trans rfl
            | 28, _ => (hF.same 28 (by decide)).trans rfl
            | 29, _ => (hF.same 29 (by decide)).trans rfl
            | 30, _ => (hF.same 30 (by decide)).trans rfl
            | 31, _ => (hF.same 31 (by decide)).trans rfl
            | 32, _ => (hF.same 32 (by decide)).trans rfl
            | 33, _ => (hF.same 33 (by decide)).trans rfl
            | 34, _ => (hF.same 34 (by decide)).trans rfl
            | 35, _ => (hF.same 35 (by decide)).trans rfl
            | 36, _ => (hF.same 36 (by decide)).trans rfl
            | 37, _ => (hF.same 37 (by decide)).trans rfl
            | 38, _ => (hF.same 38 (by decide)).trans rfl
            | 39, _ => (hF.same 39 (by decide)).trans rfl
            | 40, _ => (hF.same 40 (by decide)).trans rfl
            | 41, _ => (hF.same 41 (by decide)).trans rfl
            | 42, _ => (hF.same 42 (by decide)).trans rfl
            | 43, _ => (hF.same 43 (by decide)).trans rfl
            | 44, _ => (hF.same 44 (by decide)).trans rfl
            | 45, _ => (hF.same 45 (by decide)).trans rfl
            | 46, _ => (hF.same 46 (by decide)).trans rfl
            | 47, _ => (hF.same 47 (by decide)).trans rfl
            | 48, _ => (hF.same 48 (by decide)).trans rfl
            | 49, _ => (hF.same 49 (by decide)).trans rfl
            | 50, _ => (hF.same 50 (by decide)).trans rfl
            | 51, _ => (hF.same 51 (by decide)).trans rfl
            | 52, _ => (hF.same 52 (by decide)).trans rfl
            | 53, _ => (hF.same 53 (by decide)).trans rfl
            | 54, _ => (hF.same 54 (by decide)).trans rfl
            | 55, _ => (hF.same 55 (by decide)).trans rfl
            | 56, _ => (hF.same 56 (by decide)).trans rfl
            | 57, _ => (hF.same 57 (by decide)).trans rfl
            | 58, _ => (hF.same 58 (by decide)).trans rfl
            | 59, _ => (hF.same 59 (by decide)).trans rfl
            | 60, _ => (hF.same 60 (by decide)).trans rfl
            | 61, _ => (hF.same 61 (by decide)).trans rfl
            | 62, _ => (hF.same 62 (by decide)).trans rfl
            | 63, _ => (hF.same 63 (by decide)).trans rfl
            | 64, _ => (hF.same 64 (by decide)).trans rfl
            | 65, _ => (hF.same 65 (by decide)).trans rfl
            | 66, _ => (hF.same 66 (by decide)).trans rfl
            | 67, _ => (hF.same 67 (by decide)).trans rfl
            | 68, _ => (hF.same 68 (by decide)).trans rfl
            | 69, _ => (hF.same 69 (by decide)).trans rfl
            | 70, _ => (hF.same 70 (by decide)).trans rfl
            | 71, _ => (hF.same 71 (by decide)).trans rfl
            | 72, _ => (hF.same 72 (by decide)).trans rfl
            | 73, _ => (hF.same 73 (by decide)).trans rfl
            | 74, _ => (hF.same 74 (by decide)).trans rfl
            | 75, _ => (hF.same 75 (by decide)).trans rfl
            | 76, _ => (hF.same 76 (by decide)).trans rfl
            | 77, _ => (hF.same 77 (by decide)).trans rfl
            | 78, _ => (hF.same 78 (by decide)).trans rfl
            | 79, _ => (hf 0 79 rfl : a2.tmps.getD 79 undef = _)
            | 80, _ => (hf 1 80 rfl : a2.tmps.getD 80 undef = _)
            | 81, _ => (hf 2 81 rfl : a2.tmps.getD 81 undef = _)
            | 82, _ => (hf 3 82 rfl : a2.tmps.getD 82 undef = _)
            | 83, _ => pg
            | 84, _ => (hf 5 84 rfl : a2.tmps.getD 84 undef = _)
            | 85, _ => (hf 6 85 rfl : a2.tmps.getD 85 undef = _)
            | 86, _ => (hf 7 86 rfl : a2.tmps.getD 86 undef = _)
            | 87, _ => (hf 8 87 rfl : a2.tmps.getD 87 undef = _)
            | 88, _ => (hf 9 88 rfl : a2.tmps.getD 88 undef = _)
            | 89, _ => (hf 10 89 rfl : a2.tmps.getD 89 undef = _)
            | 90, _ => (hF.same 90 (by decide)).trans rfl
            | 91, _ => (hF.same 91 (by decide)).trans rfl
            | 92, _ => (hF.same 92 (by decide)).trans rfl
            | 93, _ => (hF.same 93 (by decide)).trans rfl
            | 94, _ => (hF.same 94 (by decide)).trans rfl
            | 95, _ => (hF.same 95 (by decide)).trans rfl
            | 96, _ => (hF.same 96 (by decide)).trans rfl
            | 97, _ => (hF.same 97 (by decide)).trans rfl
            | 98, _ => (hF.same 98 (by decide)).trans rfl
            | 99, _ => (hF.same 99 (by decide)).trans rfl
            | 100, _ => (hF.same 100 (by decide)).trans rfl
            | 101, _ => (hF.same 101 (by decide)).trans rfl
            | 102, _ => (hF.same 102 (by decide)).trans rfl
            | 103, _ => (hF.same 103 (by decide)).trans rfl
            | 104, _ => (hF.same 104 (by decide)).trans rfl
            | 105, _ => (hF.same 105 (by decide)).trans rfl
            | 106, _ => (hF.same 106 (by decide)).trans rfl
            | 107, _ => (hF.same 107 (by decide)).trans rfl
            | 108, _ => (hF.same 108 (by decide)).trans rfl
            | 109, _ => (hF.same 109 (by decide)).trans rfl
            | 110, _ => (hF.same 110 (by decide)).trans rfl
            | 111, _ => (hF.same 111 (by decide)).trans rfl
            | 112, _ => (hF.same 112 (by decide)).trans rfl
            | 113, _ => (hF.same 113 (by decide)).trans rfl
            | 114, _ => (hF.same 114 (by decide)).trans rfl
            | 115, _ => (hF.same 115 (by decide)).trans rfl
            | 116, _ => (hF.same 116 (by decide)).trans rfl
            | 117, _ => (hF.same 117 (by decide)).trans rfl
            | 118, _ => (hF.same 118 (by decide)).trans rfl
            | 119, _ => (hF.same 119 (by decide)).trans rfl
            | 120, _ => (hF.same 120 (by decide)).trans rfl
            | 121, _ => (hF.same 121 (by decide)).trans rfl
            | 122, _ => (hF.same 122 (by decide)).trans rfl
            | 123, _ => (hF.same 123 (by decide)).trans rfl
            | 124, _ => (hF.same 124 (by decide)).trans rfl
            | 125, _ => (hF.same 125 (by decide)).trans rfl
            | 126, _ => (hF.same 126 (by decide)).trans rfl
            | 127, _ => (hF.same 127 (by decide)).trans rfl
            | 128, _ => (hF.same 128 (by decide)).trans rfl
            | 129, _ => (hF.same 129 (by decide)).trans rfl
            | 130, _ => (hF.same 130 (by decide)).trans rfl
            | 131, _ => (hF.same 131 (by decide)).trans rfl
            | 132, _ => (hF.same 132 (by decide)).trans rfl
            | 133, _ => (hF.same 133 (by decide)).trans rfl
            | 134, _ => (hF.same 134 (by decide)).trans rfl
            | 135, _ => (hF.same 135 (by decide)).trans rfl
            | 136, _ => (hF.same 136 (by decide)).trans rfl
            | 137, _ => (hF.same 137 (by decide)).trans rfl
            | 138, _ => (hF.same 138 (by decide)).trans rfl
            | 139, _ => (hF.same 139 (by decide)).trans rfl
            | 140, _ => (hF.same 140 (by decide)).trans rfl
            | 141, _ => (hF.same 141 (by decide)).trans rfl
            | 142, _ => (hF.same 142 (by decide)).trans rfl
            | 143, _ => (hF.same 143 (by decide)).trans rfl
            | 144, _ => (hF.same 144 (by decide)).trans rfl
            | 145, _ => (hF.same 145 (by decide)).trans rfl
            | 146, _ => (hF.same 146 (by decide)).trans rfl
            | 147, _ => (hF.same 147 (by decide)).trans rfl
            | _ + 148, h => absurd h (by simp only [List.length_cons, List.length_nil]; omega))
          subst hlit
          have hE5 := hE3.step hC
          clear hf hF hC pg
          show wpList _ _ _ [] _ V5
          have hbl := put_len l p ch hp
          have hbd := put_digs p ch HD.out
          obtain ⟨m, hm⟩ : ∃ m, l.take p ++ [ch] ++ l.drop p = m := ⟨_, rfl⟩
          rw [hm] at hbl hbd ⊢
          rw [hcn] at hbd
          have hs2 : (⟨#[45, 45]⟩ : ByteArray) ++ ⟨l.toArray⟩ = ⟨(45 :: 45 :: l).toArray⟩ := str_app [45, 45] l
          obtain ⟨ev, hev, EP⟩ : ∃ ev : Int, (ev = 0 ∧ 48 ≤ cb ∧ cb ≤ 57 ∧ m.length ≤ 60 ∨ ev = 60 ∧ (cb < 48 ∨ 48 ≤ cb ∧ 57 < cb ∨ 48 ≤ cb ∧ cb ≤ 57 ∧ decide ((m.length : Int) ≤ 60) = false)) ∧ Calls Tryz.prog 10 #[.string ⟨m.toArray⟩] V5 fun e' W' => ∃ v, e' = .returned (.tuple #[v, .int .i64 ev]) ∧ Env wr [] W' := by
            by_cases hr : Reads m
            · exact ⟨0, .inl ⟨rfl, (hbd.mp hr.2.2).1, (hbd.mp hr.2.2).2, hr.2.1⟩, says_ok S hE5 m hr⟩
            · refine ⟨60, .inr ⟨rfl, ?_⟩, says_bad S hE5 m (by omega) hr⟩
              by_cases h1 : cb < 48
              · exact .inl h1
              · by_cases h2 : 57 < cb
                · exact .inr (.inl ⟨by omega, h2⟩)
                · refine .inr (.inr ⟨by omega, by omega, ?_⟩)
                  by_cases h3 : m.length ≤ 60
                  · exact absurd ⟨by omega, h3, hbd.mpr ⟨by omega, by omega⟩⟩ hr
                  · rw [decide_eq_false_iff_not]; omega
          have HBL := Lib.hid hbl
          clear hbd hbl hE3 hW3
          go_wp2_with fail
          refine EP.mono ?_
          rintro e V6 ⟨v6, rfl, hE6⟩
          clear hE5 EP
          go_wp2_with fail
          refine (saysInt_bad S hE6 (45 :: 45 :: l) (by simp; omega) (by rw [iRest_sign]; exact not_reads_sign l)).mono ?_
          rintro e V7 ⟨u7, A7, n7, c7, rfl, hE7⟩
          have hE8 := hE7.alloc (.cells #[.bool u7, .slice A7 n7 c7] 25)
          obtain ⟨V8, hV8⟩ : ∃ V8, V7.alloc (.cells #[.bool u7, .slice A7 n7 c7] 25) = V8 := ⟨_, rfl⟩
          rw [hV8] at hE8
          clear hE6 hE7 hs2
          go_wp2_with fail
          go_loopw [17] (fun sv V => ∃ q : List UInt8, sv = .string ⟨q.toArray⟩ ∧ q.length ≤ 61 ∧ V = V8) (fun sv _ => 61 - lenB sv)
          case atStart => exact ⟨l, rfl, by omega, by first | rfl | exact hV8⟩
          case round =>
            obtain ⟨q, rfl, hq, rfl⟩ := hrel
            by_cases hq60 : q.length ≤ 60
            · go_wp2
              refine ⟨⟨48 :: q, congrArg _ (str_app [48] q), by simp; omega, by first | rfl | trivial⟩, ?_⟩
              rw [str_app [48] q, lenB_str, lenB_str]
              simp; omega
            · have hs3 : (⟨#[45]⟩ : ByteArray) ++ ⟨q.toArray⟩ = ⟨(45 :: q).toArray⟩ := str_app [45] q
              go_wp2_with fail
              refine (says_bad S hE8 q (by omega) (fun h => by have := h.2.1; omega)).mono ?_
              rintro e V9 ⟨v9, rfl, hE9⟩
              clear hE8
              go_wp2_with fail
              refine (saysInt_bad S hE9 (45 :: q) (by simp; omega) (by rw [iRest_sign]; exact fun h => by have := h.2.1; omega)).mono ?_
              rintro e V10 ⟨u10, A10, n10, c10, rfl, hE10⟩
              have hE11 := hE10.alloc (.cells #[.bool u10, .slice A10 n10 c10] 25)
              clear hE9 hE10 hs3
              rcases hev with ⟨rfl, h1, h2, h3⟩ | ⟨rfl, h1 | ⟨h1, h2⟩ | ⟨h1, h2, h3⟩⟩
              all_goals
                go_wp2_with fail
                refine (wakes6_E S hE11).mono ?_
                rintro e V12 ⟨rfl, hE12⟩
                go_wp2
                go_ret
                exact ⟨rfl, hE12.1⟩

theorem dbad_any (w : World) (S : DigTold w) (s : ByteArray) (a c : Int) (hs : s.size ≤ maxLen) (_ha : -9223372036854775808 ≤ a ∧ a ≤ 9223372036854775807) (hc : 0 ≤ c ∧ c ≤ 255) :
    Calls Tryz.prog 6 #[.string s, .int .i64 a, .int .u8 c] w fun e w' => e = .returned (.bool true) ∧ Below w.heap.size w w' := by
  by_cases hl : s.size ≤ 60
  · have he : s = ⟨s.data.toList.toArray⟩ := by apply ByteArray.ext; simp
    obtain ⟨cb, rfl⟩ := Int.eq_ofNat_of_zero_le hc.1
    rw [he]
    exact dbad_go w S _ a cb (by rw [str_len]; exact hl) (by omega)
  · exact dbad_long w S s a c hs (by omega)
end Go.Proofs.YtaancfhbmjkoaaaGreatDoor
