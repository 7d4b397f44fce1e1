/- Contract of the reference's Parse of layer 6: digit by digit. -/
import Derived.Test.YtaancfhbmjkoaaaGreatDoorDigM
import Derived.Test.YtaancfhbmjkoaaaGreatDoorGRefA
import Derived.Test.YtaancfhbmjkoaaaGreatDoorGRefB
namespace Go.Proofs.YtaancfhbmjkoaaaGreatDoor
open Go Go.RowKit
variable {w W : World} {e : List Num}

section
variable {ops : Array Oper} {Q : Exit → Act → World → Prop} {C : World → Prop} {a : Act} {V : World} {i : Nat} {t : Tmp} {o : Oper} {v1 : Value} {N M : Nat}
theorem fn_radd (ho : ops[i]? = some o) (hd : o.dst = some t) (hw : Region.wanted o (yielded ops a.tmps) = true) (hr : (execOp a.eval o).run Tryz.prog V = .ok (.enter 28 #[v1]) V) (h : RepPair N M v1 V) (bx : lenL N ≤ 900) (by' : lenL M ≤ 900) (hC : ∀ V', Below V.heap.size V V' → C V') :
    wpOp Tryz.prog ops Q i (fun a' w' => ∃ v, a' = a.put (some t) v ∧ RepN (N + M) v w' ∧ Below V.heap.size V w' ∧ C w') a V := by
  obtain ⟨g, x, y, rfl, hg, x1, x2, x3, y1, y2, y3⟩ := h
  have hE : Env V [x, y] V := Env.start (by simp [x3, y3])
  have hlen := sum_len hE (x := x) (y := y) (by simp) (by simp) (b := 900) (by omega) (by omega)
  have hS : sumN [x, y] = x.N + y.N := by simp [sumN]
  have hc := (rAdd_any V _ 2 [x, y] (pair_rds hg x3 y3) (by simp) (by
    intro u hu
    simp only [List.mem_cons, List.not_mem_nil, or_false] at hu
    rcases hu with rfl | rfl <;> omega) (by rw [hS]; omega))
  rw [hS, x1, y1] at hc
  rw [x1, y1] at hlen
  exact fn_back ho hd hw hr (hc.mono fun e' w' hg => back_of_gives hE hg (by omega)) hC
end

set_option maxHeartbeats 1000000 in
theorem rParse_short (s : ByteArray) (h : Env w e W) (hs : ¬ (1 ≤ s.size ∧ s.size ≤ 60)) (hm : s.size ≤ 1000000) :
    Calls Tryz.prog 11 #[.string s] W (ParsedBad w e) := by
  rcases (by omega : s.size = 0 ∨ 60 < s.size) with h0 | h0
  · go_enter Tryz.func11, Tryz.ntmps11
    go_wp2
    go_ret2
    exact ⟨rfl, h⟩
  · go_enter Tryz.func11, Tryz.ntmps11
    go_wp2
    go_ret2
    exact ⟨rfl, h⟩

set_option maxRecDepth 100000 in
set_option maxHeartbeats 4000000 in
theorem rParse_long (s : ByteArray) (h : Env w e W) (h1 : 1 ≤ s.size) (h60 : s.size ≤ 60) :
    Calls Tryz.prog 11 #[.string s] W fun e' W' => (Digs s.data.toList → ParsedOk w e (val s.data.toList) e' W') ∧ (¬ Digs s.data.toList → ParsedBad w e e' W') := by
  go_enter Tryz.func11, Tryz.ntmps11
  go_wp2
  go_loopw [4, 5] (fun ov kv V => ∃ (k : Nat) (r : Num), k ≤ s.size ∧ kv = .int .i64 k ∧ ov = .slice r.A r.n r.c ∧ Hid (r.N = val (s.data.toList.take k)) ∧ Hid (r.n = lenL r.N) ∧ Hid (Digs (s.data.toList.take k)) ∧ Hid (Env w (r :: e) V)) (fun _ kv _ => s.size - (intOf kv).toNat)
  case atStart => exact ⟨0, ⟨none, 0, 0, 0⟩, by omega, rfl, rfl, Lib.hid rfl, Lib.hid lenL_zero.symm, Lib.hid digs_nil, Lib.hid h.nought⟩
  case round =>
    obtain ⟨k, r, hk, rfl, rfl, hrN, hrn, hdg, hE⟩ := hrel
    by_cases hlt : k < s.size
    · have hts := take_snoc s k hlt
      have hmem := mem_str s k hlt
      by_cases hc1 : s[k].toNat < 48
      · have HB : Hid (¬ Digs s.data.toList) := Lib.hid fun hd => by have := hd _ hmem; omega
        clear hts hmem
        go_wp2
        go_ret2
        exact ⟨fun hd => absurd hd HB.out, fun _ => ⟨rfl, hE.out.pick fun z hz => List.mem_cons_of_mem _ hz⟩⟩
      · by_cases hc2 : 57 < s[k].toNat
        · have HB : Hid (¬ Digs s.data.toList) := Lib.hid fun hd => by have := hd _ hmem; omega
          clear hts hmem
          go_wp2
          go_ret2
          exact ⟨fun hd => absurd hd HB.out, fun _ => ⟨rfl, hE.out.pick fun z hz => List.mem_cons_of_mem _ hz⟩⟩
        · obtain ⟨d, hd10, hcd⟩ : ∃ d, d < 10 ∧ s[k].toNat = 48 + d := ⟨s[k].toNat - 48, by omega, by omega⟩
          have HN : Hid (val (s.data.toList.take (k + 1)) = r.N * 10 + d) := Lib.hid (by rw [hts, val_snoc, hrN.out, hcd]; omega)
          have HDG : Hid (Digs (s.data.toList.take (k + 1))) := Lib.hid (by rw [hts]; refine digs_append.mpr ⟨hdg.out, ?_⟩; intro c hc; simp only [List.mem_cons, List.not_mem_nil, or_false] at hc; subst hc; omega)
          have OR := Lib.hid (hE.out.2 r (by simp))
          have LR : Hid (r.n ≤ 60 ∧ lenL (r.N * 10) ≤ 800) := Lib.hid (limbs_of_digits hdg.out (by rw [List.length_take]; omega) hrN.out hrn.out)
          clear hts hmem
          go_wp2
          have HW8 := Lib.hid (show IntKind.u8.wrap (48 + (d : Int) - 48) = d by rw [IntKind.wrap_u8]; omega)
          have HW32 := Lib.hid (show IntKind.u32.wrap (d : Int) = d by rw [IntKind.wrap_u32]; omega)
          refine wp_region_facts 12 [30, 31, 32, 33, 34, 35, 36, 37, 38, 39, 40, 41] (fun i v V => match i with
              | 0 => v = .slice r.A r.n r.c
              | 1 => RepOne 10 v V
              | 2 => RepN (r.N * 10) v V
              | 3 => v = .string s
              | 4 => v = .int .i64 (k : Nat)
              | 5 => v = .int .u8 (48 + (d : Int))
              | 6 => v = .int .u8 (d : Nat)
              | 7 => v = .int .u32 (d : Nat)
              | 8 => RepOne d v V
              | 9 => RepN d v V
              | 10 => RepPair (r.N * 10) d v V
              | _ => RepN (r.N * 10 + d) v V) (fun V => Below wr.heap.size wr V) (by kernel_rfl) (by kernel_rfl) rfl (by decide) (by first | (simp; done) | (simp; done)) (Below.refl _ _).drew ?_ ?_ ?_
          · intro i v V V2 hf hb _
            match i, hf with
            | 0, hf => exact hf
            | 1, hf => exact RepOne.keep hf hb
            | 2, hf => exact RepN.keep hf hb
            | 3, hf => exact hf
            | 4, hf => exact hf
            | 5, hf => exact hf
            | 6, hf => exact hf
            | 7, hf => exact hf
            | 8, hf => exact RepOne.keep hf hb
            | 9, hf => exact RepN.keep hf hb
            | 10, hf => exact RepPair.keep hf hb
            | _ + 11, hf => exact RepN.keep hf hb
          · intro i t ht a V hC hF hd
            match i, ht with
            | 0, ht =>
              cases ht
              have h4 : a.tmps[4]?.getD undef = .slice r.A r.n r.c := (hF.at_ 4 (by decide)).trans rfl
              exact step_value (v := .slice r.A r.n r.c) rfl rfl (wanted_free rfl) (by go_simp) hC rfl
            | 1, ht =>
              cases ht
              exact fn_one (N := 10) (z := 10) rfl rfl (wanted_free rfl) (by go_simp) rfl (by decide) (fun V2 hb => hC.trans (hb.mono hC.size))
            | 2, ht =>
              cases ht
              have h30 : a.tmps[30]?.getD undef = .slice r.A r.n r.c := (slot_eq a 30).symm.trans (hd 0 30 rfl (by kernel_rfl))
              have r31 : RepOne 10 (a.tmps.getD 31 undef) V := hd 1 31 rfl (by kernel_rfl)
              have h31 : a.tmps[31]?.getD undef = a.tmps.getD 31 undef := (slot_eq a 31).symm
              obtain ⟨u, hu, u1, u2, u3⟩ := r31.num
              rw [hu] at h31
              have hk := OR.out.later hC
              have hm := rMul_E (w := V) (W := V) (e := [r, u]) (x := r) (y := u) (Env.start (by simp [hk, u3])) (by simp) (by simp) (by have := LR.out.1; omega) (by omega)
              rw [u2] at hm
              exact fn_back rfl rfl (wanted_free rfl) (call2_run ⟨_, rfl⟩ h30 h31 (enters_of Tryz.func27 (by kernel_rfl) rfl)) hm (fun V2 hb => hC.trans (hb.mono hC.size))
            | 3, ht =>
              cases ht
              have h0 : a.tmps[0]?.getD undef = .string s := (hF.at_ 0 (by decide)).trans rfl
              exact step_value (v := .string s) rfl rfl (wanted_free rfl) (by go_simp) hC rfl
            | 4, ht =>
              cases ht
              have h5 : a.tmps[5]?.getD undef = .int .i64 (k : Nat) := (hF.at_ 5 (by decide)).trans rfl
              exact step_value (v := .int .i64 (k : Nat)) rfl rfl (wanted_free rfl) (by go_simp) hC rfl
            | 5, ht =>
              cases ht
              have h33 : a.tmps[33]?.getD undef = .string s := (slot_eq a 33).symm.trans (hd 3 33 rfl (by kernel_rfl))
              have h34 : a.tmps[34]?.getD undef = .int .i64 (k : Nat) := (slot_eq a 34).symm.trans (hd 4 34 rfl (by kernel_rfl))
              exact step_value (v := .int .u8 (48 + (d : Int))) rfl rfl (wanted_free rfl) (by go_simp) hC rfl
            | 6, ht =>
              cases ht
              have h35 : a.tmps[35]?.getD undef = .int .u8 (48 + (d : Int)) := (slot_eq a 35).symm.trans (hd 5 35 rfl (by kernel_rfl))
              have hm := HW8.out
              exact step_value (v := .int .u8 (d : Nat)) rfl rfl (wanted_free rfl) (by go_simp) hC rfl
            | 7, ht =>
              cases ht
              have h36 : a.tmps[36]?.getD undef = .int .u8 (d : Nat) := (slot_eq a 36).symm.trans (hd 6 36 rfl (by kernel_rfl))
              have hm := HW32.out
              exact step_value (v := .int .u32 (d : Nat)) rfl rfl (wanted_free rfl) (by go_simp) hC rfl
            | 8, ht =>
              cases ht
              have h37 : a.tmps[37]?.getD undef = .int .u32 (d : Nat) := (slot_eq a 37).symm.trans (hd 7 37 rfl (by kernel_rfl))
              exact fn_one (N := d) (z := (d : Int)) rfl rfl (wanted_free rfl) (by go_simp) rfl (by omega) (fun V2 hb => hC.trans (hb.mono hC.size))
            | 9, ht =>
              cases ht
              have r38 : RepOne d (a.tmps.getD 38 undef) V := hd 8 38 rfl (by kernel_rfl)
              have h38 : a.tmps[38]?.getD undef = a.tmps.getD 38 undef := (slot_eq a 38).symm
              obtain ⟨u, hu, u1, u2, u3⟩ := r38.num
              rw [hu] at h38
              have hm := rTrim_E (w := V) (W := V) (e := [u]) (x := u) (Env.start (by simp [u3])) (by simp)
              rw [u2] at hm
              exact fn_back rfl rfl (wanted_free rfl) (call1_run ⟨_, rfl⟩ h38 (enters_of Tryz.func25 (by kernel_rfl) rfl)) hm (fun V2 hb => hC.trans (hb.mono hC.size))
            | 10, ht =>
              cases ht
              have r32 : RepN (r.N * 10) (a.tmps.getD 32 undef) V := hd 2 32 rfl (by kernel_rfl)
              have h32 : a.tmps[32]?.getD undef = a.tmps.getD 32 undef := (slot_eq a 32).symm
              have r39 : RepN d (a.tmps.getD 39 undef) V := hd 9 39 rfl (by kernel_rfl)
              have h39 : a.tmps[39]?.getD undef = a.tmps.getD 39 undef := (slot_eq a 39).symm
              exact fn_pair rfl rfl (wanted_free rfl) rfl h32 h39 r32 r39 (fun V2 hb => hC.trans (hb.mono hC.size))
            | 11, ht =>
              cases ht
              have r40 : RepPair (r.N * 10) d (a.tmps.getD 40 undef) V := hd 10 40 rfl (by kernel_rfl)
              have h40 : a.tmps[40]?.getD undef = a.tmps.getD 40 undef := (slot_eq a 40).symm
              exact fn_radd rfl rfl (wanted_free rfl) (call1_run ⟨_, rfl⟩ h40 (enters_of Tryz.func28 (by kernel_rfl) rfl)) r40 (by have := LR.out.2; omega) (by have := lenL_le.2 (show d < Bw ^ 1 by rw [Nat.pow_one, Bw_eq]; omega); omega) (fun V2 hb => hC.trans (hb.mono hC.size))
            | k + 12, ht => simp at ht
          · intro a2 V2 hC hF hf
            obtain ⟨o, po, _, _, _, _⟩ := (hf 1 31 rfl : RepOne 10 (a2.tmps.getD 31 undef) V2)
            obtain ⟨p, pp, _, _, _⟩ := (hf 2 32 rfl : RepN (r.N * 10) (a2.tmps.getD 32 undef) V2)
            obtain ⟨q, pq, _, _, _, _⟩ := (hf 8 38 rfl : RepOne d (a2.tmps.getD 38 undef) V2)
            obtain ⟨t, pt, _, _, _⟩ := (hf 9 39 rfl : RepN d (a2.tmps.getD 39 undef) V2)
            obtain ⟨g, _, _, pg, _, _, _, _, _, _, _⟩ := (hf 10 40 rfl : RepPair (r.N * 10) d (a2.tmps.getD 40 undef) V2)
            obtain ⟨m, pm, m1, m2, mk⟩ := (hf 11 41 rfl : RepN (r.N * 10 + d) (a2.tmps.getD 41 undef) V2)
            have hlit := act_eq (a := a2) (.string s :: undef :: u2 :: u3 :: .slice r.A r.n r.c :: .int .i64 (k : Nat) :: .string s :: .int .i64 (s.size : Nat) :: .bool (decide ((s.size : Int) < 1)) :: .bool (decide ((s.size : Int) < 1)) :: .string s :: .int .i64 (s.size : Nat) :: .bool (decide (60 < (s.size : Int))) :: .bool (decide ((s.size : Int) < 1) || decide (60 < (s.size : Int))) :: .int .i64 (k : Nat) :: .string s :: .int .i64 (s.size : Nat) :: .bool true :: u18 :: u19 :: .string s :: .int .i64 (k : Nat) :: .int .u8 (48 + (d : Int)) :: .bool (decide (48 + (d : Int) < 48)) :: .bool (decide (48 + (d : Int) < 48)) :: .string s :: .int .i64 (k : Nat) :: .int .u8 (48 + (d : Int)) :: .bool (decide (57 < 48 + (d : Int))) :: .bool (decide (48 + (d : Int) < 48) || decide (57 < 48 + (d : Int))) :: .slice r.A r.n r.c :: .slice o.A 1 1 :: .slice p.A p.n p.c :: .string s :: .int .i64 (k : Nat) :: .int .u8 (48 + (d : Int)) :: .int .u8 (d : Nat) :: .int .u32 (d : Nat) :: .slice q.A 1 1 :: .slice t.A t.n t.c :: .slice (some ⟨g, 0, none⟩) 2 2 :: .slice m.A m.n m.c :: undef :: []) (by simpa using hF.size) hF.defers (fun i hi => match i, hi with
              | 0, _ => (hF.same 0 (by decide)).trans rfl
              | 1, _ => (hF.same 1 (by decide)).trans rfl
              | 2, _ => (hF.same 2 (by decide)).trans rfl
              | 3, _ => (hF.same 3 (by decide)).trans rfl
              | 4, _ => (hF.same 4 (by decide)).trans rfl
              | 5, _ => (hF.same 5 (by decide)).trans rfl
              | 6, _ => (hF.same 6 (by decide)).trans rfl
              | 7, _ => (hF.same 7 (by decide)).trans rfl
              | 8, _ => (hF.same 8 (by decide)).trans rfl
              | 9, _ => (hF.same 9 (by decide)).trans rfl
              | 10, _ => (hF.same 10 (by decide)).trans rfl
              | 11, _ => (hF.same 11 (by decide)).trans rfl
              | 12, _ => (hF.same 12 (by decide)).trans rfl
              | 13, _ => (hF.same 13 (by decide)).trans rfl
              | 14, _ => (hF.same 14 (by decide)).trans rfl
              | 15, _ => (hF.same 15 (by decide)).trans rfl
              | 16, _ => (hF.same 16 (by decide)).trans rfl
              | 17, _ => (hF.same 17 (by decide)).trans rfl
              | 18, _ => (hF.same 18 (by decide)).trans rfl
              | 19, _ => (hF.same 19 (by decide)).trans rfl
              | 20, _ => (hF.same 20 (by decide)).trans rfl
              | 21, _ => (hF.same 21 (by decide)).trans rfl
              | 22, _ => (hF.same 22 (by decide)).trans rfl
              | 23, _ => (hF.same 23 (by decide)).trans rfl
              | 24, _ => (hF.same 24 (by decide)).trans rfl
              | 25, _ => (hF.same 25 (by decide)).trans rfl
              | 26, _ => (hF.same 26 (by decide)).trans rfl
              | 27, _ => (hF.same 27 (by decide)).trans rfl
              | 28, _ => (hF.same 28 (by decide)).trans rfl
              | 29, _ => (hF.same 29 (by decide)).trans rfl
              | 30, _ => (hf 0 30 rfl : a2.tmps.getD 30 undef = _)
              | 31, _ => po
              | 32, _ => pp
              | 33, _ => (hf 3 33 rfl : a2.tmps.getD 33 undef = _)
              | 34, _ => (hf 4 34 rfl : a2.tmps.getD 34 undef = _)
              | 35, _ => (hf 5 35 rfl : a2.tmps.getD 35 undef = _)
              | 36, _ => (hf 6 36 rfl : a2.tmps.getD 36 undef = _)
              | 37, _ => (hf 7 37 rfl : a2.tmps.getD 37 undef = _)
              | 38, _ => pq
              | 39, _ => pt
              | 40, _ => pg
              | 41, _ => pm
              | 42, _ => (hF.same 42 (by decide)).trans rfl
              | _ + 43, h => absurd h (by simp only [List.length_cons, List.length_nil]; omega))
            subst hlit
            have M1 := Lib.hid m1
            have M2 := Lib.hid m2
            have ME := Lib.hid (((hE.out.step hC).add mk).pick (e' := m :: e) (fun z hz => by simp only [List.mem_cons] at hz ⊢; rcases hz with hz | hz <;> simp [hz]))
            clear hf hF hC m1 m2 mk po pp pq pt pg pm
            show wpList _ _ _ [_] _ V2
            go_wp2
            go_roundw
            case rel => exact ⟨k + 1, m, by omega, by go_num, rfl, Lib.hid (by rw [M1.out, HN.out]), Lib.hid (by rw [M2.out, M1.out]), HDG, ME⟩
            case measure => simp [intOf]; omega
    · have hke : k = s.size := by omega
      have HT : Hid (s.data.toList.take k = s.data.toList) := Lib.hid (List.take_of_length_le (by rw [str_len]; omega))
      go_wp2
      go_ret2
      exact ⟨fun _ => ⟨r, rfl, by rw [hrN.out, HT.out], by rw [hrn.out, hrN.out, HT.out], hE.out⟩, fun hd => absurd (by rw [← HT.out]; exact hdg.out) hd⟩

theorem rParse_E (s : ByteArray) (h : Env w e W) (hm : s.size ≤ 1000000) :
    Calls Tryz.prog 11 #[.string s] W fun e' W' => (Reads s.data.toList → ParsedOk w e (val s.data.toList) e' W') ∧ (¬ Reads s.data.toList → ParsedBad w e e' W') := by
  by_cases hs : 1 ≤ s.size ∧ s.size ≤ 60
  · refine (rParse_long s h hs.1 hs.2).mono fun e' W' hh => ⟨fun hr => hh.1 hr.2.2, fun hr => hh.2 fun hd => hr ⟨?_, ?_, hd⟩⟩
    · rw [str_len]; exact hs.1
    · rw [str_len]; exact hs.2
  · refine (rParse_short s h hs hm).mono fun e' W' hh => ⟨fun hr => absurd ⟨?_, ?_⟩ hs, fun _ => hh⟩
    · rw [← str_len]; exact hr.1
    · rw [← str_len]; exact hr.2.1
end Go.Proofs.YtaancfhbmjkoaaaGreatDoor
