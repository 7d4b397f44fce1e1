/- A part. -/
import Derived.Test.YtafokgknenienaaGreatDoorGVVecD
set_option maxHeartbeats 4000000
set_option maxRecDepth 100000
namespace Go.Proofs.YtafokgknenienaaGreatDoor
open Go Go.RowKit
theorem zrS {A:Option Addr}{c:Nat}{l:List PEl}{V:World}(hR:PRds V V.heap.size A l)(hll:l.length≤100000000000000):
  Calls Tryz.prog 75 #[.slice A l.length c] V (zai V (fun v _=>v= .bool (ze8 l))):=by
 refine zao (e:=[]) Tryz.func75 rfl Tryz.ntmps75 (zta rfl) [(0,.slice A l.length c)] rfl zaz (fun a S=>?_)
 refine wp_seq_k fun K1 hK1=>?_
 refine zab ?_
 refine tv S (zav rfl) fun a S=>?_
 refine hK1 _ _ ?_
 refine wp_seq_k fun K2 hK2=>?_
 refine wp_seq_k fun K3 hK3=>?_
 refine zab ?_
 refine tv S (zav rfl) fun a S=>?_
 refine hK3 _ _ ?_
 refine wp_block ?_
 have S:=S.keep [3,0] (ls':=[(3,.int .i64 0),(0,.slice A l.length c)]) rfl
 have S:=S.sel [0,1] rfl
 have S:=S.seln [] rfl
 have S:=S.reorder [] rfl (by decide)
 refine wp_loop (fun aI VI=>∃(k:Nat),((l.take k).any (zep 3)=false)∧(k≤l.length)∧Frm 42 [(3,.int .i64 (((k:Nat):Int))),(0,.slice A l.length c)] [] V [] aI VI) (fun aI _=>(l.length) - (intOf (aI.tmps.getD 3 undef)).toNat) ⟨0,rfl,Nat.zero_le _,S⟩ ?_
 rintro a1 V1 ⟨k,hI,hkl,S⟩
 have hm0:a1.tmps.getD 3 undef= .int .i64 (((k:Nat):Int)):=S.at 0 rfl
 refine wp_seq_k fun K4 hK4=>?_
 refine wp_seq_k fun K5 hK5=>?_
 refine zab ?_
 refine tv S (zad rfl (S.at 0 rfl)) fun a S=>?_
 refine tv S (zad rfl (S.at 2 rfl)) fun a S=>?_
 refine tv S (zci rfl (S.at 0 rfl)) fun a S=>?_
 refine tv S (zbY rfl (S.at 2 rfl) (S.at 0 rfl)) fun a S=>?_
 refine hK5 _ _ ?_
 rcases ztk (decide (((k:Nat):Int)<((l.length:Nat):Int)))with hc7|hc7
 ·refine wp_cond_true ((S.at 0 rfl).trans (congrArg Value.bool hc7)) ?_
  have hlt:k<l.length:=by have:=of_decide_eq_true hc7;omega
  obtain⟨be,xe,ye,be2,xe2,ye2,hel⟩:∃b x y b' x' y',l[k]=(b,x,y,b',x',y'):=⟨_,_,_,_,_,_,rfl⟩
  obtain⟨⟨hea,heb⟩,hec,hed⟩:=hR.oks hlt hel
  have S:=S.know (hea.later S.below)
  have S:=S.know (heb.later S.below)
  have S:=S.know (hec.later S.below)
  have S:=S.know (hed.later S.below)
  refine wp_skip ?_
  refine hK4 _ _ ?_
  refine wp_seq_k fun K6 hK6=>?_
  refine wp_block ?_
  refine wp_seq_k fun K7 hK7=>?_
  obtain⟨W1,hW1⟩:∃W,W=V1:=⟨_,rfl⟩
  rw[←hW1]at S ⊢
  have S0:=S
  refine fr 32 [10,11,12,13,14,15,16,17,18,19,20,21,22,23,24,25,26,27,28,29,30,31,32,33,34,35,36,37,38,39,40,41] [IsV (.slice A l.length c),IsV (.int .i64 (((k:Nat):Int))),IsV (.pointer (some (zaY A (k*6)))),IsV (.pointer (some (zaY A (k*6)))),IsV (.pointer (some (zaY A (k*6)))),IsV (.pointer (some (zaY A (k*6+1)))),IsV (aS xe),IsV (.int .i64 (((xe.n:Nat):Int))),IsV (.slice A l.length c),IsV (.int .i64 (((k:Nat):Int))),IsV (.pointer (some (zaY A (k*6)))),IsV (.pointer (some (zaY A (k*6)))),IsV (.pointer (some (zaY A (k*6+2)))),IsV (aS ye),IsV (.int .i64 (((ye.n:Nat):Int))),IsV (.slice A l.length c),IsV (.int .i64 (((k:Nat):Int))),IsV (.pointer (some (zaY A (k*6)))),IsV (.pointer (some (zaY A (k*6+3)))),IsV (.pointer (some (zaY A (k*6+3)))),IsV (.pointer (some (zaY A (k*6+3+1)))),IsV (aS xe2),IsV (.int .i64 (((xe2.n:Nat):Int))),IsV (.slice A l.length c),IsV (.int .i64 (((k:Nat):Int))),IsV (.pointer (some (zaY A (k*6)))),IsV (.pointer (some (zaY A (k*6+3)))),IsV (.pointer (some (zaY A (k*6+3+2)))),IsV (aS ye2),IsV (.int .i64 (((ye2.n:Nat):Int))),IsV (.int .i64 (((max (max (max xe.n ye.n) xe2.n) ye2.n:Nat):Int))),IsV (.bool (decide (3<((max (max (max xe.n ye.n) xe2.n) ye2.n:Nat):Int))))] S ?_ ?_
  ·refine sc (fun _ _ S _ _=>sv rfl (zad rfl (S.at 5 rfl))) ?_
   refine sc (fun _ _ S _ _=>sv rfl (zad rfl (S.at 4 rfl))) ?_
   refine sc (fun _ _ _ _ hd=>sv rfl (zbp (hR.el hlt hel).s hlt rfl (hd.v 0 rfl rfl) (hd.v 1 rfl rfl))) ?_
   refine sc (fun _ _ _ _ hd=>sv rfl (zbB zfa rfl (hd.v 2 rfl rfl))) ?_
   refine sc (fun _ _ _ _ hd=>sv rfl (zbB zfb rfl (hd.v 3 rfl rfl))) ?_
   refine sc (fun _ _ _ _ hd=>sv rfl (zbB (zfe (hR.el hlt hel).s) rfl (hd.v 4 rfl rfl))) ?_
   refine sc (fun _ _ S _ hd=>sv rfl (zd6 ((hR.below S.below).el hlt hel).c1 rfl (hd.v 5 rfl rfl))) ?_
   refine sc (fun _ _ _ _ hd=>sv rfl (zbU (by decide) rfl (hd.v 6 rfl rfl))) ?_
   refine sc (fun _ _ S _ _=>sv rfl (zad rfl (S.at 5 rfl))) ?_
   refine sc (fun _ _ S _ _=>sv rfl (zad rfl (S.at 4 rfl))) ?_
   refine sc (fun _ _ _ _ hd=>sv rfl (zbp (hR.el hlt hel).s hlt rfl (hd.v 8 rfl rfl) (hd.v 9 rfl rfl))) ?_
   refine sc (fun _ _ _ _ hd=>sv rfl (zbB zfa rfl (hd.v 10 rfl rfl))) ?_
   refine sc (fun _ _ _ _ hd=>sv rfl (zbB (zfd (hR.el hlt hel).s) rfl (hd.v 11 rfl rfl))) ?_
   refine sc (fun _ _ S _ hd=>sv rfl (zd6 ((hR.below S.below).el hlt hel).c2 rfl (hd.v 12 rfl rfl))) ?_
   refine sc (fun _ _ _ _ hd=>sv rfl (zbU (by decide) rfl (hd.v 13 rfl rfl))) ?_
   refine sc (fun _ _ S _ _=>sv rfl (zad rfl (S.at 5 rfl))) ?_
   refine sc (fun _ _ S _ _=>sv rfl (zad rfl (S.at 4 rfl))) ?_
   refine sc (fun _ _ _ _ hd=>sv rfl (zbp (hR.el hlt hel).s hlt rfl (hd.v 15 rfl rfl) (hd.v 16 rfl rfl))) ?_
   refine sc (fun _ _ _ _ hd=>sv rfl (zbB (zfc (hR.el hlt hel).s) rfl (hd.v 17 rfl rfl))) ?_
   refine sc (fun _ _ _ _ hd=>sv rfl (zbB zfb rfl (hd.v 18 rfl rfl))) ?_
   refine sc (fun _ _ _ _ hd=>sv rfl (zbB (zfe (hR.el hlt hel).s) rfl (hd.v 19 rfl rfl))) ?_
   refine sc (fun _ _ S _ hd=>sv rfl (zd6 ((hR.below S.below).el hlt hel).c4 rfl (hd.v 20 rfl rfl))) ?_
   refine sc (fun _ _ _ _ hd=>sv rfl (zbU (by decide) rfl (hd.v 21 rfl rfl))) ?_
   refine sc (fun _ _ S _ _=>sv rfl (zad rfl (S.at 5 rfl))) ?_
   refine sc (fun _ _ S _ _=>sv rfl (zad rfl (S.at 4 rfl))) ?_
   refine sc (fun _ _ _ _ hd=>sv rfl (zbp (hR.el hlt hel).s hlt rfl (hd.v 23 rfl rfl) (hd.v 24 rfl rfl))) ?_
   refine sc (fun _ _ _ _ hd=>sv rfl (zbB (zfc (hR.el hlt hel).s) rfl (hd.v 25 rfl rfl))) ?_
   refine sc (fun _ _ _ _ hd=>sv rfl (zbB (zfd (hR.el hlt hel).s) rfl (hd.v 26 rfl rfl))) ?_
   refine sc (fun _ _ S _ hd=>sv rfl (zd6 ((hR.below S.below).el hlt hel).c5 rfl (hd.v 27 rfl rfl))) ?_
   refine sc (fun _ _ _ _ hd=>sv rfl (zbU (by decide) rfl (hd.v 28 rfl rfl))) ?_
   refine sc (fun _ _ _ _ hd=>sv rfl (zlz rfl (hd.v 7 rfl rfl) (hd.v 14 rfl rfl) (hd.v 22 rfl rfl) (hd.v 29 rfl rfl))) ?_
   refine sc (fun _ _ _ _ hd=>sv rfl (zc1 rfl (hd.v 30 rfl rfl) rfl)) ?_
   exact sn
  ·intro a2 V2 S hB hf
   have S:=S.add (hf.v 31 rfl rfl)
   clear hf S0
   show wpList _ _ _ [] _ _
   refine hK7 _ _ ?_
   rcases ztk (decide (3<((max (max (max xe.n ye.n) xe2.n) ye2.n:Nat):Int)))with hc41|hc41
   ·refine wp_cond_true ((S.at 0 rfl).trans (congrArg Value.bool hc41)) ?_
    refine wp_seq_k fun K8 hK8=>?_
    refine zab ?_
    refine tv S (zav rfl) fun a S=>?_
    refine hK8 _ _ ?_
    refine wp_ret ?_
    exact zaH rfl S (S.at 0 rfl) ⟨_,rfl,congrArg Value.bool (zly hlt ((ze9 hel).symm.trans hc41)).symm,S.below⟩
   ·refine wp_cond_false ((S.at 0 rfl).trans (congrArg Value.bool hc41)) ?_
    refine wp_skip ?_
    refine hK6 _ _ ?_
    refine zab ?_
    refine tv S (zad rfl (S.at 5 rfl)) fun a S=>?_
    refine tv S (zcQ (k:=k) (m:=1) rfl (S.at 0 rfl) rfl (by omega)) fun a S=>?_
    refine za5 S (v:= .int .i64 (((k+1:Nat):Int))) (zan rfl (S.at 0 rfl)) rfl rfl (by decide) (ls':=[(9,.int .i64 (((k+1:Nat):Int))),(8,.int .i64 (((k:Nat):Int))),(41,.bool (decide (3<((max (max (max xe.n ye.n) xe2.n) ye2.n:Nat):Int)))),(7,.bool (decide (((k:Nat):Int)<((l.length:Nat):Int)))),(6,.int .i64 (((l.length:Nat):Int))),(5,.slice A l.length c),(4,.int .i64 (((k:Nat):Int))),(0,.slice A l.length c)]) rfl (fun a S=>?_)
    have hI2:(l.take (k+1)).any (zep 3)=false:=by rw[zjO hlt,hI,←ze9 hel];exact hc41
    have S:=S.sel [0,8] rfl
    have S:=S.seln [] rfl
    have S:=S.reorder [] rfl (by decide)
    refine⟨⟨k+1,hI2,hlt,S⟩,?_⟩
    have hm1:=S.at 0 rfl
    rw[hm0,hm1]
    simp only[intOf];omega
 ·refine wp_cond_false ((S.at 0 rfl).trans (congrArg Value.bool hc7)) ?_
  have hge:l.length≤k:=by have:=of_decide_eq_false hc7;omega
  refine wp_exit ?_
  refine hK2 _ _ ?_
  refine wp_seq_k fun K9 hK9=>?_
  refine zab ?_
  refine tv S (zav rfl) fun a S=>?_
  refine hK9 _ _ ?_
  refine wp_ret ?_
  exact zaH rfl S (S.at 0 rfl) ⟨_,rfl,congrArg Value.bool (show false=ze8 l by unfold ze8;rw[List.take_of_length_le hge]at hI;exact hI.symm),S.below⟩
theorem zqr {A:Option Addr}{c:Nat}{l:List PEl}{V:World}(hR:PRds V V.heap.size A l)(hll:l.length≤100000000000000):
  Calls Tryz.prog 45 #[.slice A l.length c] V (zai V (fun v _=>v= .bool (zbG l))):=by
 refine zao (e:=[]) Tryz.func45 rfl Tryz.ntmps45 (zta rfl) [(0,.slice A l.length c)] rfl zaz (fun a S=>?_)
 refine wp_seq_k fun K1 hK1=>?_
 refine zab ?_
 refine tv S (zav rfl) fun a S=>?_
 refine hK1 _ _ ?_
 refine wp_seq_k fun K2 hK2=>?_
 refine wp_seq_k fun K3 hK3=>?_
 refine zab ?_
 refine tv S (zav rfl) fun a S=>?_
 refine hK3 _ _ ?_
 refine wp_block ?_
 have S:=S.keep [3,0] (ls':=[(3,.int .i64 0),(0,.slice A l.length c)]) rfl
 have S:=S.sel [0,1] rfl
 have S:=S.seln [] rfl
 have S:=S.reorder [] rfl (by decide)
 refine wp_loop (fun aI VI=>∃(k:Nat),((l.take k).any (zep 6)=false)∧(k≤l.length)∧(k≤61)∧Frm 49 [(3,.int .i64 (((k:Nat):Int))),(0,.slice A l.length c)] [] V [] aI VI) (fun aI _=>(61) - (intOf (aI.tmps.getD 3 undef)).toNat) ⟨0,rfl,Nat.zero_le _,(by decide),S⟩ ?_
 rintro a1 V1 ⟨k,hI,hkl,hk6,S⟩
 have hm0:a1.tmps.getD 3 undef= .int .i64 (((k:Nat):Int)):=S.at 0 rfl
 refine wp_seq_k fun K4 hK4=>?_
 refine wp_seq_k fun K5 hK5=>?_
 rcases ztk (decide (((k:Nat):Int)<((l.length:Nat):Int)))with hs2|hs2
 ·skip
  have hlt:k<l.length:=by have:=of_decide_eq_true hs2;omega
  obtain⟨be,xe,ye,be2,xe2,ye2,hel⟩:∃b x y b' x' y',l[k]=(b,x,y,b',x',y'):=⟨_,_,_,_,_,_,rfl⟩
  obtain⟨⟨hea,heb⟩,hec,hed⟩:=hR.oks hlt hel
  have S:=S.know (hea.later S.below)
  have S:=S.know (heb.later S.below)
  have S:=S.know (hec.later S.below)
  have S:=S.know (hed.later S.below)
  refine zab ?_
  refine tv S (zad rfl (S.at 0 rfl)) fun a S=>?_
  refine tv S (zad rfl (S.at 2 rfl)) fun a S=>?_
  refine tv S (zci rfl (S.at 0 rfl)) fun a S=>?_
  refine tv S (za9 (zbY rfl (S.at 2 rfl) (S.at 0 rfl)) (show(decide (((k:Nat):Int)<((l.length:Nat):Int)))=true from hs2)) fun a S=>?_
  refine tv S (zad rfl (S.at 0 rfl)) fun a S=>?_
  refine tvg S (S.at 0 rfl) (zad rfl (S.at 5 rfl)) fun a S=>?_
  refine tvg S (S.at 1 rfl) (zrn rfl (S.at 0 rfl) rfl) fun a S=>?_
  refine tv S (zau true rfl (S.at 2 rfl) (S.at 0 rfl)) fun a S=>?_
  refine hK5 _ _ ?_
  rcases ztk (decide (((k:Nat):Int)≤60))with hc11|hc11
  ·refine wp_cond_true ((S.at 0 rfl).trans (congrArg Value.bool hc11)) ?_
   have hk60:k≤60:=by have:=of_decide_eq_true hc11;omega
   refine wp_skip ?_
   refine hK4 _ _ ?_
   refine wp_seq_k fun K6 hK6=>?_
   refine wp_block ?_
   refine wp_seq_k fun K7 hK7=>?_
   obtain⟨W1,hW1⟩:∃W,W=V1:=⟨_,rfl⟩
   rw[←hW1]at S ⊢
   have S0:=S
   refine fr 32 [14,15,16,17,18,19,20,21,22,23,24,25,26,27,28,29,30,31,32,33,34,35,36,37,38,39,40,41,42,43,44,45] [IsV (.slice A l.length c),IsV (.int .i64 (((k:Nat):Int))),IsV (.pointer (some (zaY A (k*6)))),IsV (.pointer (some (zaY A (k*6)))),IsV (.pointer (some (zaY A (k*6)))),IsV (.pointer (some (zaY A (k*6+1)))),IsV (aS xe),IsV (.int .i64 (((xe.n:Nat):Int))),IsV (.slice A l.length c),IsV (.int .i64 (((k:Nat):Int))),IsV (.pointer (some (zaY A (k*6)))),IsV (.pointer (some (zaY A (k*6)))),IsV (.pointer (some (zaY A (k*6+2)))),IsV (aS ye),IsV (.int .i64 (((ye.n:Nat):Int))),IsV (.slice A l.length c),IsV (.int .i64 (((k:Nat):Int))),IsV (.pointer (some (zaY A (k*6)))),IsV (.pointer (some (zaY A (k*6+3)))),IsV (.pointer (some (zaY A (k*6+3)))),IsV (.pointer (some (zaY A (k*6+3+1)))),IsV (aS xe2),IsV (.int .i64 (((xe2.n:Nat):Int))),IsV (.slice A l.length c),IsV (.int .i64 (((k:Nat):Int))),IsV (.pointer (some (zaY A (k*6)))),IsV (.pointer (some (zaY A (k*6+3)))),IsV (.pointer (some (zaY A (k*6+3+2)))),IsV (aS ye2),IsV (.int .i64 (((ye2.n:Nat):Int))),IsV (.int .i64 (((max (max (max xe.n ye.n) xe2.n) ye2.n:Nat):Int))),IsV (.bool (decide (6<((max (max (max xe.n ye.n) xe2.n) ye2.n:Nat):Int))))] S ?_ ?_
   ·refine sc (fun _ _ S _ _=>sv rfl (zad rfl (S.at 9 rfl))) ?_
    refine sc (fun _ _ S _ _=>sv rfl (zad rfl (S.at 8 rfl))) ?_
    refine sc (fun _ _ _ _ hd=>sv rfl (zbp (hR.el hlt hel).s hlt rfl (hd.v 0 rfl rfl) (hd.v 1 rfl rfl))) ?_
    refine sc (fun _ _ _ _ hd=>sv rfl (zbB zfa rfl (hd.v 2 rfl rfl))) ?_
    refine sc (fun _ _ _ _ hd=>sv rfl (zbB zfb rfl (hd.v 3 rfl rfl))) ?_
    refine sc (fun _ _ _ _ hd=>sv rfl (zbB (zfe (hR.el hlt hel).s) rfl (hd.v 4 rfl rfl))) ?_
    refine sc (fun _ _ S _ hd=>sv rfl (zd6 ((hR.below S.below).el hlt hel).c1 rfl (hd.v 5 rfl rfl))) ?_
    refine sc (fun _ _ _ _ hd=>sv rfl (zbU (by decide) rfl (hd.v 6 rfl rfl))) ?_
    refine sc (fun _ _ S _ _=>sv rfl (zad rfl (S.at 9 rfl))) ?_
    refine sc (fun _ _ S _ _=>sv rfl (zad rfl (S.at 8 rfl))) ?_
    refine sc (fun _ _ _ _ hd=>sv rfl (zbp (hR.el hlt hel).s hlt rfl (hd.v 8 rfl rfl) (hd.v 9 rfl rfl))) ?_
    refine sc (fun _ _ _ _ hd=>sv rfl (zbB zfa rfl (hd.v 10 rfl rfl))) ?_
    refine sc (fun _ _ _ _ hd=>sv rfl (zbB (zfd (hR.el hlt hel).s) rfl (hd.v 11 rfl rfl))) ?_
    refine sc (fun _ _ S _ hd=>sv rfl (zd6 ((hR.below S.below).el hlt hel).c2 rfl (hd.v 12 rfl rfl))) ?_
    refine sc (fun _ _ _ _ hd=>sv rfl (zbU (by decide) rfl (hd.v 13 rfl rfl))) ?_
    refine sc (fun _ _ S _ _=>sv rfl (zad rfl (S.at 9 rfl))) ?_
    refine sc (fun _ _ S _ _=>sv rfl (zad rfl (S.at 8 rfl))) ?_
    refine sc (fun _ _ _ _ hd=>sv rfl (zbp (hR.el hlt hel).s hlt rfl (hd.v 15 rfl rfl) (hd.v 16 rfl rfl))) ?_
    refine sc (fun _ _ _ _ hd=>sv rfl (zbB (zfc (hR.el hlt hel).s) rfl (hd.v 17 rfl rfl))) ?_
    refine sc (fun _ _ _ _ hd=>sv rfl (zbB zfb rfl (hd.v 18 rfl rfl))) ?_
    refine sc (fun _ _ _ _ hd=>sv rfl (zbB (zfe (hR.el hlt hel).s) rfl (hd.v 19 rfl rfl))) ?_
    refine sc (fun _ _ S _ hd=>sv rfl (zd6 ((hR.below S.below).el hlt hel).c4 rfl (hd.v 20 rfl rfl))) ?_
    refine sc (fun _ _ _ _ hd=>sv rfl (zbU (by decide) rfl (hd.v 21 rfl rfl))) ?_
    refine sc (fun _ _ S _ _=>sv rfl (zad rfl (S.at 9 rfl))) ?_
    refine sc (fun _ _ S _ _=>sv rfl (zad rfl (S.at 8 rfl))) ?_
    refine sc (fun _ _ _ _ hd=>sv rfl (zbp (hR.el hlt hel).s hlt rfl (hd.v 23 rfl rfl) (hd.v 24 rfl rfl))) ?_
    refine sc (fun _ _ _ _ hd=>sv rfl (zbB (zfc (hR.el hlt hel).s) rfl (hd.v 25 rfl rfl))) ?_
    refine sc (fun _ _ _ _ hd=>sv rfl (zbB (zfd (hR.el hlt hel).s) rfl (hd.v 26 rfl rfl))) ?_
    refine sc (fun _ _ S _ hd=>sv rfl (zd6 ((hR.below S.below).el hlt hel).c5 rfl (hd.v 27 rfl rfl))) ?_
    refine sc (fun _ _ _ _ hd=>sv rfl (zbU (by decide) rfl (hd.v 28 rfl rfl))) ?_
    refine sc (fun _ _ _ _ hd=>sv rfl (zlz rfl (hd.v 7 rfl rfl) (hd.v 14 rfl rfl) (hd.v 22 rfl rfl) (hd.v 29 rfl rfl))) ?_
    refine sc (fun _ _ _ _ hd=>sv rfl (zc1 rfl (hd.v 30 rfl rfl) rfl)) ?_
    exact sn
   ·intro a2 V2 S hB hf
    have S:=S.add (hf.v 31 rfl rfl)
    clear hf S0
    show wpList _ _ _ [] _ _
    refine hK7 _ _ ?_
    rcases ztk (decide (6<((max (max (max xe.n ye.n) xe2.n) ye2.n:Nat):Int)))with hc45|hc45
    ·refine wp_cond_true ((S.at 0 rfl).trans (congrArg Value.bool hc45)) ?_
     refine wp_seq_k fun K8 hK8=>?_
     refine zab ?_
     refine tv S (zav rfl) fun a S=>?_
     refine hK8 _ _ ?_
     refine wp_ret ?_
     exact zaH rfl S (S.at 0 rfl) ⟨_,rfl,congrArg Value.bool (show true=zbG l by unfold zbG;rw[zly (k:=k) (by rw[List.length_take];have:=of_decide_eq_true hc11;omega) (by rw[List.getElem_take,←ze9 hel];exact hc45)];rfl),S.below⟩
    ·refine wp_cond_false ((S.at 0 rfl).trans (congrArg Value.bool hc45)) ?_
     refine wp_skip ?_
     refine hK6 _ _ ?_
     refine zab ?_
     refine tv S (zad rfl (S.at 9 rfl)) fun a S=>?_
     refine tv S (zcQ (k:=k) (m:=1) rfl (S.at 0 rfl) rfl (by omega)) fun a S=>?_
     refine za5 S (v:= .int .i64 (((k+1:Nat):Int))) (zan rfl (S.at 0 rfl)) rfl rfl (by decide) (ls':=[(13,.int .i64 (((k+1:Nat):Int))),(12,.int .i64 (((k:Nat):Int))),(45,.bool (decide (6<((max (max (max xe.n ye.n) xe2.n) ye2.n:Nat):Int)))),(11,.bool (decide (((k:Nat):Int)≤60))),(10,.bool (decide (((k:Nat):Int)≤60))),(9,.int .i64 (((k:Nat):Int))),(8,.bool true),(7,.bool true),(6,.int .i64 (((l.length:Nat):Int))),(5,.slice A l.length c),(4,.int .i64 (((k:Nat):Int))),(0,.slice A l.length c)]) rfl (fun a S=>?_)
     have hI2:(l.take (k+1)).any (zep 6)=false:=by rw[zjO hlt,hI,←ze9 hel];exact hc45
     have S:=S.sel [0,12] rfl
     have S:=S.seln [] rfl
     have S:=S.reorder [] rfl (by decide)
     refine⟨⟨k+1,hI2,hlt,(by have:=of_decide_eq_true hc11;omega),S⟩,?_⟩
     have hm1:=S.at 0 rfl
     rw[hm0,hm1]
     simp only[intOf];omega
  ·refine wp_cond_false ((S.at 0 rfl).trans (congrArg Value.bool hc11)) ?_
   have hend:l.take 61=l.take k:=by have:=of_decide_eq_false hc11;rw[show k=61 by omega]
   refine wp_exit ?_
   refine hK2 _ _ ?_
   refine wp_seq_k fun K9 hK9=>?_
   refine zab ?_
   refine tv S (zad rfl (S.at 9 rfl)) fun a S=>?_
   refine tv S (zci rfl (S.at 0 rfl)) fun a S=>?_
   refine tv S (zc1 rfl (S.at 0 rfl) rfl) fun a S=>?_
   refine tv S (zan rfl (S.at 0 rfl)) fun a S=>?_
   refine hK9 _ _ ?_
   refine wp_ret ?_
   exact zaH rfl S (S.at 0 rfl) ⟨_,rfl,congrArg Value.bool (show _=zbG l by unfold zbG;rw[hend,hI,Bool.false_or];exact decide_eq_decide.2 (by omega)),S.below⟩
 ·skip
  have hge:l.length≤k:=by have:=of_decide_eq_false hs2;omega
  have hend:l.take 61=l.take k:=by rw[List.take_of_length_le hge,List.take_of_length_le (by omega)]
  refine zab ?_
  refine tv S (zad rfl (S.at 0 rfl)) fun a S=>?_
  refine tv S (zad rfl (S.at 2 rfl)) fun a S=>?_
  refine tv S (zci rfl (S.at 0 rfl)) fun a S=>?_
  refine tv S (za9 (zbY rfl (S.at 2 rfl) (S.at 0 rfl)) (show(decide (((k:Nat):Int)<((l.length:Nat):Int)))=false from hs2)) fun a S=>?_
  refine tv S (zad rfl (S.at 0 rfl)) fun a S=>?_
  refine tk S (S.at 0 rfl) fun a S=>?_
  refine tk S (S.at 1 rfl) fun a S=>?_
  refine tv S (zau false rfl (S.at 2 rfl) rfl) fun a S=>?_
  refine hK5 _ _ ?_
  refine wp_cond_false (S.at 0 rfl) ?_
  refine wp_exit ?_
  refine hK2 _ _ ?_
  refine wp_seq_k fun K10 hK10=>?_
  refine zab ?_
  refine tv S (zad rfl (S.at 9 rfl)) fun a S=>?_
  refine tv S (zci rfl (S.at 0 rfl)) fun a S=>?_
  refine tv S (zc1 rfl (S.at 0 rfl) rfl) fun a S=>?_
  refine tv S (zan rfl (S.at 0 rfl)) fun a S=>?_
  refine hK10 _ _ ?_
  refine wp_ret ?_
  exact zaH rfl S (S.at 0 rfl) ⟨_,rfl,congrArg Value.bool (show _=zbG l by unfold zbG;rw[hend,hI,Bool.false_or];exact decide_eq_decide.2 (by omega)),S.below⟩
section
variable {q q' q1 q1' q2 q2' q3 q3' r:Rat}
theorem zgN (q:Rat):(0≤q∧zbH q=q)∨(q≤0∧zbH q= -q):=by
 unfold zbH
 by_cases h:q<0
 ·rw[if_pos h];exact .inr ⟨by grind,rfl⟩
 ·rw[if_neg h];exact .inl ⟨by grind,rfl⟩
theorem zhN (a b:Rat):zbH (a - b)=zbH (b - a):=by
 rcases zgN (a - b)with⟨h1,h2⟩|⟨h1,h2⟩ <;> rcases zgN (b - a)with⟨h3,h4⟩|⟨h3,h4⟩ <;> grind
theorem zcg {a b:Rat}:zaI a b=0↔a=b:=⟨fun h=>by have:=zhA.1 h;grind,fun h=>zhA.2 (by grind)⟩
theorem zpb:zaS q1 q1' q2 q2'=0↔q1=q2∧q1'=q2':=by
 unfold zaS
 by_cases h:zaI q1 q2=0
 ·rw[if_pos h,zcg];exact⟨fun h2=>⟨zcg.1 h,h2⟩,fun h2=>h2.2⟩
 ·rw[if_neg h];exact⟨fun h2=>absurd h2 h,fun h2=>absurd (zcg.2 h2.1) h⟩
theorem zb8 (h:q1=q2)(h':q1'=q2'):decide (zaS q1 q1' q2 q2'=0)=true:=decide_eq_true (zpb.2 ⟨h,h'⟩)
theorem zpc:zbH (q2 - q1)+zbH (q2' - q1')=zbH (q1 - q2)+zbH (q1' - q2'):=by rw[zhN q2,zhN q2']
theorem zpd {p0 p1 p2:PEl}(h:ze8 [p0,p1,p2]=false):zep 3 p0=false∧zep 3 p1=false∧zep 3 p2=false:=by simpa[ze8]using h
theorem zem {m:Nat}{p:PEl}(h:zep m p=false):p.2.1.n≤m∧p.2.2.1.n≤m∧p.2.2.2.2.1.n≤m∧p.2.2.2.2.2.n≤m:=by
 simp only[zep,Bool.or_eq_false_iff,decide_eq_false_iff_not]at h
 omega
theorem zlC {ps:List PEl}{G:Bool}{v:Value}{V:World}(h:GP ps v V)(hG:ze8 ps=G):Calls Tryz.prog 75 #[v] V (zai V fun v _=>v= .bool G):=by
 obtain⟨A,c,rfl,hR,hl,-⟩:=h
 rw[←hG]
 exact zrS hR hl
theorem zc3 {ps:List PEl}{G:Bool}{v:Value}{V:World}(h:GP ps v V)(hG:zbG ps=G):Calls Tryz.prog 45 #[v] V (zai V fun v _=>v= .bool G):=by
 obtain⟨A,c,rfl,hR,hl,-⟩:=h
 rw[←hG]
 exact zqr hR hl
end
end Go.Proofs.YtafokgknenienaaGreatDoor
