/- Whether numbers are too long: the law package's long, the document's Great of layer 8. -/
import Derived.Test.YtafokgknenienaaGreatDoorGVVecD
set_option maxHeartbeats 4000000
set_option maxRecDepth 100000
namespace Go.Proofs.YtafokgknenienaaGreatDoor
open Go Go.RowKit
theorem zrH {A:Option Addr} {c:Nat} {l:List PEl} {V:World} (hR:PRds V V.heap.size A l) (hll:l.length≤100000000000000):
  Calls Tryz.prog 75 #[.slice A l.length c] V (zal V (fun v _=>v= .bool (zcS l))):=by
 refine zar (e:=[]) Tryz.func75 rfl Tryz.ntmps75 (Nat.le_of_ble_eq_true rfl) [(0,.slice A l.length c)] rfl zaE (fun a S=>?_)
 refine wp_seq_k fun K1 hK1=>?_
 refine zac ?_
 refine tv S (zaB rfl) fun a S=>?_
 refine hK1 _ _ ?_
 refine wp_seq_k fun K2 hK2=>?_
 refine wp_seq_k fun K3 hK3=>?_
 refine zac ?_
 refine tv S (zaB rfl) fun a S=>?_
 refine hK3 _ _ ?_
 refine wp_block ?_
 have S:=S.keep [3,0] (ls':=[(3,.int .i64 0),(0,.slice A l.length c)]) rfl
 have S:=S.sel [0,1] rfl
 have S:=S.seln [] rfl
 have S:=S.reorder [] rfl (by decide)
 refine wp_loop (fun aI VI=> ∃(k:Nat),((l.take k).any (zg2 3)=false)∧(k≤l.length)∧Frm 42 [(3,.int .i64 (((k:Nat):Int))),(0,.slice A l.length c)] [] V [] aI VI) (fun aI _=>(l.length) - (intOf (aI.tmps.getD 3 undef)).toNat) ⟨0,rfl,Nat.zero_le _,S⟩ ?_
 rintro a1 V1 ⟨k,hI,hkl,S⟩
 have hm0:a1.tmps.getD 3 undef= .int .i64 (((k:Nat):Int)):=S.at 0 rfl
 refine wp_seq_k fun K4 hK4=>?_
 refine wp_seq_k fun K5 hK5=>?_
 refine zac ?_
 refine tv S (zad rfl (S.at 0 rfl)) fun a S=>?_
 refine tv S (zad rfl (S.at 2 rfl)) fun a S=>?_
 refine tv S (zdJ rfl (S.at 0 rfl)) fun a S=>?_
 refine tv S (zcm rfl (S.at 2 rfl) (S.at 0 rfl)) fun a S=>?_
 refine hK5 _ _ ?_
 rcases Bool.eq_false_or_eq_true (decide (((k:Nat):Int)<((l.length:Nat):Int))) with hc7|hc7
 ·refine wp_cond_true ((S.at 0 rfl).trans (congrArg Value.bool hc7)) ?_
  have hlt:k<l.length:=by have:=of_decide_eq_true hc7;omega
  obtain ⟨be,xe,ye,be2,xe2,ye2,hel⟩: ∃b x y b' x' y',l[k]=(b,x,y,b',x',y'):=⟨_,_,_,_,_,_,rfl⟩
  obtain ⟨⟨hea,heb⟩,hec,hed⟩:=hR.oks hlt hel
  have S:=S.know (hea.later S.below)
  have S:=S.know (heb.later S.below)
  have S:=S.know (hec.later S.below)
  have S:=S.know (hed.later S.below)
  refine wp_skip ?_
  refine hK4 _ _ ?_
  refine wp_seq_k fun K6 hK6=>?_
  refine wp_block ?_
  refine wp_seq_k fun K7 hK7=>?_
  obtain ⟨W1,hW1⟩: ∃W,W=V1:=⟨_,rfl⟩
  rw [←hW1] at S ⊢
  have S0:=S
  refine fr 32 [10,11,12,13,14,15,16,17,18,19,20,21,22,23,24,25,26,27,28,29,30,31,32,33,34,35,36,37,38,39,40,41] [IsV (.slice A l.length c),IsV (.int .i64 (((k:Nat):Int))),IsV (.pointer (some (zbi A (k*6)))),IsV (.pointer (some (zbi A (k*6)))),IsV (.pointer (some (zbi A (k*6)))),IsV (.pointer (some (zbi A (k*6+1)))),IsV (aS xe),IsV (.int .i64 (((xe.n:Nat):Int))),IsV (.slice A l.length c),IsV (.int .i64 (((k:Nat):Int))),IsV (.pointer (some (zbi A (k*6)))),IsV (.pointer (some (zbi A (k*6)))),IsV (.pointer (some (zbi A (k*6+2)))),IsV (aS ye),IsV (.int .i64 (((ye.n:Nat):Int))),IsV (.slice A l.length c),IsV (.int .i64 (((k:Nat):Int))),IsV (.pointer (some (zbi A (k*6)))),IsV (.pointer (some (zbi A (k*6+3)))),IsV (.pointer (some (zbi A (k*6+3)))),IsV (.pointer (some (zbi A (k*6+3+1)))),IsV (aS xe2),IsV (.int .i64 (((xe2.n:Nat):Int))),IsV (.slice A l.length c),IsV (.int .i64 (((k:Nat):Int))),IsV (.pointer (some (zbi A (k*6)))),IsV (.pointer (some (zbi A (k*6+3)))),IsV (.pointer (some (zbi A (k*6+3+2)))),IsV (aS ye2),IsV (.int .i64 (((ye2.n:Nat):Int))),IsV (.int .i64 (((max (max (max xe.n ye.n) xe2.n) ye2.n:Nat):Int))),IsV (.bool (decide (3<((max (max (max xe.n ye.n) xe2.n) ye2.n:Nat):Int))))] S ?_ ?_
  ·refine sc (fun _ _ S _ _=>sv rfl (zad rfl (S.at 5 rfl))) ?_
   refine sc (fun _ _ S _ _=>sv rfl (zad rfl (S.at 4 rfl))) ?_
   refine sc (fun _ _ _ _ hd=>sv rfl (zct (hR.el hlt hel).s hlt rfl (hd.v 0 rfl rfl) (hd.v 1 rfl rfl))) ?_
   refine sc (fun _ _ _ _ hd=>sv rfl (zdm zlE rfl (hd.v 2 rfl rfl))) ?_
   refine sc (fun _ _ _ _ hd=>sv rfl (zdm zjO rfl (hd.v 3 rfl rfl))) ?_
   refine sc (fun _ _ _ _ hd=>sv rfl (zdm (zjQ (hR.el hlt hel).s) rfl (hd.v 4 rfl rfl))) ?_
   refine sc (fun _ _ S _ hd=>sv rfl (ziA ((hR.below S.below).el hlt hel).c1 rfl (hd.v 5 rfl rfl))) ?_
   refine sc (fun _ _ _ _ hd=>sv rfl (zbJ (by decide) rfl (hd.v 6 rfl rfl))) ?_
   refine sc (fun _ _ S _ _=>sv rfl (zad rfl (S.at 5 rfl))) ?_
   refine sc (fun _ _ S _ _=>sv rfl (zad rfl (S.at 4 rfl))) ?_
   refine sc (fun _ _ _ _ hd=>sv rfl (zct (hR.el hlt hel).s hlt rfl (hd.v 8 rfl rfl) (hd.v 9 rfl rfl))) ?_
   refine sc (fun _ _ _ _ hd=>sv rfl (zdm zlE rfl (hd.v 10 rfl rfl))) ?_
   refine sc (fun _ _ _ _ hd=>sv rfl (zdm (zjP (hR.el hlt hel).s) rfl (hd.v 11 rfl rfl))) ?_
   refine sc (fun _ _ S _ hd=>sv rfl (ziA ((hR.below S.below).el hlt hel).c2 rfl (hd.v 12 rfl rfl))) ?_
   refine sc (fun _ _ _ _ hd=>sv rfl (zbJ (by decide) rfl (hd.v 13 rfl rfl))) ?_
   refine sc (fun _ _ S _ _=>sv rfl (zad rfl (S.at 5 rfl))) ?_
   refine sc (fun _ _ S _ _=>sv rfl (zad rfl (S.at 4 rfl))) ?_
   refine sc (fun _ _ _ _ hd=>sv rfl (zct (hR.el hlt hel).s hlt rfl (hd.v 15 rfl rfl) (hd.v 16 rfl rfl))) ?_
   refine sc (fun _ _ _ _ hd=>sv rfl (zdm (zlF (hR.el hlt hel).s) rfl (hd.v 17 rfl rfl))) ?_
   refine sc (fun _ _ _ _ hd=>sv rfl (zdm zjO rfl (hd.v 18 rfl rfl))) ?_
   refine sc (fun _ _ _ _ hd=>sv rfl (zdm (zjQ (hR.el hlt hel).s) rfl (hd.v 19 rfl rfl))) ?_
   refine sc (fun _ _ S _ hd=>sv rfl (ziA ((hR.below S.below).el hlt hel).c4 rfl (hd.v 20 rfl rfl))) ?_
   refine sc (fun _ _ _ _ hd=>sv rfl (zbJ (by decide) rfl (hd.v 21 rfl rfl))) ?_
   refine sc (fun _ _ S _ _=>sv rfl (zad rfl (S.at 5 rfl))) ?_
   refine sc (fun _ _ S _ _=>sv rfl (zad rfl (S.at 4 rfl))) ?_
   refine sc (fun _ _ _ _ hd=>sv rfl (zct (hR.el hlt hel).s hlt rfl (hd.v 23 rfl rfl) (hd.v 24 rfl rfl))) ?_
   refine sc (fun _ _ _ _ hd=>sv rfl (zdm (zlF (hR.el hlt hel).s) rfl (hd.v 25 rfl rfl))) ?_
   refine sc (fun _ _ _ _ hd=>sv rfl (zdm (zjP (hR.el hlt hel).s) rfl (hd.v 26 rfl rfl))) ?_
   refine sc (fun _ _ S _ hd=>sv rfl (ziA ((hR.below S.below).el hlt hel).c5 rfl (hd.v 27 rfl rfl))) ?_
   refine sc (fun _ _ _ _ hd=>sv rfl (zbJ (by decide) rfl (hd.v 28 rfl rfl))) ?_
   refine sc (fun _ _ _ _ hd=>sv rfl (zql rfl (hd.v 7 rfl rfl) (hd.v 14 rfl rfl) (hd.v 22 rfl rfl) (hd.v 29 rfl rfl))) ?_
   refine sc (fun _ _ _ _ hd=>sv rfl (zc6 rfl (hd.v 30 rfl rfl) rfl)) ?_
   exact sn
  ·intro a2 V2 S hB hf
   have S:=S.add (hf.v 31 rfl rfl)
   clear hf S0
   show wpList _ _ _ [] _ _
   refine hK7 _ _ ?_
   rcases Bool.eq_false_or_eq_true (decide (3<((max (max (max xe.n ye.n) xe2.n) ye2.n:Nat):Int))) with hc41|hc41
   ·refine wp_cond_true ((S.at 0 rfl).trans (congrArg Value.bool hc41)) ?_
    refine wp_seq_k fun K8 hK8=>?_
    refine zac ?_
    refine tv S (zaB rfl) fun a S=>?_
    refine hK8 _ _ ?_
    refine wp_ret ?_
    exact zaO rfl S (S.at 0 rfl) ⟨_,rfl,congrArg Value.bool (zqk hlt ((zjN hel).symm.trans hc41)).symm,S.below⟩
   ·refine wp_cond_false ((S.at 0 rfl).trans (congrArg Value.bool hc41)) ?_
    refine wp_skip ?_
    refine hK6 _ _ ?_
    refine zac ?_
    refine tv S (zad rfl (S.at 5 rfl)) fun a S=>?_
    refine tv S (zdG (k:=k) (m:=1) rfl (S.at 0 rfl) rfl (by omega)) fun a S=>?_
    refine zbe S (v:= .int .i64 (((k+1:Nat):Int))) (zan rfl (S.at 0 rfl)) rfl rfl (by decide) (ls':=[(9,.int .i64 (((k+1:Nat):Int))),(8,.int .i64 (((k:Nat):Int))),(41,.bool (decide (3<((max (max (max xe.n ye.n) xe2.n) ye2.n:Nat):Int)))),(7,.bool (decide (((k:Nat):Int)<((l.length:Nat):Int)))),(6,.int .i64 (((l.length:Nat):Int))),(5,.slice A l.length c),(4,.int .i64 (((k:Nat):Int))),(0,.slice A l.length c)]) rfl (fun a S=>?_)
    have hI2:(l.take (k+1)).any (zg2 3)=false:=by rw [zo7 hlt,hI,←zjN hel];exact hc41
    have S:=S.sel [0,8] rfl
    have S:=S.seln [] rfl
    have S:=S.reorder [] rfl (by decide)
    refine ⟨⟨k+1,hI2,hlt,S⟩,?_⟩
    have hm1:=S.at 0 rfl
    rw [hm0,hm1]
    simp only [intOf];omega
 ·refine wp_cond_false ((S.at 0 rfl).trans (congrArg Value.bool hc7)) ?_
  have hge:l.length≤k:=by have:=of_decide_eq_false hc7;omega
  refine wp_exit ?_
  refine hK2 _ _ ?_
  refine wp_seq_k fun K9 hK9=>?_
  refine zac ?_
  refine tv S (zaB rfl) fun a S=>?_
  refine hK9 _ _ ?_
  refine wp_ret ?_
  exact zaO rfl S (S.at 0 rfl) ⟨_,rfl,congrArg Value.bool (show false=zcS l by unfold zcS;rw [List.take_of_length_le hge] at hI;exact hI.symm),S.below⟩
end Go.Proofs.YtafokgknenienaaGreatDoor
namespace Go.Proofs.YtafokgknenienaaGreatDoor
open Go Go.RowKit
variable {q q' q1 q1' q2 q2' q3 q3' r : Rat}
theorem zbK (q:Rat):(0≤q∧zaA q=q)∨(q≤0∧zaA q= -q):=by
 unfold zaA
 by_cases h:q<0
 ·rw [if_pos h];exact .inr ⟨by grind,rfl⟩
 ·rw [if_neg h];exact .inl ⟨by grind,rfl⟩
theorem zhK (a b:Rat):zaA (a - b)=zaA (b - a):=by
 rcases zbK (a - b) with ⟨h1,h2⟩|⟨h1,h2⟩ <;> rcases zbK (b - a) with ⟨h3,h4⟩|⟨h3,h4⟩ <;> grind
theorem zjS (a b c:Rat):zaA (b - a)≤zaA (c - a)+zaA (b - c):=by
 rcases zbK (b - a) with ⟨h1,h2⟩|⟨h1,h2⟩ <;> rcases zbK (c - a) with ⟨h3,h4⟩|⟨h3,h4⟩ <;> rcases zbK (b - c) with ⟨h5,h6⟩|⟨h5,h6⟩ <;> grind
theorem zfN (q:Rat):0≤zaA q:=by
 rcases zbK q with ⟨h1,h2⟩|⟨h1,h2⟩ <;> grind
theorem zhL (h:zaA q=0):q=0:=by
 rcases zbK q with ⟨h1,h2⟩|⟨h1,h2⟩ <;> grind
theorem zjT (h:0≤r) (q:Rat):zaA (q*r)=zaA q*r:=by
 rcases zbK q with ⟨h1,h2⟩|⟨h1,h2⟩
 ·have h3:=Rat.mul_nonneg h1 h
  rcases zbK (q*r) with ⟨h5,h6⟩|⟨h5,h6⟩ <;> grind
 ·have h3:=Rat.mul_nonneg (show 0≤ -q by grind) h
  have h7: -q*r= -(q*r):=by grind
  rw [h7] at h3
  rw [h2,h7]
  rcases zbK (q*r) with ⟨h5,h6⟩|⟨h5,h6⟩
  ·rw [h6];grind
  ·exact h6
theorem zbS {a b:Rat} (h:a=b):decide (zay a b=0)=true:=decide_eq_true (zfm.2 (by grind))
theorem zlG {a:Rat} (h:a=0):(!decide (zay a 0=0))=false:=by rw [zbS h];rfl
theorem zb2 {a b:Rat}:zay a b=0↔a=b:=⟨fun h=>by have:=zfm.1 h;grind,fun h=>zfm.2 (by grind)⟩
theorem zjU:zaT q1 q1' q2 q2'=0↔q1=q2∧q1'=q2':=by
 unfold zaT
 by_cases h:zay q1 q2=0
 ·rw [if_pos h,zb2];exact ⟨fun h2=>⟨zb2.1 h,h2⟩,fun h2=>h2.2⟩
 ·rw [if_neg h];exact ⟨fun h2=>absurd h2 h,fun h2=>absurd (zb2.2 h2.1) h⟩
theorem zbo (h:q1=q2) (h':q1'=q2'):decide (zaT q1 q1' q2 q2'=0)=true:=decide_eq_true (zjU.2 ⟨h,h'⟩)
theorem zqm:decide (zay (zaA (q3 - q1)+zaA (q3' - q1')+(zaA (q2 - q3)+zaA (q2' - q3'))) (zaA (q2 - q1)+zaA (q2' - q1'))<0)=false:=by
 have h1:=zjS q1 q2 q3
 have h2:=zjS q1' q2' q3'
 have h3: ¬zaA (q3 - q1)+zaA (q3' - q1')+(zaA (q2 - q3)+zaA (q2' - q3'))<zaA (q2 - q1)+zaA (q2' - q1'):=by grind
 have:=of_decide_eq_true (zf5.2 h3)
 exact decide_eq_false (by omega)
theorem zo8:zaA (q2 - q1)+zaA (q2' - q1')=zaA (q1 - q2)+zaA (q1' - q2'):=by rw [zhK q2,zhK q2']
theorem zo9:(decide (zay (zaA (q2 - q1)+zaA (q2' - q1')) 0=0) != decide (zaT q1 q1' q2 q2'=0))=false:=by
 have h1:=zfN (q2 - q1)
 have h2:=zfN (q2' - q1')
 have h:decide (zay (zaA (q2 - q1)+zaA (q2' - q1')) 0=0)=decide (zaT q1 q1' q2 q2'=0):=by
  refine decide_eq_decide.2 ?_
  rw [zb2,zjU]
  constructor
  ·intro h
   have h3:=zhL (show zaA (q2 - q1)=0 by grind)
   have h4:=zhL (show zaA (q2' - q1')=0 by grind)
   exact ⟨by grind,by grind⟩
  ·rintro ⟨rfl,rfl⟩
   rw [show q1 - q1=0 by grind,show q1' - q1'=0 by grind]
   decide+kernel
 rw [h];simp
theorem zjV (h:0≤r) (h':r≤1) (a b:Rat):zaA (a+(b - a)*r - a)+zaA (b - (a+(b - a)*r))=zaA (b - a):=by
 rw [show a+(b - a)*r - a=(b - a)*r by grind,show b - (a+(b - a)*r)=(b - a)*(1 - r) by grind,zjT h,zjT (show 0≤1 - r by grind)]
 grind
theorem zqn (h:decide (0≤zay r 0)=true) (h':decide (zay r ((1:Int):Rat)≤0)=true):zaA (q1+(q2 - q1)*r - q1)+zaA (q1'+(q2' - q1')*r - q1')+(zaA (q2 - (q1+(q2 - q1)*r))+zaA (q2' - (q1'+(q2' - q1')*r)))=zaA (q2 - q1)+zaA (q2' - q1'):=by
 have h1:0≤r:=Rat.not_lt.1 (zf5.1 h)
 have h2:r≤1:=zpV.1 (of_decide_eq_true h')
 have a1:=zjV h1 h2 q1 q2
 have a2:=zjV h1 h2 q1' q2'
 grind
theorem zd7 {p0 p1 p2:PEl} (h:zcS [p0,p1,p2]=false):zg2 3 p0=false∧zg2 3 p1=false∧zg2 3 p2=false:=by simpa [zcS] using h
theorem zbX {m:Nat} {p:PEl} (h:zg2 m p=false):p.2.1.n≤m∧p.2.2.1.n≤m∧p.2.2.2.2.1.n≤m∧p.2.2.2.2.2.n≤m:=by
 simp only [zg2,Bool.or_eq_false_iff,decide_eq_false_iff_not] at h
 omega
theorem zdh {ps:List PEl} {G:Bool} {v:Value} {V:World} (h:GP ps v V) (hG:zcS ps=G):Calls Tryz.prog 75 #[v] V (zal V fun v _=>v= .bool G):=by
 obtain ⟨A,c,rfl,hR,hl,-⟩:=h
 rw [←hG]
 exact zrH hR hl
end Go.Proofs.YtafokgknenienaaGreatDoor
