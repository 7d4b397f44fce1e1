/- Whether numbers are too long: the law package's long, the document's Great of layer 8. -/
import Derived.Test.YtafokgknenienaaGreatDoorGVVecD
set_option maxHeartbeats 4000000
set_option maxRecDepth 100000
namespace Go.Proofs.YtafokgknenienaaGreatDoor
open Go Go.RowKit
theorem zq5 {A:Option Addr} {c:Nat} {l:List PEl} {V:World} (hR:PRds V V.heap.size A l) (hll:l.length≤100000000000000):
  Calls Tryz.prog 75 #[.slice A l.length c] V (zak V (fun v _=>v= .bool (zc3 l))):=by
 refine zat (e:=[]) Tryz.func75 rfl Tryz.ntmps75 (Nat.le_of_ble_eq_true rfl) [(0,.slice A l.length c)] rfl zaG (fun a S=>?_)
 refine wp_seq_k fun K1 hK1=>?_
 refine zac ?_
 refine tv S (zaK rfl) fun a S=>?_
 refine hK1 _ _ ?_
 refine wp_seq_k fun K2 hK2=>?_
 refine wp_seq_k fun K3 hK3=>?_
 refine zac ?_
 refine tv S (zaK rfl) fun a S=>?_
 refine hK3 _ _ ?_
 refine wp_block ?_
 have S:=S.keep [3,0] (ls':=[(3,.int .i64 0),(0,.slice A l.length c)]) rfl
 have S:=S.sel [0,1] rfl
 have S:=S.seln [] rfl
 have S:=S.reorder [] rfl (by decide)
 refine wp_loop (fun aI VI=> ∃(k:Nat),((l.take k).any (zgD 3)=false)∧(k≤l.length)∧Frm 42 [(3,.int .i64 (((k:Nat):Int))),(0,.slice A l.length c)] [] V [] aI VI) (fun aI _=>(l.length) - (intOf (aI.tmps.getD 3 undef)).toNat) ⟨0,rfl,Nat.zero_le _,S⟩ ?_
 rintro a1 V1 ⟨k,hI,hkl,S⟩
 have hm0:a1.tmps.getD 3 undef= .int .i64 (((k:Nat):Int)):=S.at 0 rfl
 refine wp_seq_k fun K4 hK4=>?_
 refine wp_seq_k fun K5 hK5=>?_
 refine zac ?_
 refine tv S (zaf rfl (S.at 0 rfl)) fun a S=>?_
 refine tv S (zaf rfl (S.at 2 rfl)) fun a S=>?_
 refine tv S (zpL rfl (S.at 0 rfl)) fun a S=>?_
 refine tv S (ze5 rfl (S.at 2 rfl) (S.at 0 rfl)) fun a S=>?_
 refine hK5 _ _ ?_
 rcases Bool.eq_false_or_eq_true (decide (((k:Nat):Int)<((l.length:Nat):Int))) with hc7|hc7
 ·refine wp_cond_true ((S.at 0 rfl).trans (congrArg Value.bool hc7)) ?_
  have hlt:k<l.length:=by have:=of_decide_eq_true hc7;omega
  obtain ⟨be,xe,ye,be2,xe2,ye2,hel⟩: ∃b x y b' x' y',l[k]=(b,x,y,b',x',y'):=⟨_,_,_,_,_,_,rfl⟩
  obtain ⟨⟨hea,heb⟩,hec,hed⟩:=hR.oks hlt hel
  have S:=S.know (hea.later S.below)
  have S:=S.know (heb.later S.below)
  have S:=S.know (hec.later S.below)
  have S:=S.know (hed.later S.below)
  refine wp_skip ?_
  refine hK4 _ _ ?_
  refine wp_seq_k fun K6 hK6=>?_
  refine wp_block ?_
  refine wp_seq_k fun K7 hK7=>?_
  obtain ⟨W1,hW1⟩: ∃W,W=V1:=⟨_,rfl⟩
  rw [←hW1] at S ⊢
  have S0:=S
  refine fr 32 [10,11,12,13,14,15,16,17,18,19,20,21,22,23,24,25,26,27,28,29,30,31,32,33,34,35,36,37,38,39,40,41] [IsV (.slice A l.length c),IsV (.int .i64 (((k:Nat):Int))),IsV (.pointer (some (zbv A (k*6)))),IsV (.pointer (some (zbv A (k*6)))),IsV (.pointer (some (zbv A (k*6)))),IsV (.pointer (some (zbv A (k*6+1)))),IsV (aS xe),IsV (.int .i64 (((xe.n:Nat):Int))),IsV (.slice A l.length c),IsV (.int .i64 (((k:Nat):Int))),IsV (.pointer (some (zbv A (k*6)))),IsV (.pointer (some (zbv A (k*6)))),IsV (.pointer (some (zbv A (k*6+2)))),IsV (aS ye),IsV (.int .i64 (((ye.n:Nat):Int))),IsV (.slice A l.length c),IsV (.int .i64 (((k:Nat):Int))),IsV (.pointer (some (zbv A (k*6)))),IsV (.pointer (some (zbv A (k*6+3)))),IsV (.pointer (some (zbv A (k*6+3)))),IsV (.pointer (some (zbv A (k*6+3+1)))),IsV (aS xe2),IsV (.int .i64 (((xe2.n:Nat):Int))),IsV (.slice A l.length c),IsV (.int .i64 (((k:Nat):Int))),IsV (.pointer (some (zbv A (k*6)))),IsV (.pointer (some (zbv A (k*6+3)))),IsV (.pointer (some (zbv A (k*6+3+2)))),IsV (aS ye2),IsV (.int .i64 (((ye2.n:Nat):Int))),IsV (.int .i64 (((max (max (max xe.n ye.n) xe2.n) ye2.n:Nat):Int))),IsV (.bool (decide (3<((max (max (max xe.n ye.n) xe2.n) ye2.n:Nat):Int))))] S ?_ ?_
  ·refine sc (fun _ _ S _ _=>sv rfl (zaf rfl (S.at 5 rfl))) ?_
   refine sc (fun _ _ S _ _=>sv rfl (zaf rfl (S.at 4 rfl))) ?_
   refine sc (fun _ _ _ _ hd=>sv rfl (zd7 (hR.el hlt hel).s hlt rfl (hd.v 0 rfl rfl) (hd.v 1 rfl rfl))) ?_
   refine sc (fun _ _ _ _ hd=>sv rfl (zc8 zk7 rfl (hd.v 2 rfl rfl))) ?_
   refine sc (fun _ _ _ _ hd=>sv rfl (zc8 zjm rfl (hd.v 3 rfl rfl))) ?_
   refine sc (fun _ _ _ _ hd=>sv rfl (zc8 (zjo (hR.el hlt hel).s) rfl (hd.v 4 rfl rfl))) ?_
   refine sc (fun _ _ S _ hd=>sv rfl (zid ((hR.below S.below).el hlt hel).c1 rfl (hd.v 5 rfl rfl))) ?_
   refine sc (fun _ _ _ _ hd=>sv rfl (zbF (by decide) rfl (hd.v 6 rfl rfl))) ?_
   refine sc (fun _ _ S _ _=>sv rfl (zaf rfl (S.at 5 rfl))) ?_
   refine sc (fun _ _ S _ _=>sv rfl (zaf rfl (S.at 4 rfl))) ?_
   refine sc (fun _ _ _ _ hd=>sv rfl (zd7 (hR.el hlt hel).s hlt rfl (hd.v 8 rfl rfl) (hd.v 9 rfl rfl))) ?_
   refine sc (fun _ _ _ _ hd=>sv rfl (zc8 zk7 rfl (hd.v 10 rfl rfl))) ?_
   refine sc (fun _ _ _ _ hd=>sv rfl (zc8 (zjn (hR.el hlt hel).s) rfl (hd.v 11 rfl rfl))) ?_
   refine sc (fun _ _ S _ hd=>sv rfl (zid ((hR.below S.below).el hlt hel).c2 rfl (hd.v 12 rfl rfl))) ?_
   refine sc (fun _ _ _ _ hd=>sv rfl (zbF (by decide) rfl (hd.v 13 rfl rfl))) ?_
   refine sc (fun _ _ S _ _=>sv rfl (zaf rfl (S.at 5 rfl))) ?_
   refine sc (fun _ _ S _ _=>sv rfl (zaf rfl (S.at 4 rfl))) ?_
   refine sc (fun _ _ _ _ hd=>sv rfl (zd7 (hR.el hlt hel).s hlt rfl (hd.v 15 rfl rfl) (hd.v 16 rfl rfl))) ?_
   refine sc (fun _ _ _ _ hd=>sv rfl (zc8 (zk8 (hR.el hlt hel).s) rfl (hd.v 17 rfl rfl))) ?_
   refine sc (fun _ _ _ _ hd=>sv rfl (zc8 zjm rfl (hd.v 18 rfl rfl))) ?_
   refine sc (fun _ _ _ _ hd=>sv rfl (zc8 (zjo (hR.el hlt hel).s) rfl (hd.v 19 rfl rfl))) ?_
   refine sc (fun _ _ S _ hd=>sv rfl (zid ((hR.below S.below).el hlt hel).c4 rfl (hd.v 20 rfl rfl))) ?_
   refine sc (fun _ _ _ _ hd=>sv rfl (zbF (by decide) rfl (hd.v 21 rfl rfl))) ?_
   refine sc (fun _ _ S _ _=>sv rfl (zaf rfl (S.at 5 rfl))) ?_
   refine sc (fun _ _ S _ _=>sv rfl (zaf rfl (S.at 4 rfl))) ?_
   refine sc (fun _ _ _ _ hd=>sv rfl (zd7 (hR.el hlt hel).s hlt rfl (hd.v 23 rfl rfl) (hd.v 24 rfl rfl))) ?_
   refine sc (fun _ _ _ _ hd=>sv rfl (zc8 (zk8 (hR.el hlt hel).s) rfl (hd.v 25 rfl rfl))) ?_
   refine sc (fun _ _ _ _ hd=>sv rfl (zc8 (zjn (hR.el hlt hel).s) rfl (hd.v 26 rfl rfl))) ?_
   refine sc (fun _ _ S _ hd=>sv rfl (zid ((hR.below S.below).el hlt hel).c5 rfl (hd.v 27 rfl rfl))) ?_
   refine sc (fun _ _ _ _ hd=>sv rfl (zbF (by decide) rfl (hd.v 28 rfl rfl))) ?_
   refine sc (fun _ _ _ _ hd=>sv rfl (zpK rfl (hd.v 7 rfl rfl) (hd.v 14 rfl rfl) (hd.v 22 rfl rfl) (hd.v 29 rfl rfl))) ?_
   refine sc (fun _ _ _ _ hd=>sv rfl (zc7 rfl (hd.v 30 rfl rfl) rfl)) ?_
   exact sn
  ·intro a2 V2 S hB hf
   have S:=S.add (hf.v 31 rfl rfl)
   clear hf S0
   show wpList _ _ _ [] _ _
   refine hK7 _ _ ?_
   rcases Bool.eq_false_or_eq_true (decide (3<((max (max (max xe.n ye.n) xe2.n) ye2.n:Nat):Int))) with hc41|hc41
   ·refine wp_cond_true ((S.at 0 rfl).trans (congrArg Value.bool hc41)) ?_
    refine wp_seq_k fun K8 hK8=>?_
    refine zac ?_
    refine tv S (zaK rfl) fun a S=>?_
    refine hK8 _ _ ?_
    refine wp_ret ?_
    exact zaU rfl S (S.at 0 rfl) ⟨_,rfl,congrArg Value.bool (zpJ hlt ((zjl hel).symm.trans hc41)).symm,S.below⟩
   ·refine wp_cond_false ((S.at 0 rfl).trans (congrArg Value.bool hc41)) ?_
    refine wp_skip ?_
    refine hK6 _ _ ?_
    refine zac ?_
    refine tv S (zaf rfl (S.at 5 rfl)) fun a S=>?_
    refine tv S (zeS (k:=k) (m:=1) rfl (S.at 0 rfl) rfl (by omega)) fun a S=>?_
    refine zbk S (v:= .int .i64 (((k+1:Nat):Int))) (zau rfl (S.at 0 rfl)) rfl rfl (by decide) (ls':=[(9,.int .i64 (((k+1:Nat):Int))),(8,.int .i64 (((k:Nat):Int))),(41,.bool (decide (3<((max (max (max xe.n ye.n) xe2.n) ye2.n:Nat):Int)))),(7,.bool (decide (((k:Nat):Int)<((l.length:Nat):Int)))),(6,.int .i64 (((l.length:Nat):Int))),(5,.slice A l.length c),(4,.int .i64 (((k:Nat):Int))),(0,.slice A l.length c)]) rfl (fun a S=>?_)
    have hI2:(l.take (k+1)).any (zgD 3)=false:=by rw [zoA hlt,hI,←zjl hel];exact hc41
    have S:=S.sel [0,8] rfl
    have S:=S.seln [] rfl
    have S:=S.reorder [] rfl (by decide)
    refine ⟨⟨k+1,hI2,hlt,S⟩,?_⟩
    have hm1:=S.at 0 rfl
    rw [hm0,hm1]
    simp only [intOf];omega
 ·refine wp_cond_false ((S.at 0 rfl).trans (congrArg Value.bool hc7)) ?_
  have hge:l.length≤k:=by have:=of_decide_eq_false hc7;omega
  refine wp_exit ?_
  refine hK2 _ _ ?_
  refine wp_seq_k fun K9 hK9=>?_
  refine zac ?_
  refine tv S (zaK rfl) fun a S=>?_
  refine hK9 _ _ ?_
  refine wp_ret ?_
  exact zaU rfl S (S.at 0 rfl) ⟨_,rfl,congrArg Value.bool (show false=zc3 l by unfold zc3;rw [List.take_of_length_le hge] at hI;exact hI.symm),S.below⟩
end Go.Proofs.YtafokgknenienaaGreatDoor
namespace Go.Proofs.YtafokgknenienaaGreatDoor
open Go Go.RowKit
variable {q q' q1 q1' q2 q2' q3 q3' r : Rat}
theorem zbG (q:Rat):(0≤q∧zay q=q)∨(q≤0∧zay q= -q):=by
 unfold zay
 by_cases h:q<0
 ·rw [if_pos h];exact .inr ⟨by grind,rfl⟩
 ·rw [if_neg h];exact .inl ⟨by grind,rfl⟩
theorem zhl (a b:Rat):zay (a - b)=zay (b - a):=by
 rcases zbG (a - b) with ⟨h1,h2⟩|⟨h1,h2⟩ <;> rcases zbG (b - a) with ⟨h3,h4⟩|⟨h3,h4⟩ <;> grind
theorem zjp (a b c:Rat):zay (b - a)≤zay (c - a)+zay (b - c):=by
 rcases zbG (b - a) with ⟨h1,h2⟩|⟨h1,h2⟩ <;> rcases zbG (c - a) with ⟨h3,h4⟩|⟨h3,h4⟩ <;> rcases zbG (b - c) with ⟨h5,h6⟩|⟨h5,h6⟩ <;> grind
theorem zfw (q:Rat):0≤zay q:=by
 rcases zbG q with ⟨h1,h2⟩|⟨h1,h2⟩ <;> grind
theorem zhm (h:zay q=0):q=0:=by
 rcases zbG q with ⟨h1,h2⟩|⟨h1,h2⟩ <;> grind
theorem zjq (h:0≤r) (q:Rat):zay (q*r)=zay q*r:=by
 rcases zbG q with ⟨h1,h2⟩|⟨h1,h2⟩
 ·have h3:=Rat.mul_nonneg h1 h
  rcases zbG (q*r) with ⟨h5,h6⟩|⟨h5,h6⟩ <;> grind
 ·have h3:=Rat.mul_nonneg (show 0≤ -q by grind) h
  have h7: -q*r= -(q*r):=by grind
  rw [h7] at h3
  rw [h2,h7]
  rcases zbG (q*r) with ⟨h5,h6⟩|⟨h5,h6⟩
  ·rw [h6];grind
  ·exact h6
theorem zbO {a b:Rat} (h:a=b):decide (zaA a b=0)=true:=decide_eq_true (ze3.2 (by grind))
theorem zla {a:Rat} (h:a=0):(!decide (zaA a 0=0))=false:=by rw [zbO h];rfl
theorem zcw {a b:Rat}:zaA a b=0↔a=b:=⟨fun h=>by have:=ze3.1 h;grind,fun h=>ze3.2 (by grind)⟩
theorem zjr:zcN q1 q1' q2 q2'=0↔q1=q2∧q1'=q2':=by
 unfold zcN
 by_cases h:zaA q1 q2=0
 ·rw [if_pos h,zcw];exact ⟨fun h2=>⟨zcw.1 h,h2⟩,fun h2=>h2.2⟩
 ·rw [if_neg h];exact ⟨fun h2=>absurd h2 h,fun h2=>absurd (zcw.2 h2.1) h⟩
theorem zcV (h:q1=q2) (h':q1'=q2'):decide (zcN q1 q1' q2 q2'=0)=true:=decide_eq_true (zjr.2 ⟨h,h'⟩)
theorem zpM:decide (zaA (zay (q3 - q1)+zay (q3' - q1')+(zay (q2 - q3)+zay (q2' - q3'))) (zay (q2 - q1)+zay (q2' - q1'))<0)=false:=by
 have h1:=zjp q1 q2 q3
 have h2:=zjp q1' q2' q3'
 have h3: ¬zay (q3 - q1)+zay (q3' - q1')+(zay (q2 - q3)+zay (q2' - q3'))<zay (q2 - q1)+zay (q2' - q1'):=by grind
 have:=of_decide_eq_true (zh3.2 h3)
 exact decide_eq_false (by omega)
theorem zoC:zay (q2 - q1)+zay (q2' - q1')=zay (q1 - q2)+zay (q1' - q2'):=by rw [zhl q2,zhl q2']
theorem zoD:(decide (zaA (zay (q2 - q1)+zay (q2' - q1')) 0=0) != decide (zcN q1 q1' q2 q2'=0))=false:=by
 have h1:=zfw (q2 - q1)
 have h2:=zfw (q2' - q1')
 have h:decide (zaA (zay (q2 - q1)+zay (q2' - q1')) 0=0)=decide (zcN q1 q1' q2 q2'=0):=by
  refine decide_eq_decide.2 ?_
  rw [zcw,zjr]
  constructor
  ·intro h
   have h3:=zhm (show zay (q2 - q1)=0 by grind)
   have h4:=zhm (show zay (q2' - q1')=0 by grind)
   exact ⟨by grind,by grind⟩
  ·rintro ⟨rfl,rfl⟩
   rw [show q1 - q1=0 by grind,show q1' - q1'=0 by grind]
   decide+kernel
 rw [h];simp
theorem zjs (h:0≤r) (h':r≤1) (a b:Rat):zay (a+(b - a)*r - a)+zay (b - (a+(b - a)*r))=zay (b - a):=by
 rw [show a+(b - a)*r - a=(b - a)*r by grind,show b - (a+(b - a)*r)=(b - a)*(1 - r) by grind,zjq h,zjq (show 0≤1 - r by grind)]
 grind
theorem zpN (h:decide (0≤zaA r 0)=true) (h':decide (zaA r ((1:Int):Rat)≤0)=true):zay (q1+(q2 - q1)*r - q1)+zay (q1'+(q2' - q1')*r - q1')+(zay (q2 - (q1+(q2 - q1)*r))+zay (q2' - (q1'+(q2' - q1')*r)))=zay (q2 - q1)+zay (q2' - q1'):=by
 have h1:0≤r:=Rat.not_lt.1 (zh3.1 h)
 have h2:r≤1:=zpj.1 (of_decide_eq_true h')
 have a1:=zjs h1 h2 q1 q2
 have a2:=zjs h1 h2 q1' q2'
 grind
theorem zeU {p0 p1 p2:PEl} (h:zc3 [p0,p1,p2]=false):zgD 3 p0=false∧zgD 3 p1=false∧zgD 3 p2=false:=by simpa [zc3] using h
theorem zcc {m:Nat} {p:PEl} (h:zgD m p=false):p.2.1.n≤m∧p.2.2.1.n≤m∧p.2.2.2.2.1.n≤m∧p.2.2.2.2.2.n≤m:=by
 simp only [zgD,Bool.or_eq_false_iff,decide_eq_false_iff_not] at h
 omega
theorem zd8 {ps:List PEl} {G:Bool} {v:Value} {V:World} (h:GP ps v V) (hG:zc3 ps=G):Calls Tryz.prog 75 #[v] V (zak V fun v _=>v= .bool G):=by
 obtain ⟨A,c,rfl,hR,hl,-⟩:=h
 rw [←hG]
 exact zq5 hR hl
end Go.Proofs.YtafokgknenienaaGreatDoor
