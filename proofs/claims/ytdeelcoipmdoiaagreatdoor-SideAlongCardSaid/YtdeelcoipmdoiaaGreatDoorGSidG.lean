/- A part. -/
import Derived.Test.YtdeelcoipmdoiaaGreatDoorGVVecB
import Derived.Test.YtdeelcoipmdoiaaGreatDoorGSidT
set_option maxHeartbeats 4000000
set_option maxRecDepth 100000
namespace Go.Proofs.YtdeelcoipmdoiaaGreatDoor
open Go Go.RowKit
section
variable {q1 q1' q2 q2' q3 q3':Rat}
structure SmS (q1 q1' q2 q2' q3 q3':Rat):Prop where
 d1:Sm 349 (q2 - q1)
 d1':Sm 349 (q2' - q1')
 d2:Sm 349 (q3 - q1)
 d2':Sm 349 (q3' - q1')
 p1:Sm 349 ((q2 - q1)*(q3' - q1'))
 p2:Sm 349 ((q2' - q1')*(q3 - q1))
 c:Sm 349 ((q2 - q1)*(q3' - q1') - (q2' - q1')*(q3 - q1))
end
section
variable {V:World}{a:Act}{o:Oper}{t1 t2:Tmp}{A:Option Addr}{c k hi:Nat}{l:List PEl}
end
def szP (p:PEl):Nat:=p.2.1.n+p.2.2.1.n+p.2.2.2.2.1.n+p.2.2.2.2.2.n
def zj6 (l:List PEl):Nat:=(l.map fun p=>min (szP p) 1000).sum
def zch (l:List PEl):Bool:=decide (20<l.length)||decide (80<zj6 (l.take 21))
theorem znv {l:List PEl}{k:Nat}{b b':Bool}{x y x' y':Num}(hk:k<l.length)(h:l[k]=(b,x,y,b',x',y')):zj6 (l.take (k+1))=zj6 (l.take k)+min (x.n+y.n+x'.n+y'.n) 1000:=by
 unfold zj6
 rw[List.take_succ_eq_append_getElem hk,List.map_append,List.sum_append,h]
 simp[szP]
theorem zpJ {l:List PEl}{b:Bool}(h:decide ((20:Int)<((l.length:Nat):Int))=b):decide (20<l.length)=b:=by rw[←h];exact decide_eq_decide.2 (by omega)
theorem zgQ {l:List PEl}(h:decide ((20:Int)<((l.length:Nat):Int))=true):true=zch l:=by unfold zch;rw[zpJ h];rfl
theorem PRds.bounds {V:World}{hi:Nat}{A:Option Addr}{l:List PEl}{k:Nat}{b b':Bool}{x y x' y':Num}(h:PRds V hi A l)(hk:k<l.length)(hel:l[k]=(b,x,y,b',x',y')):(x.n≤35184372087808∧y.n≤35184372087808)∧x'.n≤35184372087808∧y'.n≤35184372087808:=by
 obtain⟨⟨h1,h2⟩,h3,h4⟩:=h.oks hk hel
 exact⟨⟨h1.2.2.2,h2.2.2.2⟩,h3.2.2.2,h4.2.2.2⟩
section
variable {a:Act}{V:World}{o:Oper}{t1 t2 t3 t4:Tmp}{k:Nat}
theorem zra (ho:o.op= .call { callee:= .builtin .min,args:= #[.tmp t1,.const (.int .i64 1000)],argTypes:= #[3,3] }) (h1:a.tmps.getD t1 undef= .int .i64 (k:Nat)):(execOp a.eval o).run Tryz.prog V= .ok (.value (.int .i64 ((min k 1000:Nat):Int))) V:=by
 have e:min (k:Int) 1000=((min k 1000:Nat):Int):=by omega
 rw[zae]at h1
 obtain⟨dst,op,ty,pos,after,guard⟩:=o
 simp only at ho
 subst ho
 go_simp
end
theorem zrb {A:Option Addr}{c:Nat}{l:List PEl}{V:World}(hR:PRds V V.heap.size A l)(hll:l.length≤100000000000000):
  Calls Tryz.prog 7 #[.slice A l.length c] V (zal V (fun v _=>v= .bool (zch l))):=by
 refine zav (e:=[]) Tryz.func7 rfl Tryz.ntmps7 (zt2 rfl) [(0,.slice A l.length c)] rfl zaN (fun a S=>?_)
 refine wp_seq_k fun K1 hK1=>?_
 refine zab ?_
 refine tv S (zaq rfl) fun a S=>?_
 refine hK1 _ _ ?_
 refine wp_seq_k fun K2 hK2=>?_
 refine zab ?_
 refine tv S (zaq rfl) fun a S=>?_
 refine hK2 _ _ ?_
 refine wp_seq_k fun K3 hK3=>?_
 refine wp_seq_k fun K4 hK4=>?_
 refine zab ?_
 refine tv S (zaq rfl) fun a S=>?_
 refine hK4 _ _ ?_
 refine wp_block ?_
 have S:=S.keep [4,3,0] (ls':=[(4,.int .i64 0),(3,.int .i64 0),(0,.slice A l.length c)]) rfl
 have S:=S.sel [0,1,2] rfl
 have S:=S.seln [] rfl
 have S:=S.reorder [] rfl (by decide)
 refine wp_loop (fun aI VI=>∃(k:Nat) (s:Nat),(s=zj6 (l.take k))∧(k≤l.length)∧(k≤21)∧(s≤k*1000)∧Frm 58 [(4,.int .i64 (((k:Nat):Int))),(3,.int .i64 (((s:Nat):Int))),(0,.slice A l.length c)] [] V [] aI VI) (fun aI _=>(21) - (intOf (aI.tmps.getD 4 undef)).toNat) ⟨0,0,rfl,Nat.zero_le _,(by decide),(by decide),S⟩ ?_
 rintro a1 V1 ⟨k,s,hI,hkl,hk6,hs6,S⟩
 have hm0:a1.tmps.getD 4 undef= .int .i64 (((k:Nat):Int)):=S.at 0 rfl
 refine wp_seq_k fun K5 hK5=>?_
 refine wp_seq_k fun K6 hK6=>?_
 rcases zuc (decide (((k:Nat):Int)<((l.length:Nat):Int)))with hs2_|hs2_
 ·skip
  have hlt:k<l.length:=by have:=of_decide_eq_true hs2_;omega
  obtain⟨be,xe,ye,be2,xe2,ye2,hel⟩:∃b x y b' x' y',l[k]=(b,x,y,b',x',y'):=⟨_,_,_,_,_,_,rfl⟩
  obtain⟨⟨hea,heb⟩,hec,hed⟩:=hR.oks hlt hel
  have S:=S.know (hea.later S.below)
  have S:=S.know (heb.later S.below)
  have S:=S.know (hec.later S.below)
  have S:=S.know (hed.later S.below)
  refine zab ?_
  refine tv S (zac rfl (S.at 0 rfl)) fun a S=>?_
  refine tv S (zac rfl (S.at 3 rfl)) fun a S=>?_
  refine tv S (zbH rfl (S.at 0 rfl)) fun a S=>?_
  refine tv S (za5 (zcG rfl (S.at 2 rfl) (S.at 0 rfl)) (show(decide (((k:Nat):Int)<((l.length:Nat):Int)))=true from hs2_)) fun a S=>?_
  refine tv S (zac rfl (S.at 0 rfl)) fun a S=>?_
  refine tvg S (S.at 0 rfl) (zac rfl (S.at 5 rfl)) fun a S=>?_
  refine tvg S (S.at 1 rfl) (zsh rfl (S.at 0 rfl) rfl) fun a S=>?_
  refine tv S (zaP true rfl (S.at 2 rfl) (S.at 0 rfl)) fun a S=>?_
  refine hK6 _ _ ?_
  rcases zuc (decide (((k:Nat):Int)≤20))with hc12|hc12
  ·refine wp_cond_true ((S.at 0 rfl).trans (congrArg Value.bool hc12)) ?_
   have hk20:k≤20:=by have:=of_decide_eq_true hc12;omega
   refine wp_skip ?_
   refine hK5 _ _ ?_
   refine wp_seq_k fun K7 hK7=>?_
   refine wp_block ?_
   have hb9:=(hR.bounds hlt hel)
   have S:=S.keep [4,3,0] (ls':=[(4,.int .i64 (((k:Nat):Int))),(3,.int .i64 (((s:Nat):Int))),(0,.slice A l.length c)]) rfl
   obtain⟨W1,hW1⟩:∃W,W=V1:=⟨_,rfl⟩
   rw[←hW1]at S ⊢
   have S0:=S
   refine fr 36 [15,16,17,18,19,20,21,22,23,24,25,26,27,28,29,30,31,32,33,34,35,36,37,38,39,40,41,42,43,44,45,46,47,48,49,50] [IsV (.int .i64 (((s:Nat):Int))),IsV (.slice A l.length c),IsV (.int .i64 (((k:Nat):Int))),IsV (.pointer (some (zbh A (k*6)))),IsV (.pointer (some (zbh A (k*6)))),IsV (.pointer (some (zbh A (k*6)))),IsV (.pointer (some (zbh A (k*6+1)))),IsV (aS xe),IsV (.int .i64 (((xe.n:Nat):Int))),IsV (.slice A l.length c),IsV (.int .i64 (((k:Nat):Int))),IsV (.pointer (some (zbh A (k*6)))),IsV (.pointer (some (zbh A (k*6)))),IsV (.pointer (some (zbh A (k*6+2)))),IsV (aS ye),IsV (.int .i64 (((ye.n:Nat):Int))),IsV (.int .i64 (((xe.n+ye.n:Nat):Int))),IsV (.slice A l.length c),IsV (.int .i64 (((k:Nat):Int))),IsV (.pointer (some (zbh A (k*6)))),IsV (.pointer (some (zbh A (k*6+3)))),IsV (.pointer (some (zbh A (k*6+3)))),IsV (.pointer (some (zbh A (k*6+3+1)))),IsV (aS xe2),IsV (.int .i64 (((xe2.n:Nat):Int))),IsV (.int .i64 ((((xe.n+ye.n)+xe2.n:Nat):Int))),IsV (.slice A l.length c),IsV (.int .i64 (((k:Nat):Int))),IsV (.pointer (some (zbh A (k*6)))),IsV (.pointer (some (zbh A (k*6+3)))),IsV (.pointer (some (zbh A (k*6+3+2)))),IsV (aS ye2),IsV (.int .i64 (((ye2.n:Nat):Int))),IsV (.int .i64 (((((xe.n+ye.n)+xe2.n)+ye2.n:Nat):Int))),IsV (.int .i64 (((min (((xe.n+ye.n)+xe2.n)+ye2.n) 1000:Nat):Int))),IsV (.int .i64 (((s+(min (((xe.n+ye.n)+xe2.n)+ye2.n) 1000):Nat):Int)))] S ?_ ?_
   ·refine sc (fun _ _ S _ _=>sv rfl (zac rfl (S.at 1 rfl))) ?_
    refine sc (fun _ _ S _ _=>sv rfl (zac rfl (S.at 2 rfl))) ?_
    refine sc (fun _ _ S _ _=>sv rfl (zac rfl (S.at 0 rfl))) ?_
    refine sc (fun _ _ _ _ hd=>sv rfl (zcr (hR.el hlt hel).s hlt rfl (hd.v 1 rfl rfl) (hd.v 2 rfl rfl))) ?_
    refine sc (fun _ _ _ _ hd=>sv rfl (zdv zmd rfl (hd.v 3 rfl rfl))) ?_
    refine sc (fun _ _ _ _ hd=>sv rfl (zdv zke rfl (hd.v 4 rfl rfl))) ?_
    refine sc (fun _ _ _ _ hd=>sv rfl (zdv (zkg (hR.el hlt hel).s) rfl (hd.v 5 rfl rfl))) ?_
    refine sc (fun _ _ S _ hd=>sv rfl (ziZ ((hR.below S.below).el hlt hel).c1 rfl (hd.v 6 rfl rfl))) ?_
    refine sc (fun _ _ _ _ hd=>sv rfl (zca (by decide) rfl (hd.v 7 rfl rfl))) ?_
    refine sc (fun _ _ S _ _=>sv rfl (zac rfl (S.at 2 rfl))) ?_
    refine sc (fun _ _ S _ _=>sv rfl (zac rfl (S.at 0 rfl))) ?_
    refine sc (fun _ _ _ _ hd=>sv rfl (zcr (hR.el hlt hel).s hlt rfl (hd.v 9 rfl rfl) (hd.v 10 rfl rfl))) ?_
    refine sc (fun _ _ _ _ hd=>sv rfl (zdv zmd rfl (hd.v 11 rfl rfl))) ?_
    refine sc (fun _ _ _ _ hd=>sv rfl (zdv (zkf (hR.el hlt hel).s) rfl (hd.v 12 rfl rfl))) ?_
    refine sc (fun _ _ S _ hd=>sv rfl (ziZ ((hR.below S.below).el hlt hel).c2 rfl (hd.v 13 rfl rfl))) ?_
    refine sc (fun _ _ _ _ hd=>sv rfl (zca (by decide) rfl (hd.v 14 rfl rfl))) ?_
    refine sc (fun _ _ _ _ hd=>sv rfl (zbE (k:=xe.n) (m:=ye.n) rfl (hd.v 8 rfl rfl) (hd.v 15 rfl rfl) (by omega))) ?_
    refine sc (fun _ _ S _ _=>sv rfl (zac rfl (S.at 2 rfl))) ?_
    refine sc (fun _ _ S _ _=>sv rfl (zac rfl (S.at 0 rfl))) ?_
    refine sc (fun _ _ _ _ hd=>sv rfl (zcr (hR.el hlt hel).s hlt rfl (hd.v 17 rfl rfl) (hd.v 18 rfl rfl))) ?_
    refine sc (fun _ _ _ _ hd=>sv rfl (zdv (zme (hR.el hlt hel).s) rfl (hd.v 19 rfl rfl))) ?_
    refine sc (fun _ _ _ _ hd=>sv rfl (zdv zke rfl (hd.v 20 rfl rfl))) ?_
    refine sc (fun _ _ _ _ hd=>sv rfl (zdv (zkg (hR.el hlt hel).s) rfl (hd.v 21 rfl rfl))) ?_
    refine sc (fun _ _ S _ hd=>sv rfl (ziZ ((hR.below S.below).el hlt hel).c4 rfl (hd.v 22 rfl rfl))) ?_
    refine sc (fun _ _ _ _ hd=>sv rfl (zca (by decide) rfl (hd.v 23 rfl rfl))) ?_
    refine sc (fun _ _ _ _ hd=>sv rfl (zbE (k:=xe.n+ye.n) (m:=xe2.n) rfl (hd.v 16 rfl rfl) (hd.v 24 rfl rfl) (by omega))) ?_
    refine sc (fun _ _ S _ _=>sv rfl (zac rfl (S.at 2 rfl))) ?_
    refine sc (fun _ _ S _ _=>sv rfl (zac rfl (S.at 0 rfl))) ?_
    refine sc (fun _ _ _ _ hd=>sv rfl (zcr (hR.el hlt hel).s hlt rfl (hd.v 26 rfl rfl) (hd.v 27 rfl rfl))) ?_
    refine sc (fun _ _ _ _ hd=>sv rfl (zdv (zme (hR.el hlt hel).s) rfl (hd.v 28 rfl rfl))) ?_
    refine sc (fun _ _ _ _ hd=>sv rfl (zdv (zkf (hR.el hlt hel).s) rfl (hd.v 29 rfl rfl))) ?_
    refine sc (fun _ _ S _ hd=>sv rfl (ziZ ((hR.below S.below).el hlt hel).c5 rfl (hd.v 30 rfl rfl))) ?_
    refine sc (fun _ _ _ _ hd=>sv rfl (zca (by decide) rfl (hd.v 31 rfl rfl))) ?_
    refine sc (fun _ _ _ _ hd=>sv rfl (zbE (k:=(xe.n+ye.n)+xe2.n) (m:=ye2.n) rfl (hd.v 25 rfl rfl) (hd.v 32 rfl rfl) (by omega))) ?_
    refine sc (fun _ _ _ _ hd=>sv rfl (zra (k:=((xe.n+ye.n)+xe2.n)+ye2.n) rfl (hd.v 33 rfl rfl))) ?_
    refine sc (fun _ _ _ _ hd=>sv rfl (zbE (k:=s) (m:=min (((xe.n+ye.n)+xe2.n)+ye2.n) 1000) rfl (hd.v 0 rfl rfl) (hd.v 34 rfl rfl) (by omega))) ?_
    exact sn
   ·intro a2 V2 S hB hf
    have S:=S.add (hf.v 35 rfl rfl)
    clear hf S0
    show wpList _ _ _ [_] _ _
    refine zaS S (v:= .int .i64 (((s+(min (((xe.n+ye.n)+xe2.n)+ye2.n) 1000):Nat):Int))) (zag rfl (S.at 0 rfl)) rfl rfl (by decide) (ls':=[(50,.int .i64 (((s+(min (((xe.n+ye.n)+xe2.n)+ye2.n) 1000):Nat):Int))),(4,.int .i64 (((k:Nat):Int))),(0,.slice A l.length c)]) rfl (fun a S=>?_)
    refine hK7 _ _ ?_
    refine zab ?_
    refine tv S (zac rfl (S.at 2 rfl)) fun a S=>?_
    refine tv S (zbE (k:=k) (m:=1) rfl (S.at 0 rfl) rfl (by omega)) fun a S=>?_
    refine zaS S (v:= .int .i64 (((k+1:Nat):Int))) (zag rfl (S.at 0 rfl)) rfl rfl (by decide) (ls':=[(14,.int .i64 (((k+1:Nat):Int))),(13,.int .i64 (((k:Nat):Int))),(3,.int .i64 (((s+(min (((xe.n+ye.n)+xe2.n)+ye2.n) 1000):Nat):Int))),(50,.int .i64 (((s+(min (((xe.n+ye.n)+xe2.n)+ye2.n) 1000):Nat):Int))),(0,.slice A l.length c)]) rfl (fun a S=>?_)
    have hI2:s+min (xe.n+ye.n+xe2.n+ye2.n) 1000=zj6 (l.take (k+1)):=by rw[hI];exact(znv hlt hel).symm
    have S:=S.sel [0,3,5] rfl
    have S:=S.seln [] rfl
    have S:=S.reorder [] rfl (by decide)
    refine⟨⟨k+1,s+min (xe.n+ye.n+xe2.n+ye2.n) 1000,hI2,hlt,(by have:=of_decide_eq_true hc12;omega),(by omega),S⟩,?_⟩
    have hm1:=S.at 0 rfl
    rw[hm0,hm1]
    simp only[intOf];omega
  ·refine wp_cond_false ((S.at 0 rfl).trans (congrArg Value.bool hc12)) ?_
   have hend:l.take 21=l.take k:=by have:=of_decide_eq_false hc12;rw[show k=21 by omega]
   refine wp_exit ?_
   refine hK3 _ _ ?_
   refine wp_seq_k fun K8 hK8=>?_
   rcases zuc (decide ((20:Int)<((l.length:Nat):Int)))with hs6_|hs6_
   ·skip
    refine zab ?_
    refine tv S (zac rfl (S.at 10 rfl)) fun a S=>?_
    refine tv S (zbH rfl (S.at 0 rfl)) fun a S=>?_
    refine tv S (za5 (zbS rfl (S.at 0 rfl) rfl) (show(decide (20<((l.length:Nat):Int)))=true from hs6_)) fun a S=>?_
    refine tv S (zac rfl (S.at 0 rfl)) fun a S=>?_
    refine tk S (S.at 0 rfl) fun a S=>?_
    refine tk S (S.at 1 rfl) fun a S=>?_
    refine tv S (zaP true rfl (S.at 2 rfl) rfl) fun a S=>?_
    refine tv S (zag rfl (S.at 0 rfl)) fun a S=>?_
    refine hK8 _ _ ?_
    refine wp_ret ?_
    exact zaE rfl S (S.at 0 rfl) ⟨_,rfl,congrArg Value.bool (zgQ hs6_),S.below⟩
   ·skip
    refine zab ?_
    refine tv S (zac rfl (S.at 10 rfl)) fun a S=>?_
    refine tv S (zbH rfl (S.at 0 rfl)) fun a S=>?_
    refine tv S (za5 (zbS rfl (S.at 0 rfl) rfl) (show(decide (20<((l.length:Nat):Int)))=false from hs6_)) fun a S=>?_
    refine tv S (zac rfl (S.at 0 rfl)) fun a S=>?_
    refine tvg S (S.at 0 rfl) (zac rfl (S.at 13 rfl)) fun a S=>?_
    refine tvg S (S.at 1 rfl) (zbS rfl (S.at 0 rfl) rfl) fun a S=>?_
    refine tv S (zaP false rfl (S.at 2 rfl) (S.at 0 rfl)) fun a S=>?_
    refine tv S (zag rfl (S.at 0 rfl)) fun a S=>?_
    refine hK8 _ _ ?_
    refine wp_ret ?_
    exact zaE rfl S (S.at 0 rfl) ⟨_,rfl,congrArg Value.bool (show _=zch l by unfold zch;rw[zpJ hs6_,hend,←hI,Bool.false_or];exact decide_eq_decide.2 (by omega)),S.below⟩
 ·skip
  have hge:l.length≤k:=by have:=of_decide_eq_false hs2_;omega
  have hend:l.take 21=l.take k:=by rw[List.take_of_length_le hge,List.take_of_length_le (by omega)]
  refine zab ?_
  refine tv S (zac rfl (S.at 0 rfl)) fun a S=>?_
  refine tv S (zac rfl (S.at 3 rfl)) fun a S=>?_
  refine tv S (zbH rfl (S.at 0 rfl)) fun a S=>?_
  refine tv S (za5 (zcG rfl (S.at 2 rfl) (S.at 0 rfl)) (show(decide (((k:Nat):Int)<((l.length:Nat):Int)))=false from hs2_)) fun a S=>?_
  refine tv S (zac rfl (S.at 0 rfl)) fun a S=>?_
  refine tk S (S.at 0 rfl) fun a S=>?_
  refine tk S (S.at 1 rfl) fun a S=>?_
  refine tv S (zaP false rfl (S.at 2 rfl) rfl) fun a S=>?_
  refine hK6 _ _ ?_
  refine wp_cond_false (S.at 0 rfl) ?_
  refine wp_exit ?_
  refine hK3 _ _ ?_
  refine wp_seq_k fun K9 hK9=>?_
  rcases zuc (decide ((20:Int)<((l.length:Nat):Int)))with hs6_|hs6_
  ·skip
   refine zab ?_
   refine tv S (zac rfl (S.at 10 rfl)) fun a S=>?_
   refine tv S (zbH rfl (S.at 0 rfl)) fun a S=>?_
   refine tv S (za5 (zbS rfl (S.at 0 rfl) rfl) (show(decide (20<((l.length:Nat):Int)))=true from hs6_)) fun a S=>?_
   refine tv S (zac rfl (S.at 0 rfl)) fun a S=>?_
   refine tk S (S.at 0 rfl) fun a S=>?_
   refine tk S (S.at 1 rfl) fun a S=>?_
   refine tv S (zaP true rfl (S.at 2 rfl) rfl) fun a S=>?_
   refine tv S (zag rfl (S.at 0 rfl)) fun a S=>?_
   refine hK9 _ _ ?_
   refine wp_ret ?_
   exact zaE rfl S (S.at 0 rfl) ⟨_,rfl,congrArg Value.bool (zgQ hs6_),S.below⟩
  ·skip
   refine zab ?_
   refine tv S (zac rfl (S.at 10 rfl)) fun a S=>?_
   refine tv S (zbH rfl (S.at 0 rfl)) fun a S=>?_
   refine tv S (za5 (zbS rfl (S.at 0 rfl) rfl) (show(decide (20<((l.length:Nat):Int)))=false from hs6_)) fun a S=>?_
   refine tv S (zac rfl (S.at 0 rfl)) fun a S=>?_
   refine tvg S (S.at 0 rfl) (zac rfl (S.at 13 rfl)) fun a S=>?_
   refine tvg S (S.at 1 rfl) (zbS rfl (S.at 0 rfl) rfl) fun a S=>?_
   refine tv S (zaP false rfl (S.at 2 rfl) (S.at 0 rfl)) fun a S=>?_
   refine tv S (zag rfl (S.at 0 rfl)) fun a S=>?_
   refine hK9 _ _ ?_
   refine wp_ret ?_
   exact zaE rfl S (S.at 0 rfl) ⟨_,rfl,congrArg Value.bool (show _=zch l by unfold zch;rw[zpJ hs6_,hend,←hI,Bool.false_or];exact decide_eq_decide.2 (by omega)),S.below⟩
theorem zfo {ps:List PEl}{G:Bool}{v:Value}{V:World}(h:GP ps v V)(hG:zch ps=G):Calls Tryz.prog 7 #[v] V (zal V fun v _=>v= .bool G):=by
 obtain⟨A,c,rfl,hR,hl,-⟩:=h
 rw[←hG]
 exact zrb hR hl
section
variable {b:Bool}{x y:Num}{q a a' c c' p p':Rat}{V:World}{k0 k0' k1 k1' k2 k2':Nat}
theorem smq (h:qOf b x.N y.N=q)(ox:x.ok V V.heap.size)(oy:y.ok V V.heap.size):Sm (max 1 (x.n+y.n)) q:=by
 have:=Q1.sm (V:=V) (K:=x.n+y.n) ⟨b,x,y,rfl,h,by omega,by omega,ox,oy⟩
 rwa [Nat.max_comm]at this
theorem sm0 {k:Nat}(h:1≤k):Sm k 0:=zlZ.mono h
theorem ziR {l:List PEl}(h:zch l=false):l.length≤20∧(l.map szP).sum≤80:=by
 unfold zch at h
 rw[Bool.or_eq_false_iff]at h
 have h2:l.length≤20:=by have:=of_decide_eq_false h.1;omega
 have h3:=of_decide_eq_false h.2
 rw[List.take_of_length_le (by omega)]at h3
 refine⟨h2,?_⟩
 have key:∀l:List PEl,zj6 l≤80→(l.map szP).sum≤80:=by
  intro l
  induction l with
  |nil=>intro _;decide
  |cons p l ih=>
   unfold zj6
   simp only[List.map_cons,List.sum_cons]
   intro h
   have h4:(l.map szP).sum=(l.map fun p=>min (szP p) 1000).sum:=by
    have:∀l:List PEl,(l.map fun p=>min (szP p) 1000).sum≤80→(l.map szP).sum=(l.map fun p=>min (szP p) 1000).sum:=by
     intro l
     induction l with
     |nil=>intro _;rfl
     |cons q l ih2=>
      simp only[List.map_cons,List.sum_cons]
      intro h
      rw[ih2 (by omega)]
      omega
    exact this l (by omega)
   omega
 exact key l (by omega)
def sX (p:PEl):Nat:=max 1 (p.2.1.n+p.2.2.1.n)
def sY (p:PEl):Nat:=max 1 (p.2.2.2.2.1.n+p.2.2.2.2.2.n)
theorem okP.sm {p:PEl}(h:okP V p):Sm (sX p) (pv p).1∧Sm (sY p) (pv p).2:=⟨smq rfl h.1.1 h.1.2,smq rfl h.2.1 h.2.2⟩
theorem znw {K:Nat}{l:List PEl}(hok:∀p∈l,okP V p)(hK:∀p∈l,zbY K p)(hKb:K≤50):Smd 250 l:=by
 intro p hp q hq
 obtain⟨m1,m1'⟩:=(hok _ hp).sm
 obtain⟨m2,m2'⟩:=(hok _ hq).sm
 obtain⟨⟨a1,a2⟩,a3,a4⟩:=hK _ hp
 obtain⟨⟨b1,b2⟩,b3,b4⟩:=hK _ hq
 unfold sX at m1 m2
 unfold sY at m1' m2'
 exact⟨(m2.sub m1).mono (by omega),(m2'.sub m1').mono (by omega)⟩
end
def IEl (z:Int)(v:Value)(V:World):Prop:=∃p:Addr,v= .pointer (some p)∧p.block<V.heap.size∧V.cell? p=some (.int .i64 z)
section
variable {V V':World}{v v1:Value}{z:Int}{L:List Int}{a:Act}{o:Oper}{t1:Tmp}
theorem IEl.keep (h:IEl z v V)(hb:Below V.heap.size V V'):IEl z v V':=by
 obtain⟨p,h1,h2,h3⟩:=h
 exact⟨p,h1,zt6 h2 hb.size,(hb.cell h2).trans h3⟩
instance:Keeps (IEl z):=⟨fun h hb=>IEl.keep h hb⟩
theorem ztB (h:IRow L v V){i:Nat}(hi:i<L.length):∃(A:Option Addr) (ad:Addr) (n c:Nat),v= .slice A n c∧A=some ad∧i<n∧IEl L[i] (.pointer (some (ad.add i))) V:=by
 obtain⟨A,c,h1,h2,h3⟩:=h
 obtain⟨ad,e,h4,h5⟩:=h3 i hi
 exact⟨A,ad,_,c,h1,e,hi,_,rfl,by rw[zaK];exact h4,h5⟩
theorem zpK {n:Nat}(h:IRow L v1 V)(hn:L.length=n)(ho:o.op= .call { callee:= .builtin .len,args:= #[.tmp t1],argTypes:= #[36] }) (hv:a.tmps.getD t1 undef=v1):(execOp a.eval o).run Tryz.prog V= .ok (.value (.int .i64 ((n:Nat):Int))) V:=by
 obtain⟨A,c,rfl,-⟩:=h
 subst hn
 exact zrf ho hv
theorem zl6 {p:Addr}(hc:V.cell? p=some (.int .i64 z))(ho:o.op= .load 3 (.tmp t1)) (h1:a.tmps.getD t1 undef= .pointer (some p)):(execOp a.eval o).run Tryz.prog V= .ok (.value (.int .i64 z)) V:=by
 rw[zae]at h1
 obtain⟨dst,op,ty,pos,after,guard⟩:=o
 simp only at ho
 subst ho
 go_simp
end
section
variable {V:World}{v:Value}{ps:List PEl}{p0 p1 p2:PEl}{K:Nat}
theorem GP.oks (h:GP ps v V):∀p∈ps,okP V p:=by
 obtain⟨A,c,-,hR,-⟩:=h
 exact fun p hp=>hR.mem hp
theorem zsI:zdG [p0,p1,p2]=[zan (cz (pv p2) (pv p0) (pv p1)) 0,zan (cz (pv p0) (pv p1) (pv p2)) 0,zan (cz (pv p1) (pv p2) (pv p0)) 0]:=by
 unfold zdG
 rw[show zc1 [p0,p1,p2]=3 by simp[zc1]]
 simp[zbF,czC,el,List.range_succ]
theorem znx {a:Act}{o:Oper}{t1 t2 t3:Tmp}{v1 v2 v3:Value}{q1 q1' q2 q2' q3 q3':Rat}(hop:o.op= .buildSlice 30 3 #[(0,.tmp t1),(1,.tmp t2),(2,.tmp t3)]) (h1:a.tmps.getD t1 undef=v1) (h2:a.tmps.getD t2 undef=v2) (h3:a.tmps.getD t3 undef=v3) (r1:P1 K q1 q1' v1 V) (r2:P1 K q2 q2' v2 V) (r3:P1 K q3 q3' v3 V):
  zfD o a V (PRow K [(q1,q1'),(q2,q2'),(q3,q3')]):=by
 obtain⟨b0,x0,y0,d0,z0,w0,rfl,e0,e0',k0,k0',⟨o1,o2⟩,o3,o4⟩:=r1
 obtain⟨b1,x1,y1,d1,z1,w1,rfl,e1,e1',k1,k1',⟨p1,p2⟩,p3,p4⟩:=r2
 obtain⟨b2,x2,y2,d2,z2,w2,rfl,e2,e2',k2,k2',⟨s1,s2⟩,s3,s4⟩:=r3
 obtain⟨v,V',h4,h5,h6⟩:=zek (V:=V) hop h1 h2 h3 o1 o2 o3 o4 p1 p2 p3 p4 s1 s2 s3 s4
 refine⟨v,V',h4,h5.row (fun p hp=>?_) (by simp) (by simp[pv,e0,e0',e1,e1',e2,e2']),h6⟩
 simp only[List.mem_cons,List.not_mem_nil,or_false]at hp
 rcases hp with rfl|rfl|rfl
 ·exact⟨k0,k0'⟩
 ·exact⟨k1,k1'⟩
 ·exact⟨k2,k2'⟩
theorem zpL {l:List PEl}(h:l.length=3):∃p0 p1 p2,l=[p0,p1,p2]:=by
 rcases l with _|⟨p0,_|⟨p1,_|⟨p2,_|⟨p3,l⟩⟩⟩⟩
 ·simp at h
 ·simp at h
 ·simp at h
 ·exact⟨_,_,_,rfl⟩
 ·simp at h
theorem zrc (T:TT V)(h:PRow 2 [(((0:Int):Rat),((0:Int):Rat)),(((2:Int):Rat),((0:Int):Rat)),(((1:Int):Rat),((1:Int):Rat))] v V):Calls Tryz.prog 13 #[v] V (zal V (IRow [1,1,1])):=by
 obtain⟨A,c,l,rfl,hR,hq,hK,hl,-⟩:=h
 have h1:=callsIn_wide.1 (zrg (c:=c) T hR hl hK (by decide) (znw (fun p hp=>hR.mem hp) hK (by decide)))
 have e:zdG l=[1,1,1]:=by
  obtain⟨p0,p1,p2,rfl⟩:=zpL (show l.length=3 by simpa using congrArg List.length hq)
  simp only[List.map_cons,List.map_nil,List.cons.injEq,and_true]at hq
  obtain⟨e0,e1,e2⟩:=hq
  rw[zsI,e0,e1,e2]
  decide+kernel
 rw[e]at h1
 exact h1
end
theorem zgg {V:World}(T:TT V):
  Calls Tryz.prog 9 #[] V (zal V (fun v _=>v= .bool true)):=by
 refine zav (e:=[]) Tryz.func9 rfl Tryz.ntmps9 (zt2 rfl) [] rfl zaN (fun a S=>?_)
 refine wp_seq_k fun K1 hK1=>?_
 refine zab ?_
 refine tv S (zaq rfl) fun a S=>?_
 refine hK1 _ _ ?_
 refine wp_seq_k fun K2 hK2=>?_
 refine zab ?_
 refine tc S (F:=PT 2 (((0:Int):Rat)) (((0:Int):Rat))) (zk5 Tryz.func34) (zly (n:=0) (m:=0) (by decide)) fun v a V1 hF hb S=>?_
 obtain⟨b1,x1,y1,b2,x2,y2,rfl,hq1,hq2,⟨hk1,hk2⟩,⟨hk3,hk4⟩,⟨ok1,ok2⟩,ok3,ok4⟩:=hF
 have S:=S.know ok1
 have S:=S.know ok2
 have S:=S.know ok3
 have S:=S.know ok4
 refine tc S (F:=PT 2 (((2:Int):Rat)) (((0:Int):Rat))) (zk5 Tryz.func34) (zly (n:=2) (m:=0) (by decide)) fun v a V2 hF hb S=>?_
 obtain⟨b3,x3,y3,b4,x4,y4,rfl,hq3,hq4,⟨hk5,hk6⟩,⟨hk7,hk8⟩,⟨ok5,ok6⟩,ok7,ok8⟩:=hF
 have S:=S.know ok5
 have S:=S.know ok6
 have S:=S.know ok7
 have S:=S.know ok8
 refine ti S (cs:=[.bool false,.slice none 0 0,.slice none 0 0,.bool false,.slice none 0 0,.slice none 0 0]) (zaz rfl (Tryz.zeroValue29 _) rfl) (fun g1=>[⟨g1,29,[.bool false,.slice none 0 0,.slice none 0 0,.bool false,.slice none 0 0,.slice none 0 0]⟩]) fun g1 a V3 hgg1 S=>?_
 refine ti S (cs:=[.bool false,.slice none 0 0,.slice none 0 0,.bool false,.slice none 0 0,.slice none 0 0]) (zaz rfl (Tryz.zeroValue29 _) rfl) (fun g2=>[⟨g1,29,[.bool false,.slice none 0 0,.slice none 0 0,.bool false,.slice none 0 0,.slice none 0 0]⟩,⟨g2,29,[.bool false,.slice none 0 0,.slice none 0 0,.bool false,.slice none 0 0,.slice none 0 0]⟩]) fun g2 a V4 hgg2 S=>?_
 refine zaD S (i:=0) (vs:=(lP b1 x1 y1 b2 x2 y2)) rfl (fun ht=>zay rfl (S.at 1 rfl) (S.at 3 rfl) zaZ rfl (zt2 rfl) ht) (zt2 rfl) rfl rfl rfl (lb':=[⟨g1,29,(lP b1 x1 y1 b2 x2 y2)⟩,⟨g2,29,[.bool false,.slice none 0 0,.slice none 0 0,.bool false,.slice none 0 0,.slice none 0 0]⟩]) rfl (fun V5 S=>?_)
 refine zaD S (i:=1) (vs:=(lP b3 x3 y3 b4 x4 y4)) rfl (fun ht=>zay rfl (S.at 0 rfl) (S.at 2 rfl) zaZ rfl (zt2 rfl) ht) (zt2 rfl) rfl rfl rfl (lb':=[⟨g1,29,(lP b1 x1 y1 b2 x2 y2)⟩,⟨g2,29,(lP b3 x3 y3 b4 x4 y4)⟩]) rfl (fun V6 S=>?_)
 refine hK2 _ _ ?_
 refine wp_seq_k fun K3 hK3=>?_
 obtain⟨W1,hW1⟩:∃W,W=V6:=⟨_,rfl⟩
 rw[←hW1]at S ⊢
 have S0:=S
 refine fr 5 [6,7,8,9,10] [IsV ((aP b1 x1 y1 b2 x2 y2)),IsV ((aP b3 x3 y3 b4 x4 y4)),PT 2 (((1:Int):Rat)) (((1:Int):Rat)),PRow 2 ([(((0:Int):Rat),((0:Int):Rat)),(((2:Int):Rat),((0:Int):Rat)),(((1:Int):Rat),((1:Int):Rat))]),IRow ([1,1,1])] S ?_ ?_
 ·refine sc (fun _ _ S _ _=>sv rfl (zaj rfl (S.at 1 rfl) (S.bx 0 rfl) Tryz.underlying29 rfl (vs:=(lP b1 x1 y1 b2 x2 y2)) zaZ rfl)) ?_
  refine sc (fun _ _ S _ _=>sv rfl (zaj rfl (S.at 0 rfl) (S.bx 1 rfl) Tryz.underlying29 rfl (vs:=(lP b3 x3 y3 b4 x4 y4)) zaZ rfl)) ?_
  refine sc (fun _ _ _ _ _=>sl rfl (zk5 Tryz.func34) (zly (n:=1) (m:=1) (by decide))) ?_
  refine sc (fun _ _ S _ hd=>sy rfl (znx rfl (hd.v 0 rfl rfl) (hd.v 1 rfl rfl) rfl (show PT 2 (((0:Int):Rat)) (((0:Int):Rat)) ((aP b1 x1 y1 b2 x2 y2)) _ from⟨b1,x1,y1,b2,x2,y2,rfl,hq1,hq2,⟨hk1,hk2⟩,⟨hk3,hk4⟩,⟨(S.num 7 rfl),(S.num 6 rfl)⟩,(S.num 5 rfl),(S.num 4 rfl)⟩).any (show PT 2 (((2:Int):Rat)) (((0:Int):Rat)) ((aP b3 x3 y3 b4 x4 y4)) _ from⟨b3,x3,y3,b4,x4,y4,rfl,hq3,hq4,⟨hk5,hk6⟩,⟨hk7,hk8⟩,⟨(S.num 3 rfl),(S.num 2 rfl)⟩,(S.num 1 rfl),(S.num 0 rfl)⟩).any ((hd.r 2 rfl rfl)).any)) ?_
  refine sc (fun _ _ S _ hd=>sl rfl (rc1 Tryz.func13 rfl) (zrc (T.keep S.below) (hd.r 3 rfl rfl))) ?_
  exact sn
 ·intro a1 V7 S hB hf
  obtain⟨ov1,hov1⟩:∃z,a1.tmps.getD 10 undef=z:=⟨_,rfl⟩
  have rov1:IRow ([1,1,1]) ov1 V7:=by rw[←hov1];exact hf.r 4 rfl rfl
  have S:=S.add hov1
  clear hf S0
  show wpList _ _ _ [_] _ _
  refine tv S (zag rfl (S.at 0 rfl)) fun a S=>?_
  refine hK3 _ _ ?_
  refine wp_seq_k fun K4 hK4=>?_
  have S:=S.keep [3,2,1,0] (ls':=[(3,ov1),(2,pT g2 0),(1,pT g1 0),(0,.bool false)]) rfl
  obtain⟨W2,hW2⟩:∃W,W=V7:=⟨_,rfl⟩
  rw[←hW2]at S ⊢
  have S0:=S
  rw[←hW2]at rov1
  refine fr 54 [11,12,13,14,15,16,17,18,19,20,21,22,23,24,25,26,27,28,29,30,31,32,33,34,35,36,37,38,39,40,41,42,43,44,45,46,47,48,49,50,51,52,53,54,55,56,57,58,59,60,61,62,63,64] [IsV ((aP b1 x1 y1 b2 x2 y2)),IsV ((aP b3 x3 y3 b4 x4 y4)),PT 2 (((1:Int):Rat)) (((1:Int):Rat)),IsV (.int .i64 (zan (crs ((0:Int):Rat) ((0:Int):Rat) ((2:Int):Rat) ((0:Int):Rat) ((1:Int):Rat) ((1:Int):Rat)) 0)),IsV (.bool true),IsV (.bool true),IsV ((aP b1 x1 y1 b2 x2 y2)),IsV ((aP b3 x3 y3 b4 x4 y4)),PT 2 (((1:Int):Rat)) (((-1:Int):Rat)),IsV (.int .i64 (zan (crs ((0:Int):Rat) ((0:Int):Rat) ((2:Int):Rat) ((0:Int):Rat) ((1:Int):Rat) ((-1:Int):Rat)) 0)),IsV (.bool true),IsV (.bool true),IsV (.bool true),IsV ((aP b1 x1 y1 b2 x2 y2)),IsV ((aP b3 x3 y3 b4 x4 y4)),PT 2 (((1:Int):Rat)) (((0:Int):Rat)),IsV (.bool true),IsV (.bool true),IsV (.bool true),IsV ((aP b1 x1 y1 b2 x2 y2)),IsV ((aP b3 x3 y3 b4 x4 y4)),IsV ((aP b3 x3 y3 b4 x4 y4)),IsV (.bool false),IsV (.bool true),IsV (.bool true),IsV (.bool true),IsV ((aP b1 x1 y1 b2 x2 y2)),IsV ((aP b3 x3 y3 b4 x4 y4)),IsV ((aP b3 x3 y3 b4 x4 y4)),IsV (.bool true),IsV (.bool true),IsV (.bool true),IsV ((aP b1 x1 y1 b2 x2 y2)),IsV ((aP b3 x3 y3 b4 x4 y4)),PT 2 (((5:Int):Rat)) (((0:Int):Rat)),IsV (.bool true),IsV (.bool true),IsV (.bool true),IsV (ov1),IsV (.int .i64 (((3:Nat):Int))),IsV (.bool true),IsV (.bool true),IsV (.bool true),IsV (ov1),IEl (1),IsV (.int .i64 1),IsV (.bool true),IsV (.bool true),IsV (.bool true),IsV (ov1),IEl (1),IsV (.int .i64 1),IsV (.bool true),IsV (.bool true)] S ?_ ?_
  ·refine sc (fun _ _ S _ _=>sv rfl (zaj rfl (S.at 2 rfl) (S.bx 0 rfl) Tryz.underlying29 rfl (vs:=(lP b1 x1 y1 b2 x2 y2)) zaZ rfl)) ?_
   refine sc (fun _ _ S _ _=>sv rfl (zaj rfl (S.at 1 rfl) (S.bx 1 rfl) Tryz.underlying29 rfl (vs:=(lP b3 x3 y3 b4 x4 y4)) zaZ rfl)) ?_
   refine sc (fun _ _ _ _ _=>sl rfl (zk5 Tryz.func34) (zly (n:=1) (m:=1) (by decide))) ?_
   refine sc (fun _ _ S _ hd=>sl rfl (rc3 Tryz.func10 (hd.v 0 rfl rfl) (hd.v 1 rfl rfl) rfl) (zdu (T.keep S.below) (show PT 2 (((0:Int):Rat)) (((0:Int):Rat)) ((aP b1 x1 y1 b2 x2 y2)) _ from⟨b1,x1,y1,b2,x2,y2,rfl,hq1,hq2,⟨hk1,hk2⟩,⟨hk3,hk4⟩,⟨(S.num 7 rfl),(S.num 6 rfl)⟩,(S.num 5 rfl),(S.num 4 rfl)⟩).any (show PT 2 (((2:Int):Rat)) (((0:Int):Rat)) ((aP b3 x3 y3 b4 x4 y4)) _ from⟨b3,x3,y3,b4,x4,y4,rfl,hq3,hq4,⟨hk5,hk6⟩,⟨hk7,hk8⟩,⟨(S.num 3 rfl),(S.num 2 rfl)⟩,(S.num 1 rfl),(S.num 0 rfl)⟩).any ((hd.r 2 rfl rfl)).any (by omega) (by omega) (by omega) ⟨by decide+kernel,by decide+kernel⟩ ⟨by decide+kernel,by decide+kernel⟩ ⟨by decide+kernel,by decide+kernel⟩ ⟨by decide+kernel,by decide+kernel⟩)) ?_
   refine sc (fun _ _ _ _ hd=>sv rfl (za5 (zbT _ (by decide) rfl (hd.v 3 rfl rfl) rfl) (show(decide (zan (crs ((0:Int):Rat) ((0:Int):Rat) ((2:Int):Rat) ((0:Int):Rat) ((1:Int):Rat) ((1:Int):Rat)) 0=1))=true from(by decide+kernel)))) ?_
   refine sc (fun _ _ _ _ hd=>sv rfl (zac rfl (hd.v 4 rfl rfl))) ?_
   refine sc (fun _ _ S _ hd=>svg rfl (hd.v 5 rfl rfl) (zaj rfl (S.at 2 rfl) (S.bx 0 rfl) Tryz.underlying29 rfl (vs:=(lP b1 x1 y1 b2 x2 y2)) zaZ rfl)) ?_
   refine sc (fun _ _ S _ hd=>svg rfl (hd.v 5 rfl rfl) (zaj rfl (S.at 1 rfl) (S.bx 1 rfl) Tryz.underlying29 rfl (vs:=(lP b3 x3 y3 b4 x4 y4)) zaZ rfl)) ?_
   refine sc (fun _ _ _ _ hd=>slg rfl (hd.v 5 rfl rfl) (zk5 Tryz.func34) (zly (n:=1) (m:= -1) (by decide))) ?_
   refine sc (fun _ _ S _ hd=>slg rfl (hd.v 5 rfl rfl) (rc3 Tryz.func10 (hd.v 6 rfl rfl) (hd.v 7 rfl rfl) rfl) (zdu (T.keep S.below) (show PT 2 (((0:Int):Rat)) (((0:Int):Rat)) ((aP b1 x1 y1 b2 x2 y2)) _ from⟨b1,x1,y1,b2,x2,y2,rfl,hq1,hq2,⟨hk1,hk2⟩,⟨hk3,hk4⟩,⟨(S.num 7 rfl),(S.num 6 rfl)⟩,(S.num 5 rfl),(S.num 4 rfl)⟩).any (show PT 2 (((2:Int):Rat)) (((0:Int):Rat)) ((aP b3 x3 y3 b4 x4 y4)) _ from⟨b3,x3,y3,b4,x4,y4,rfl,hq3,hq4,⟨hk5,hk6⟩,⟨hk7,hk8⟩,⟨(S.num 3 rfl),(S.num 2 rfl)⟩,(S.num 1 rfl),(S.num 0 rfl)⟩).any ((hd.r 8 rfl rfl)).any (by omega) (by omega) (by omega) ⟨by decide+kernel,by decide+kernel⟩ ⟨by decide+kernel,by decide+kernel⟩ ⟨by decide+kernel,by decide+kernel⟩ ⟨by decide+kernel,by decide+kernel⟩)) ?_
   refine sc (fun _ _ _ _ hd=>svg rfl (hd.v 5 rfl rfl) (za5 (zbT _ (by decide) rfl (hd.v 9 rfl rfl) rfl) (show(decide (zan (crs ((0:Int):Rat) ((0:Int):Rat) ((2:Int):Rat) ((0:Int):Rat) ((1:Int):Rat) ((-1:Int):Rat)) 0= -1))=true from(by decide+kernel)))) ?_
   refine sc (fun _ _ _ _ hd=>sv rfl (zaP true rfl (hd.v 5 rfl rfl) (hd.v 10 rfl rfl))) ?_
   refine sc (fun _ _ _ _ hd=>sv rfl (zac rfl (hd.v 11 rfl rfl))) ?_
   refine sc (fun _ _ S _ hd=>svg rfl (hd.v 12 rfl rfl) (zaj rfl (S.at 2 rfl) (S.bx 0 rfl) Tryz.underlying29 rfl (vs:=(lP b1 x1 y1 b2 x2 y2)) zaZ rfl)) ?_
   refine sc (fun _ _ S _ hd=>svg rfl (hd.v 12 rfl rfl) (zaj rfl (S.at 1 rfl) (S.bx 1 rfl) Tryz.underlying29 rfl (vs:=(lP b3 x3 y3 b4 x4 y4)) zaZ rfl)) ?_
   refine sc (fun _ _ _ _ hd=>slg rfl (hd.v 12 rfl rfl) (zk5 Tryz.func34) (zly (n:=1) (m:=0) (by decide))) ?_
   refine sc (fun _ _ S _ hd=>slg rfl (hd.v 12 rfl rfl) (rc3 Tryz.func17 (hd.v 13 rfl rfl) (hd.v 14 rfl rfl) rfl) (zcV (zj5 (T.keep S.below) (show PT 2 (((0:Int):Rat)) (((0:Int):Rat)) ((aP b1 x1 y1 b2 x2 y2)) _ from⟨b1,x1,y1,b2,x2,y2,rfl,hq1,hq2,⟨hk1,hk2⟩,⟨hk3,hk4⟩,⟨(S.num 7 rfl),(S.num 6 rfl)⟩,(S.num 5 rfl),(S.num 4 rfl)⟩).any (show PT 2 (((2:Int):Rat)) (((0:Int):Rat)) ((aP b3 x3 y3 b4 x4 y4)) _ from⟨b3,x3,y3,b4,x4,y4,rfl,hq3,hq4,⟨hk5,hk6⟩,⟨hk7,hk8⟩,⟨(S.num 3 rfl),(S.num 2 rfl)⟩,(S.num 1 rfl),(S.num 0 rfl)⟩).any ((hd.r 15 rfl rfl)).any (by omega) (by omega) (by omega) ⟨by decide+kernel,by decide+kernel⟩ ⟨by decide+kernel,by decide+kernel⟩ ⟨by decide+kernel,by decide+kernel⟩ ⟨by decide+kernel,by decide+kernel⟩) (fun _ _ h=>h.trans (congrArg Value.bool (show(zdQ ((0:Int):Rat) ((0:Int):Rat) ((2:Int):Rat) ((0:Int):Rat) ((1:Int):Rat) ((0:Int):Rat))=true from(by decide+kernel)))))) ?_
   refine sc (fun _ _ _ _ hd=>sv rfl (zaP true rfl (hd.v 12 rfl rfl) (hd.v 16 rfl rfl))) ?_
   refine sc (fun _ _ _ _ hd=>sv rfl (zac rfl (hd.v 17 rfl rfl))) ?_
   refine sc (fun _ _ S _ hd=>svg rfl (hd.v 18 rfl rfl) (zaj rfl (S.at 2 rfl) (S.bx 0 rfl) Tryz.underlying29 rfl (vs:=(lP b1 x1 y1 b2 x2 y2)) zaZ rfl)) ?_
   refine sc (fun _ _ S _ hd=>svg rfl (hd.v 18 rfl rfl) (zaj rfl (S.at 1 rfl) (S.bx 1 rfl) Tryz.underlying29 rfl (vs:=(lP b3 x3 y3 b4 x4 y4)) zaZ rfl)) ?_
   refine sc (fun _ _ S _ hd=>svg rfl (hd.v 18 rfl rfl) (zaj rfl (S.at 1 rfl) (S.bx 1 rfl) Tryz.underlying29 rfl (vs:=(lP b3 x3 y3 b4 x4 y4)) zaZ rfl)) ?_
   refine sc (fun _ _ S _ hd=>slg rfl (hd.v 18 rfl rfl) (rc3 Tryz.func17 (hd.v 19 rfl rfl) (hd.v 20 rfl rfl) (hd.v 21 rfl rfl)) (zcV (zj5 (T.keep S.below) (show PT 2 (((0:Int):Rat)) (((0:Int):Rat)) ((aP b1 x1 y1 b2 x2 y2)) _ from⟨b1,x1,y1,b2,x2,y2,rfl,hq1,hq2,⟨hk1,hk2⟩,⟨hk3,hk4⟩,⟨(S.num 7 rfl),(S.num 6 rfl)⟩,(S.num 5 rfl),(S.num 4 rfl)⟩).any (show PT 2 (((2:Int):Rat)) (((0:Int):Rat)) ((aP b3 x3 y3 b4 x4 y4)) _ from⟨b3,x3,y3,b4,x4,y4,rfl,hq3,hq4,⟨hk5,hk6⟩,⟨hk7,hk8⟩,⟨(S.num 3 rfl),(S.num 2 rfl)⟩,(S.num 1 rfl),(S.num 0 rfl)⟩).any (show PT 2 (((2:Int):Rat)) (((0:Int):Rat)) ((aP b3 x3 y3 b4 x4 y4)) _ from⟨b3,x3,y3,b4,x4,y4,rfl,hq3,hq4,⟨hk5,hk6⟩,⟨hk7,hk8⟩,⟨(S.num 3 rfl),(S.num 2 rfl)⟩,(S.num 1 rfl),(S.num 0 rfl)⟩).any (by omega) (by omega) (by omega) ⟨by decide+kernel,by decide+kernel⟩ ⟨by decide+kernel,by decide+kernel⟩ ⟨by decide+kernel,by decide+kernel⟩ ⟨by decide+kernel,by decide+kernel⟩) (fun _ _ h=>h.trans (congrArg Value.bool (show(zdQ ((0:Int):Rat) ((0:Int):Rat) ((2:Int):Rat) ((0:Int):Rat) ((2:Int):Rat) ((0:Int):Rat))=false from(by decide+kernel)))))) ?_
   refine sc (fun _ _ _ _ hd=>svg rfl (hd.v 18 rfl rfl) (zec (b:=false) rfl (hd.v 22 rfl rfl))) ?_
   refine sc (fun _ _ _ _ hd=>sv rfl (zaP true rfl (hd.v 18 rfl rfl) (hd.v 23 rfl rfl))) ?_
   refine sc (fun _ _ _ _ hd=>sv rfl (zac rfl (hd.v 24 rfl rfl))) ?_
   refine sc (fun _ _ S _ hd=>svg rfl (hd.v 25 rfl rfl) (zaj rfl (S.at 2 rfl) (S.bx 0 rfl) Tryz.underlying29 rfl (vs:=(lP b1 x1 y1 b2 x2 y2)) zaZ rfl)) ?_
   refine sc (fun _ _ S _ hd=>svg rfl (hd.v 25 rfl rfl) (zaj rfl (S.at 1 rfl) (S.bx 1 rfl) Tryz.underlying29 rfl (vs:=(lP b3 x3 y3 b4 x4 y4)) zaZ rfl)) ?_
   refine sc (fun _ _ S _ hd=>svg rfl (hd.v 25 rfl rfl) (zaj rfl (S.at 1 rfl) (S.bx 1 rfl) Tryz.underlying29 rfl (vs:=(lP b3 x3 y3 b4 x4 y4)) zaZ rfl)) ?_
   refine sc (fun _ _ S _ hd=>slg rfl (hd.v 25 rfl rfl) (rc3 Tryz.func15 (hd.v 26 rfl rfl) (hd.v 27 rfl rfl) (hd.v 28 rfl rfl)) (zcV (ztT (T.keep S.below) (show PT 2 (((0:Int):Rat)) (((0:Int):Rat)) ((aP b1 x1 y1 b2 x2 y2)) _ from⟨b1,x1,y1,b2,x2,y2,rfl,hq1,hq2,⟨hk1,hk2⟩,⟨hk3,hk4⟩,⟨(S.num 7 rfl),(S.num 6 rfl)⟩,(S.num 5 rfl),(S.num 4 rfl)⟩).any (show PT 2 (((2:Int):Rat)) (((0:Int):Rat)) ((aP b3 x3 y3 b4 x4 y4)) _ from⟨b3,x3,y3,b4,x4,y4,rfl,hq3,hq4,⟨hk5,hk6⟩,⟨hk7,hk8⟩,⟨(S.num 3 rfl),(S.num 2 rfl)⟩,(S.num 1 rfl),(S.num 0 rfl)⟩).any (show PT 2 (((2:Int):Rat)) (((0:Int):Rat)) ((aP b3 x3 y3 b4 x4 y4)) _ from⟨b3,x3,y3,b4,x4,y4,rfl,hq3,hq4,⟨hk5,hk6⟩,⟨hk7,hk8⟩,⟨(S.num 3 rfl),(S.num 2 rfl)⟩,(S.num 1 rfl),(S.num 0 rfl)⟩).any (by omega) (by omega) (by omega) ⟨by decide+kernel,by decide+kernel⟩ ⟨by decide+kernel,by decide+kernel⟩ ⟨by decide+kernel,by decide+kernel⟩ ⟨by decide+kernel,by decide+kernel⟩) (fun _ _ h=>h.trans (congrArg Value.bool (show(onR ((0:Int):Rat) ((0:Int):Rat) ((2:Int):Rat) ((0:Int):Rat) ((2:Int):Rat) ((0:Int):Rat))=true from(by decide+kernel)))))) ?_
   refine sc (fun _ _ _ _ hd=>sv rfl (zaP true rfl (hd.v 25 rfl rfl) (hd.v 29 rfl rfl))) ?_
   refine sc (fun _ _ _ _ hd=>sv rfl (zac rfl (hd.v 30 rfl rfl))) ?_
   refine sc (fun _ _ S _ hd=>svg rfl (hd.v 31 rfl rfl) (zaj rfl (S.at 2 rfl) (S.bx 0 rfl) Tryz.underlying29 rfl (vs:=(lP b1 x1 y1 b2 x2 y2)) zaZ rfl)) ?_
   refine sc (fun _ _ S _ hd=>svg rfl (hd.v 31 rfl rfl) (zaj rfl (S.at 1 rfl) (S.bx 1 rfl) Tryz.underlying29 rfl (vs:=(lP b3 x3 y3 b4 x4 y4)) zaZ rfl)) ?_
   refine sc (fun _ _ _ _ hd=>slg rfl (hd.v 31 rfl rfl) (zk5 Tryz.func34) (zly (n:=5) (m:=0) (by decide))) ?_
   refine sc (fun _ _ S _ hd=>slg rfl (hd.v 31 rfl rfl) (rc3 Tryz.func19 (hd.v 32 rfl rfl) (hd.v 33 rfl rfl) rfl) (zcV (zli (T.keep S.below) (show PT 2 (((0:Int):Rat)) (((0:Int):Rat)) ((aP b1 x1 y1 b2 x2 y2)) _ from⟨b1,x1,y1,b2,x2,y2,rfl,hq1,hq2,⟨hk1,hk2⟩,⟨hk3,hk4⟩,⟨(S.num 7 rfl),(S.num 6 rfl)⟩,(S.num 5 rfl),(S.num 4 rfl)⟩).any (show PT 2 (((2:Int):Rat)) (((0:Int):Rat)) ((aP b3 x3 y3 b4 x4 y4)) _ from⟨b3,x3,y3,b4,x4,y4,rfl,hq3,hq4,⟨hk5,hk6⟩,⟨hk7,hk8⟩,⟨(S.num 3 rfl),(S.num 2 rfl)⟩,(S.num 1 rfl),(S.num 0 rfl)⟩).any ((hd.r 34 rfl rfl)).any (by omega) (by omega) (by omega) ⟨by decide+kernel,by decide+kernel⟩ ⟨by decide+kernel,by decide+kernel⟩ ⟨by decide+kernel,by decide+kernel⟩ ⟨by decide+kernel,by decide+kernel⟩) (fun _ _ h=>h.trans (congrArg Value.bool (show(zc3 ((0:Int):Rat) ((0:Int):Rat) ((2:Int):Rat) ((0:Int):Rat) ((5:Int):Rat) ((0:Int):Rat))=true from(by decide+kernel)))))) ?_
   refine sc (fun _ _ _ _ hd=>sv rfl (zaP true rfl (hd.v 31 rfl rfl) (hd.v 35 rfl rfl))) ?_
   refine sc (fun _ _ _ _ hd=>sv rfl (zac rfl (hd.v 36 rfl rfl))) ?_
   refine sc (fun _ _ S _ hd=>svg rfl (hd.v 37 rfl rfl) (zac rfl (S.at 0 rfl))) ?_
   refine sc (fun _ _ _ hB hd=>svg rfl (hd.v 37 rfl rfl) (zpK (n:=3) (rov1.keep hB) rfl rfl (hd.v 38 rfl rfl))) ?_
   refine sc (fun _ _ _ _ hd=>svg rfl (hd.v 37 rfl rfl) (za5 (zbT _ (by decide) rfl (hd.v 39 rfl rfl) rfl) (show(decide (((3:Nat):Int)=3))=true from(by decide+kernel)))) ?_
   refine sc (fun _ _ _ _ hd=>sv rfl (zaP true rfl (hd.v 37 rfl rfl) (hd.v 40 rfl rfl))) ?_
   refine sc (fun _ _ _ _ hd=>sv rfl (zac rfl (hd.v 41 rfl rfl))) ?_
   refine sc (fun _ _ S _ hd=>svg rfl (hd.v 42 rfl rfl) (zac rfl (S.at 0 rfl))) ?_
   refine sc (fun _ _ _ hB hd=>by
    obtain⟨A,ad,n,c,hv,hA,hk,hq⟩:=ztB (rov1.keep hB) (i:=0) (by decide)
    exact svg rfl (hd.v 42 rfl rfl) (zl8 (k:=0) hA hk rfl ((hd.v 43 rfl rfl).trans hv) rfl) hq) ?_
   refine sc (fun _ _ _ _ hd=>by
    obtain⟨p,hv,-,hq⟩:=(hd.r 44 rfl rfl)
    exact svg rfl (hd.v 42 rfl rfl) (zl6 hq rfl hv)) ?_
   refine sc (fun _ _ _ _ hd=>svg rfl (hd.v 42 rfl rfl) (za5 (zbT _ (by decide) rfl (hd.v 45 rfl rfl) rfl) (show(decide (1=1))=true from(by decide+kernel)))) ?_
   refine sc (fun _ _ _ _ hd=>sv rfl (zaP true rfl (hd.v 42 rfl rfl) (hd.v 46 rfl rfl))) ?_
   refine sc (fun _ _ _ _ hd=>sv rfl (zac rfl (hd.v 47 rfl rfl))) ?_
   refine sc (fun _ _ S _ hd=>svg rfl (hd.v 48 rfl rfl) (zac rfl (S.at 0 rfl))) ?_
   refine sc (fun _ _ _ hB hd=>by
    obtain⟨A,ad,n,c,hv,hA,hk,hq⟩:=ztB (rov1.keep hB) (i:=2) (by decide)
    exact svg rfl (hd.v 48 rfl rfl) (zl8 (k:=2) hA hk rfl ((hd.v 49 rfl rfl).trans hv) rfl) hq) ?_
   refine sc (fun _ _ _ _ hd=>by
    obtain⟨p,hv,-,hq⟩:=(hd.r 50 rfl rfl)
    exact svg rfl (hd.v 48 rfl rfl) (zl6 hq rfl hv)) ?_
   refine sc (fun _ _ _ _ hd=>svg rfl (hd.v 48 rfl rfl) (za5 (zbT _ (by decide) rfl (hd.v 51 rfl rfl) rfl) (show(decide (1=1))=true from(by decide+kernel)))) ?_
   refine sc (fun _ _ _ _ hd=>sv rfl (zaP true rfl (hd.v 48 rfl rfl) (hd.v 52 rfl rfl))) ?_
   exact sn
  ·intro a2 V8 S hB hf
   replace rov1:=rov1.keep hB
   have S:=S.add (hf.v 53 rfl rfl)
   clear hf S0
   show wpList _ _ _ [_] _ _
   refine zaS S (v:= .bool true) (zag rfl (S.at 0 rfl)) rfl rfl (by decide) (ls':=[(64,.bool true),(3,ov1),(2,pT g2 0),(1,pT g1 0)]) rfl (fun a S=>?_)
   refine hK4 _ _ ?_
   refine wp_ret ?_
   exact zaE rfl S (S.at 0 rfl) ⟨_,rfl,rfl,S.below⟩
section
variable {a a' b b' p p' d d' t:Rat}
theorem zpM {b0 d0 b1 d1 b2 d2:Bool}{x0 y0 z0 w0 x1 y1 z1 w1 x2 y2 z2 w2:Num}(h:zch [(b0,x0,y0,d0,z0,w0),(b1,x1,y1,d1,z1,w1),(b2,x2,y2,d2,z2,w2)]=false):x0.n+y0.n+z0.n+w0.n+(x1.n+y1.n+z1.n+w1.n)+(x2.n+y2.n+z2.n+w2.n)≤80:=by
 have:=(ziR h).2
 simp[szP]at this
 omega
end
section
variable {a:Act}{V:World}{o:Oper}{t1 t2 t3 t4:Tmp}{b0 d0 b1 d1 b2 d2 b3 d3:Bool}{x0 y0 z0 w0 x1 y1 z1 w1 x2 y2 z2 w2 x3 y3 z3 w3:Num}
end
end Go.Proofs.YtdeelcoipmdoiaaGreatDoor
