/- A part. -/
import Derived.Deep.LoopGhost
import Derived.Test.YtipckjmgdghkiaaGreatDoorGSintC
import Derived.Test.YtipckjmgdghkiaaGreatDoorGProdC
set_option maxHeartbeats 4000000
set_option maxRecDepth 100000
namespace Go.Proofs.YtipckjmgdghkiaaGreatDoor
open Go Go.RowKit
section
variable {w0:World}
theorem ziX (a:Int):∀l:List Int,l.foldr (· * ·) a=l.foldr (· * ·) 1*a
 |[]=>by simp
 |x::l=>by rw[List.foldr_cons,List.foldr_cons,ziX a l,Int.mul_assoc]
theorem zmv (l:List (Bool×Num))(x:Bool×Num):zeN (l++[x])=zeN l*zP x:=by
 unfold zeN
 rw[List.map_append,List.foldr_append,ziX]
 simp
theorem ziY:∀l:List (Bool×Num),(zeN l).natAbs=ziv (l.map (·.2))
 |[]=>rfl
 |x::l=>by
  have ih:=ziY l
  have e:zeN (x::l)=zP x*zeN l:=rfl
  rw[e,Int.natAbs_mul,ih,show(zP x).natAbs=x.2.N from zbu _ _]
  simp[ziv]
def Fill (W:World)(g:Nat)(l:List (Bool×Num))(k:Nat):Prop:=∃cur:Array Value,W.heap[g]?=some (.cells cur 23 (0,0))/\cur.size=l.length/\∀j (h:j<l.length),j<k->cur[j]?=some (.slice l[j].2.A l[j].2.n l[j].2.c)
theorem Fill.set {W:World}{g k:Nat}{l:List (Bool×Num)}(h:Fill W g l k)(hk:k<l.length):Fill (W.setCell ⟨g,k,none⟩ (.slice l[k].2.A l[k].2.n l[k].2.c)) g l (k+1):=by
 obtain⟨cur,h1,h2,h3⟩:=h
 refine⟨_,Box3.step k cur _ h1,by simpa using h2,fun j hj hjk=>?_⟩
 by_cases e:j=k
 ·subst e
  rw[Array.getElem?_setIfInBounds_self_of_lt (by omega)]
 ·rw[Array.getElem?_setIfInBounds_ne (by omega)]
  exact h3 j hj (by omega)
theorem Fill.below {W W':World}{g k K:Nat}{l:List (Bool×Num)}(h:Fill W g l k)(hb:Below K W W')(hg:g<K):Fill W' g l k:=by
 obtain⟨cur,h1,h2⟩:=h
 exact⟨cur,(hb.block g hg).trans h1,h2⟩
theorem Fill.cell {W:World}{g k j:Nat}{l:List (Bool×Num)}(h:Fill W g l k)(hj:j<l.length):(∃u,W.cell? ⟨g,j,none⟩=some u)/\W.frozen? ⟨g,j,none⟩=false:=by
 obtain⟨cur,h1,h2,_⟩:=h
 exact⟨⟨cur[j]'(by omega),by simp[World.cell?,h1,show j<cur.size by omega]⟩,by simp[World.frozen?,h1]⟩
theorem Fill.lt {W:World}{g k:Nat}{l:List (Bool×Num)}(h:Fill W g l k):g<W.heap.size:=by
 obtain⟨cur,h1,_⟩:=h
 exact(Array.getElem?_eq_some_iff.1 h1).1
theorem Fill.rds {W:World}{g:Nat}{l:List (Bool×Num)}(h:Fill W g l l.length)(hok:∀x∈l,x.2.ok W W.heap.size):Rds W W.heap.size (some ⟨g,0,none⟩) (l.map (·.2)):=fun k hk=>by
 have hk':k<l.length:=by simpa using hk
 have hlt:=h.lt
 obtain⟨cur,h1,h2,h3⟩:=h
 refine⟨⟨_,rfl,hlt,?_⟩,by simpa using hok _ (List.getElem_mem hk')⟩
 have:=h3 k hk' hk'
 rw[zaW]
 simp[World.cell?,h1,this]
theorem zuz:znk w0:=fun w W e n _ h hn=>by
 obtain⟨n1,n2⟩:=hn
 have HO:=zvY (h.alloc (.cells #[.bool false,.slice none 0 0] 25)).1
 have HE:=zvY (h.alloc (.cells #[.bool false,.slice none 0 0] 25)).here
 have B:=zvY (Box2.new W 25 (.bool false) (.slice none 0 0))
 have hs:=h.1.size
 obtain⟨N,hN⟩:∃N,n.natAbs=N:=⟨_,rfl⟩
 have EO:=zvY (zvt (N:=N) HE.out (by omega))
 have FN:∀(b:Bool) (r:Num) (W2:World),b=decide (n<0)->r.N=N->r.n=lenL N->Env (W.alloc (.cells #[.bool false,.slice none 0 0] 25)) (r::e) W2->Calls Tryz.prog 121 #[.bool b,.slice r.A r.n r.c] W2 fun e' W3=>e'= .returned (.agg #[.bool b,.slice r.A r.n r.c])/\Box2 W3 W.heap.size 25 (.bool false) (.slice none 0 0)/\
   Zs w e n (.returned (.agg #[.bool b,.slice r.A r.n r.c])) ((W3.setCell ⟨W.heap.size,0,none⟩ (.bool b)).setCell ⟨W.heap.size,1,none⟩ (.slice r.A r.n r.c)):=fun b r W2 hb hr hrn hE2=>by
  refine(zrj hE2 (x:=r) (b:=b) (by rw[hrn,hr])).mono ?_
  rintro e' W3 ⟨rfl,hE3⟩
  have e1:decide (zOf b r.N<0)=b:=by
   rw[hr,<-hN,hb,zc7]
  have hB3:=B.out.below hE3.1 (by simp)
  rw[e1]
  exact⟨rfl,hB3,r,by rw[hb],by rw[hr,hN],by rw[hrn,hN],(hE3.over HO.out).boxed hB3 hs b _⟩
 replace FN:=zvY FN
 clear h
 by_cases h0:n<0
 ·have HD:=zvY (show true=decide (n<0) by simp[h0])
  have he:IntKind.u64.wrap (-(IntKind.u64.wrap n))=(N:Int):=by rw[zbT,zbT];omega
  go_enter Tryz.func84,Tryz.ntmps84
  go_wp2_with fail
  refine EO.out.mono ?_
  rintro e1 W2 ⟨r,rfl,rN,rn,hE2⟩
  have FC:=zvY (FN.out true r W2 HD.out rN rn hE2)
  clear rN rn hE2
  go_wp2_with fail
  refine FC.out.mono ?_
  rintro e2 W3 ⟨rfl,hB3,hz⟩
  obtain⟨c1,c2,c3,c4⟩:=hB3.cells
  have HZ:=zvY hz
  have HB3:=zvY hB3
  clear hz hB3
  go_wp2
  exact bodyPost_ret (zbp (HB3.out.set _ _) rfl rfl) rfl HZ.out
 ·have HD:=zvY (show false=decide (n<0) by simp;omega)
  have he:IntKind.u64.wrap n=(N:Int):=by rw[zbT];omega
  go_enter Tryz.func84,Tryz.ntmps84
  go_wp2_with fail
  refine EO.out.mono ?_
  rintro e1 W2 ⟨r,rfl,rN,rn,hE2⟩
  have FC:=zvY (FN.out false r W2 HD.out rN rn hE2)
  clear rN rn hE2
  go_wp2_with fail
  refine FC.out.mono ?_
  rintro e2 W3 ⟨rfl,hB3,hz⟩
  obtain⟨c1,c2,c3,c4⟩:=hB3.cells
  have HZ:=zvY hz
  have HB3:=zvY hB3
  clear hz hB3
  go_wp2
  exact bodyPost_ret (zbp (HB3.out.set _ _) rfl rfl) rfl HZ.out
theorem zro (hs0:Signs w0):zle w0 114 fun Z=> .int .i64 Z.sign:=fun w W e b x Z hB h hx _ hz=>by
 have hS:=zvY (hs0.keep hB)
 have HE:=zvY (h.alloc (.cells #[.bool b,.slice x.A x.n x.c] 25))
 have HB1:=zvY ((Below.refl _ W).alloc zv0 (.cells #[.bool b,.slice x.A x.n x.c] 25))
 have ER:=zvY (zrk (b:=b) HE.out.here hx)
 rw[hz]at ER
 clear h hx hz hs0 hB
 go_enter Tryz.func114,Tryz.ntmps114
 go_wp2_with fail
 refine ER.out.mono ?_
 rintro e1 W2 ⟨rfl,hE2⟩
 have ES:=zvY (zvu (u:= .bool b) (v:= .slice x.A x.n x.c) (Z:=Z) ((hS.out.keep HB1.out).keep hE2.1) (hE2.over HE.out.1))
 clear hE2
 go_wp2_with fail
 refine ES.out.mono ?_
 rintro e2 W3 ⟨rfl,hE3⟩
 have HE3:=zvY hE3
 clear hE3
 go_wp2
 go_ret
 exact⟨rfl,HE3.out⟩
theorem zmw {Z Z':Int}(h:plZ Z<plZ Z'):zcw Z Z'= -1:=by
 unfold plZ at h
 unfold zcw
 split at h <;> split at h <;> (try split at h) <;> (try split at h) <;> (try split) <;> (try split) <;> omega
theorem zmx {Z Z':Int}(h:plZ Z'<plZ Z):zcw Z Z'=1:=by
 unfold plZ at h
 unfold zcw
 split at h <;> split at h <;> (try split at h) <;> (try split at h) <;> (try split) <;> (try split) <;> omega
theorem zo0 {b b':Bool}{N M:Nat}{Z Z':Int}(h:plZ Z=plZ Z')(hz:zOf b N=Z)(hz':zOf b' M=Z'):IntKind.i64.wrap (Z.sign*zcj N M)=zcw Z Z':=by
 have e:Z.sign*zcj N M=zcw Z Z':=by
  have h1:=zhS Z
  have h2:=zhS Z'
  have h3:=zms Z
  have hn:N=Z.natAbs:=by rw[<-hz,zbu]
  have hm:M=Z'.natAbs:=by rw[<-hz',zbu]
  rcases Int.lt_trichotomy Z 0 with h4|h4|h4
  ·have h5:Z'<0:=by
    rcases Int.lt_trichotomy Z' 0 with h6|h6|h6
    ·exact h6
    ·rw[Int.sign_eq_neg_one_of_neg h4]at h1;subst h6;rw[Int.sign_zero]at h2;omega
    ·rw[Int.sign_eq_neg_one_of_neg h4]at h1;rw[Int.sign_eq_one_of_pos h6]at h2;omega
   rw[Int.sign_eq_neg_one_of_neg h4]
   unfold zcj zcw
   split <;> split <;> (try split) <;> (try split) <;> omega
  ·have h5:Z'=0:=by
    rcases Int.lt_trichotomy Z' 0 with h6|h6|h6
    ·rw[Int.sign_eq_neg_one_of_neg h6]at h2;subst h4;rw[Int.sign_zero]at h1;omega
    ·exact h6
    ·subst h4;rw[Int.sign_zero]at h1;rw[Int.sign_eq_one_of_pos h6]at h2;omega
   subst h4 h5
   rw[Int.sign_zero,Int.zero_mul];rfl
  ·have h5:0<Z':=by
    rcases Int.lt_trichotomy Z' 0 with h6|h6|h6
    ·rw[Int.sign_eq_one_of_pos h4]at h1;rw[Int.sign_eq_neg_one_of_neg h6]at h2;omega
    ·rw[Int.sign_eq_one_of_pos h4]at h1;subst h6;rw[Int.sign_zero]at h2;omega
    ·exact h6
   rw[Int.sign_eq_one_of_pos h4]
   unfold zcj zcw
   split <;> split <;> (try split) <;> (try split) <;> omega
 rw[e,IntKind.wrap_i64]
 unfold zcw
 split
 ·decide
 ·split <;> decide
theorem zsN (hs0:Signs w0):ziT w0 186 fun Z Z'=> .int .i64 (zcw Z Z'):=fun w W e b x b' y Z Z' hB0 h hx hy _ _ hz hz'=>by
 obtain⟨W1,hW1⟩:∃W1,(W.alloc (.cells #[.bool b,.slice x.A x.n x.c] 25)).alloc (.cells #[.bool b',.slice y.A y.n y.c] 25)=W1:=⟨_,rfl⟩
 have HE:=(h.alloc (.cells #[.bool b,.slice x.A x.n x.c] 25)).alloc (.cells #[.bool b',.slice y.A y.n y.c] 25)
 have hs:=h.1.size
 have B1:=(Box2.new W 25 (.bool b) (.slice x.A x.n x.c)).alloc (.cells #[.bool b',.slice y.A y.n y.c] 25)
 have B2:=Box2.new (W.alloc (.cells #[.bool b,.slice x.A x.n x.c] 25)) 25 (.bool b') (.slice y.A y.n y.c)
 have HS:=(hs0.keep hB0).keep ((h.here.alloc (.cells #[.bool b,.slice x.A x.n x.c] 25)).alloc (.cells #[.bool b',.slice y.A y.n y.c] 25)).1
 rw[World.size_alloc]at B2
 rw[hW1]at HE B1 B2 HS
 have HO:=zvY HE.1
 replace HE:=zvY HE.here
 replace B1:=zvY B1
 replace B2:=zvY B2
 replace HS:=zvY HS
 have OX:=zvY (fun V (hb:Below W1.heap.size W1 V)=>(HE.out.2 x hx).later hb)
 have OY:=zvY (fun V (hb:Below W1.heap.size W1 V)=>(HE.out.2 y hy).later hb)
 have HPX:=zvY hz
 have HPY:=zvY hz'
 have HX:=zvY (And.intro hx hy)
 clear h hx hy hz hz' hB0
 go_enter Tryz.func186,Tryz.ntmps186
 go_wp2
 clear hW1
 refine zdb 6 [7,8,9,10,5,6] (fun i v V=>match i with
   |0=>v= .agg #[.bool b,.slice x.A x.n x.c]
   |1=>v= .agg #[.bool b,.slice x.A x.n x.c,.int .i64 (plZ Z:Nat)]
   |2=>v= .agg #[.bool b',.slice y.A y.n y.c]
   |3=>v= .agg #[.bool b',.slice y.A y.n y.c,.int .i64 (plZ Z':Nat)]
   |4=>RepB3 W1 v V
   |_=>RepB3 W1 v V) (fun i V v=>(i=4\/i=5)->v= .pointer (some ⟨V.heap.size,0,none⟩)) (fun i j v v2=>(i=4/\j=5\/i=5/\j=4)->v≠v2) (fun V=>Below W1.heap.size W1 V) (by kernel_rfl) (by kernel_rfl) rfl (by decide) (by first|(simp;done)|(simp;done)) zv1.drew ?_ ?_ ?_ ?_
 ·intro i v V V2 hf hb _
  match i,hf with
  |0,hf=>exact hf
  |1,hf=>exact hf
  |2,hf=>exact hf
  |3,hf=>exact hf
  |4,hf=>exact RepB3.keep hf hb
  |_+5,hf=>exact RepB3.keep hf hb
 ·intro i j v v2 V hfr hf hij
  rcases hij with⟨rfl,rfl⟩|⟨rfl,rfl⟩
  ·obtain⟨g,e,_,hB⟩:=(hf:RepB3 W1 v2 V)
   intro e2
   rw[e,hfr (by decide)]at e2
   have:=hB.lt
   injection e2 with e2;injection e2 with e2;injection e2 with e2
   omega
  ·obtain⟨g,e,_,hB⟩:=(hf:RepB3 W1 v2 V)
   intro e2
   rw[e,hfr (by decide)]at e2
   have:=hB.lt
   injection e2 with e2;injection e2 with e2;injection e2 with e2
   omega
 ·intro i t ht a V hC hF hd
  match i,ht with
  |0,ht=>
   cases ht
   have h2:a.tmps[2]?.getD undef= .pointer (some ⟨W.heap.size,0,none⟩):=(hF.at_ 2 (by decide)).trans rfl
   obtain⟨c00,c01,-,-⟩:=(B1.out.below hC B1.out.lt).cells
   obtain⟨c10,c11,-,-⟩:=(B2.out.below hC B2.out.lt).cells
   refine ze7 (fun _ h=>absurd h (by decide)) ?_
   exact zal (v:= .agg #[.bool b,.slice x.A x.n x.c]) rfl rfl (zac rfl) (by go_simp) hC rfl
  |1,ht=>
   cases ht
   have h7:a.tmps[7]?.getD undef= .agg #[.bool b,.slice x.A x.n x.c]:=(zae a 7).symm.trans (hd 0 7 rfl (by kernel_rfl))
   refine ze7 (fun _ h=>absurd h (by decide)) ?_
   refine za8 rfl rfl (zac rfl) (zbq ⟨_,rfl⟩ h7 (enters_of Tryz.func146 (by kernel_rfl) rfl)) ((zen (b:=b) (x:=x) V (OX.out V hC).1 (OX.out V hC).2.1 (OX.out V hC).2.2.1 (OX.out V hC).2.2.2).mono ?_)
   rw[HPX.out]
   rintro e2 V2 ⟨rfl,hb⟩
   exact⟨_,rfl,rfl,hb,hC.trans (hb.mono hC.size)⟩
  |2,ht=>
   cases ht
   have h3:a.tmps[3]?.getD undef= .pointer (some ⟨W.heap.size+1,0,none⟩):=(hF.at_ 3 (by decide)).trans rfl
   obtain⟨c00,c01,-,-⟩:=(B1.out.below hC B1.out.lt).cells
   obtain⟨c10,c11,-,-⟩:=(B2.out.below hC B2.out.lt).cells
   refine ze7 (fun _ h=>absurd h (by decide)) ?_
   exact zal (v:= .agg #[.bool b',.slice y.A y.n y.c]) rfl rfl (zac rfl) (by go_simp) hC rfl
  |3,ht=>
   cases ht
   have h9:a.tmps[9]?.getD undef= .agg #[.bool b',.slice y.A y.n y.c]:=(zae a 9).symm.trans (hd 2 9 rfl (by kernel_rfl))
   refine ze7 (fun _ h=>absurd h (by decide)) ?_
   refine za8 rfl rfl (zac rfl) (zbq ⟨_,rfl⟩ h9 (enters_of Tryz.func146 (by kernel_rfl) rfl)) ((zen (b:=b') (x:=y) V (OY.out V hC).1 (OY.out V hC).2.1 (OY.out V hC).2.2.1 (OY.out V hC).2.2.2).mono ?_)
   rw[HPY.out]
   rintro e2 V2 ⟨rfl,hb⟩
   exact⟨_,rfl,rfl,hb,hC.trans (hb.mono hC.size)⟩
  |4,ht=>
   cases ht
   exact ziU rfl rfl (zac rfl) rfl hC.size (fun V2 hb=>hC.trans (hb.mono hC.size)) (fun _ _ h e=>⟨h,fun _=>e⟩)
  |5,ht=>
   cases ht
   exact ziU rfl rfl (zac rfl) rfl hC.size (fun V2 hb=>hC.trans (hb.mono hC.size)) (fun _ _ h e=>⟨h,fun _=>e⟩)
  |k+6,ht=>simp at ht
 ·intro a2 V2 hC hF hf hR
  obtain⟨g,pg,hg,bg⟩:=(hf 4 5 rfl:RepB3 W1 (a2.tmps.getD 5 undef) V2)
  obtain⟨g',pg',hg',bg'⟩:=(hf 5 6 rfl:RepB3 W1 (a2.tmps.getD 6 undef) V2)
  have hne:g≠g':=by
   rcases hR 4 5 5 6 rfl rfl (by decide)with h|h
   ·exact fun e=>h (by decide) (by rw[pg,pg',e])
   ·exact fun e=>h (by decide) (by rw[pg,pg',e])
  have hlit:=zi1 (a:=a2) [.agg #[.bool b,.slice x.A x.n x.c],.agg #[.bool b',.slice y.A y.n y.c],.pointer (some ⟨W.heap.size,0,none⟩),.pointer (some ⟨W.heap.size+1,0,none⟩),.int .i64 0,.pointer (some ⟨g,0,none⟩),.pointer (some ⟨g',0,none⟩),.agg #[.bool b,.slice x.A x.n x.c],.agg #[.bool b,.slice x.A x.n x.c,.int .i64 (plZ Z:Nat)],.agg #[.bool b',.slice y.A y.n y.c],.agg #[.bool b',.slice y.A y.n y.c,.int .i64 (plZ Z':Nat)],undef,undef,undef,undef,undef,undef,undef,undef,undef,undef,undef,undef,undef,undef,undef,undef,undef,undef,undef,undef,undef,undef] (by simpa using hF.size) hF.defers (fun i hi=>match i,hi with
   |0,_=>(hF.same 0 (by decide)).trans rfl
   |1,_=>(hF.same 1 (by decide)).trans rfl
   |2,_=>(hF.same 2 (by decide)).trans rfl
   |3,_=>(hF.same 3 (by decide)).trans rfl
   |4,_=>(hF.same 4 (by decide)).trans rfl
   |5,_=>pg
   |6,_=>pg'
   |7,_=>(hf 0 7 rfl:a2.tmps.getD 7 undef=_)
   |8,_=>(hf 1 8 rfl:a2.tmps.getD 8 undef=_)
   |9,_=>(hf 2 9 rfl:a2.tmps.getD 9 undef=_)
   |10,_=>(hf 3 10 rfl:a2.tmps.getD 10 undef=_)
   |11,_=>(hF.same 11 (by decide)).trans rfl
   |12,_=>(hF.same 12 (by decide)).trans rfl
   |13,_=>(hF.same 13 (by decide)).trans rfl
   |14,_=>(hF.same 14 (by decide)).trans rfl
   |15,_=>(hF.same 15 (by decide)).trans rfl
   |16,_=>(hF.same 16 (by decide)).trans rfl
   |17,_=>(hF.same 17 (by decide)).trans rfl
   |18,_=>(hF.same 18 (by decide)).trans rfl
   |19,_=>(hF.same 19 (by decide)).trans rfl
   |20,_=>(hF.same 20 (by decide)).trans rfl
   |21,_=>(hF.same 21 (by decide)).trans rfl
   |22,_=>(hF.same 22 (by decide)).trans rfl
   |23,_=>(hF.same 23 (by decide)).trans rfl
   |24,_=>(hF.same 24 (by decide)).trans rfl
   |25,_=>(hF.same 25 (by decide)).trans rfl
   |26,_=>(hF.same 26 (by decide)).trans rfl
   |27,_=>(hF.same 27 (by decide)).trans rfl
   |28,_=>(hF.same 28 (by decide)).trans rfl
   |29,_=>(hF.same 29 (by decide)).trans rfl
   |30,_=>(hF.same 30 (by decide)).trans rfl
   |31,_=>(hF.same 31 (by decide)).trans rfl
   |32,_=>(hF.same 32 (by decide)).trans rfl
   |_+33,h=>absurd h (by simp only[List.length_cons,List.length_nil];omega))
  subst hlit
  obtain⟨W4,hW4,hE4,b5,b6⟩:=zvv (b:=b) (b':=b') (x:=x) (y:=y) (k:=(plZ Z:Nat)) (k':=(plZ Z':Nat)) HE.out hC bg bg' hne hg hg'
  have bgb:=bg'.other (Ne.symm hne) (.bool b) (.slice x.A x.n x.c) (.int .i64 (plZ Z:Nat))
  obtain⟨c1,c2,c3,c4,c5,c6⟩:=bg.cells
  obtain⟨d1,d2,d3,d4,d5,d6⟩:=bgb.cells
  have hne2:g'≠g:=Ne.symm hne
  obtain⟨f1,f2,f3,f4,f5,f6⟩:=bg'.cells
  clear hf hR hF hC bg bg' bgb pg pg'
  show wpList _ _ _ [_,_] _ V2
  obtain⟨m1,m2,m3,m4,m5,m6⟩:=b5.cells
  obtain⟨n1,n2,n3,n4,n5,n6⟩:=b6.cells
  replace b5:=zvY b5
  replace b6:=zvY b6
  replace HE4:=zvY hE4
  clear hE4 hg hg'
  go_wp2
  ·go_ret
   exact⟨by rw[zmw (by first|assumption|omega)];rfl,HE4.out.over HO.out⟩
  ·go_ret
   exact⟨by rw[zmx (by first|assumption|omega)];rfl,HE4.out.over HO.out⟩
  ·have hpl:plZ Z=plZ Z':=by omega
   have HM:=zvY (show IntKind.i64.wrap (Z.sign*zcj x.N y.N)=zcw Z Z' from zo0 hpl HPX.out HPY.out)
   have HS4:=zvY (HS.out.keep HE4.out.1)
   have OX4:=zvY (fun V (hb:Below W4.heap.size W4 V)=>(HE4.out.2 x HX.out.1).later hb)
   have OY4:=zvY (fun V (hb:Below W4.heap.size W4 V)=>(HE4.out.2 y HX.out.2).later hb)
   refine zbn 10 [23,24,25,26,27,28,29,30,31,32] (fun i v V=>match i with
     |0=>v= .agg #[.bool b,.slice x.A x.n x.c,.int .i64 (plZ Z:Nat)]
     |1=>v= .int .i64 Z.sign
     |2=>v= .pointer (some ⟨g,0,none⟩)
     |3=>v= .pointer (some ⟨g,1,none⟩)
     |4=>v= .slice x.A x.n x.c
     |5=>v= .pointer (some ⟨g',0,none⟩)
     |6=>v= .pointer (some ⟨g',1,none⟩)
     |7=>v= .slice y.A y.n y.c
     |8=>v= .int .i64 (zcj x.N y.N)
     |_=>v= .int .i64 (zcw Z Z')) (fun V=>Below W4.heap.size W4 V) (by kernel_rfl) (by kernel_rfl) rfl (by decide) (by first|(simp;done)|(simp;done)) zv1.drew ?_ ?_ ?_
   ·intro i v V V2 hf hb _
    match i,hf with
    |0,hf=>exact hf
    |1,hf=>exact hf
    |2,hf=>exact hf
    |3,hf=>exact hf
    |4,hf=>exact hf
    |5,hf=>exact hf
    |6,hf=>exact hf
    |7,hf=>exact hf
    |8,hf=>exact hf
    |_+9,hf=>exact hf
   ·intro i t ht a V hC hF hd
    match i,ht with
    |0,ht=>
     cases ht
     have h5:a.tmps[5]?.getD undef= .pointer (some ⟨g,0,none⟩):=(hF.at_ 5 (by decide)).trans rfl
     obtain⟨c00,c01,c02,-,-,-⟩:=(b5.out.below hC b5.out.lt).cells
     obtain⟨c10,c11,c12,-,-,-⟩:=(b6.out.below hC b6.out.lt).cells
     exact zal (v:= .agg #[.bool b,.slice x.A x.n x.c,.int .i64 (plZ Z:Nat)]) rfl rfl (zac rfl) (by go_simp) hC rfl
    |1,ht=>
     cases ht
     have h23:a.tmps[23]?.getD undef= .agg #[.bool b,.slice x.A x.n x.c,.int .i64 (plZ Z:Nat)]:=(zae a 23).symm.trans (hd 0 23 rfl (by kernel_rfl))
     refine za8 rfl rfl (zac rfl) (zbq ⟨_,rfl⟩ h23 (enters_of Tryz.func147 (by kernel_rfl) rfl)) ((znl (W:=V) (u:= .bool b) (v:= .slice x.A x.n x.c) (Z:=Z) (HS4.out.keep hC)).mono ?_)
     rintro e2 V2 ⟨rfl,hb⟩
     exact⟨_,rfl,rfl,hb,hC.trans (hb.mono hC.size)⟩
    |2,ht=>
     cases ht
     have h5:a.tmps[5]?.getD undef= .pointer (some ⟨g,0,none⟩):=(hF.at_ 5 (by decide)).trans rfl
     exact zal (v:= .pointer (some ⟨g,0,none⟩)) rfl rfl (zac rfl) (by go_simp) hC rfl
    |3,ht=>
     cases ht
     have h25:a.tmps[25]?.getD undef= .pointer (some ⟨g,0,none⟩):=(zae a 25).symm.trans (hd 2 25 rfl (by kernel_rfl))
     exact zal (v:= .pointer (some ⟨g,1,none⟩)) rfl rfl (zac rfl) (by go_simp) hC rfl
    |4,ht=>
     cases ht
     have h26:a.tmps[26]?.getD undef= .pointer (some ⟨g,1,none⟩):=(zae a 26).symm.trans (hd 3 26 rfl (by kernel_rfl))
     obtain⟨c00,c01,c02,-,-,-⟩:=(b5.out.below hC b5.out.lt).cells
     obtain⟨c10,c11,c12,-,-,-⟩:=(b6.out.below hC b6.out.lt).cells
     exact zal (v:= .slice x.A x.n x.c) rfl rfl (zac rfl) (by go_simp) hC rfl
    |5,ht=>
     cases ht
     have h6:a.tmps[6]?.getD undef= .pointer (some ⟨g',0,none⟩):=(hF.at_ 6 (by decide)).trans rfl
     exact zal (v:= .pointer (some ⟨g',0,none⟩)) rfl rfl (zac rfl) (by go_simp) hC rfl
    |6,ht=>
     cases ht
     have h28:a.tmps[28]?.getD undef= .pointer (some ⟨g',0,none⟩):=(zae a 28).symm.trans (hd 5 28 rfl (by kernel_rfl))
     exact zal (v:= .pointer (some ⟨g',1,none⟩)) rfl rfl (zac rfl) (by go_simp) hC rfl
    |7,ht=>
     cases ht
     have h29:a.tmps[29]?.getD undef= .pointer (some ⟨g',1,none⟩):=(zae a 29).symm.trans (hd 6 29 rfl (by kernel_rfl))
     obtain⟨c00,c01,c02,-,-,-⟩:=(b5.out.below hC b5.out.lt).cells
     obtain⟨c10,c11,c12,-,-,-⟩:=(b6.out.below hC b6.out.lt).cells
     exact zal (v:= .slice y.A y.n y.c) rfl rfl (zac rfl) (by go_simp) hC rfl
    |8,ht=>
     cases ht
     have h27:a.tmps[27]?.getD undef= .slice x.A x.n x.c:=(zae a 27).symm.trans (hd 4 27 rfl (by kernel_rfl))
     have h30:a.tmps[30]?.getD undef= .slice y.A y.n y.c:=(zae a 30).symm.trans (hd 7 30 rfl (by kernel_rfl))
     have ox:=OX4.out V hC
     have oy:=OY4.out V hC
     refine za8 rfl rfl (zac rfl) (zdR ⟨_,rfl⟩ h27 h30 (enters_of Tryz.func117 (by kernel_rfl) rfl)) ((zg3 x.A y.A x.n y.n x.c y.c x.N y.N V ox.1 oy.1 (by have:=ox.2.2.2;omega) (by have:=oy.2.2.2;omega)).mono ?_)
     rintro e2 V2 ⟨rfl,hb⟩
     exact⟨_,rfl,rfl,hb,hC.trans (hb.mono hC.size)⟩
    |9,ht=>
     cases ht
     have h24:a.tmps[24]?.getD undef= .int .i64 Z.sign:=(zae a 24).symm.trans (hd 1 24 rfl (by kernel_rfl))
     have h31:a.tmps[31]?.getD undef= .int .i64 (zcj x.N y.N):=(zae a 31).symm.trans (hd 8 31 rfl (by kernel_rfl))
     have hm:=HM.out
     exact zal (v:= .int .i64 (zcw Z Z')) rfl rfl (zac rfl) (by go_simp) hC rfl
    |k+10,ht=>simp at ht
   ·intro a2 V2 hC hF hf
    have p32:a2.tmps[32]?.getD undef= .int .i64 (zcw Z Z'):=(zae a2 32).symm.trans (hf 9 32 rfl)
    have hdf:a2.defers=[]:=hF.defers
    have hsz:a2.tmps.size=33:=hF.size
    clear hf hF
    show wpList _ _ _ [_] a2 V2
    go_wp2
    refine bodyPost_ret (results_tmp rfl _ _ _) (by first|exact hdf|simp|simpa using hdf) ?_
    exact⟨by simp[hsz]at p32 ⊢;exact p32,(HE4.out.step (hC.mono zv0)).over HO.out⟩
end
end Go.Proofs.YtipckjmgdghkiaaGreatDoor
