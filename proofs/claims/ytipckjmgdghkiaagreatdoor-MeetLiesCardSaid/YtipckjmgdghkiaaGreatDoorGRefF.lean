/- Contract of the reference's Sign of layer 5. -/
import Derived.Test.YtipckjmgdghkiaaGreatDoorGRefE
import Derived.Test.YtipckjmgdghkiaaGreatDoorGSintD
set_option maxHeartbeats 8000000
set_option maxRecDepth 100000
namespace Go.Proofs.YtipckjmgdghkiaaGreatDoor
open Go Go.RowKit
section
variable {w W:World}{e:List Num}{x y:Num}
theorem Env.setbox {g n c:Nat}{b:Bool}{A:Option Addr}{T:TypeId}(h:Env w e W)(B:Box2 W g T (.bool b) (.slice A n c))(hg:w.heap.size<=g)(b':Bool)(u:Value):
  Env w e ((W.setCell ⟨g,0,none⟩ (.bool b')).setCell ⟨g,1,none⟩ u):=
 ⟨(h.1.setCell (p:=⟨g,0,none⟩) hg _).setCell (p:=⟨g,1,none⟩) hg _,fun z hz=>(h.2 z hz).box B⟩
theorem zne {Z:Int}(h:Z≠0): ¬lenL Z.natAbs=0:=fun h2=>h (by have:=zbF.1 h2;omega)
theorem zk9 {b:Bool}{Z:Int}(h:Env w e W)(hx:x∈e)(hz:zOf b x.N=Z):
  Calls Tryz.prog 68 #[.agg #[.bool b,.slice x.A x.n x.c]] W fun e' W'=>e'= .returned (.int .i64 Z.sign)/\Env w e W':=by
 have HE:=h.alloc (.cells #[.bool b,.slice x.A x.n x.c] 25)
 have HO:=zvY HE.1
 have hs:=h.1.size
 have B1:=zvY (Box2.new W 25 (.bool b) (.slice x.A x.n x.c))
 have EN:=zvY (zcR b HE.here hx)
 rw[hz]at EN
 obtain⟨c1,c2,-,-⟩:=B1.out.cells
 clear h hx hz HE
 go_enter Tryz.func68,Tryz.ntmps68
 go_wp2_with fail
 refine EN.out.mono ?_
 rintro e1 W2 ⟨r,rfl,-,rn,hE2⟩
 have hB2:=B1.out.below hE2.1 B1.out.lt
 obtain⟨d1,d2,d3,d4⟩:=hB2.cells
 obtain⟨X,hX⟩:∃X,(W2.setCell ⟨W.heap.size,0,none⟩ (.bool (decide (Z<0)))).setCell ⟨W.heap.size,1,none⟩ (.slice r.A r.n r.c)=X:=⟨_,rfl⟩
 have hbX:=hB2.set (.bool (decide (Z<0))) (.slice r.A r.n r.c)
 have hEX:=(hE2.over HO.out).setbox hB2 (by omega) (decide (Z<0)) (.slice r.A r.n r.c)
 rw[hX]at hbX hEX
 obtain⟨f1,f2,-,-⟩:=hbX.cells
 have HEX:=zvY (hEX.pick (e':=e) (fun z hz=>by simp[hz]))
 have HN:=zvY rn
 clear hB2 hbX hEX hE2 rn
 rcases Int.lt_trichotomy Z 0 with hz|hz|hz
 ·have hr: ¬r.n=0:=by rw[HN.out];exact zne (by omega)
  have hd:decide (Z<0)=true:=decide_eq_true hz
  have HS:=zvY (Int.sign_eq_neg_one_of_neg hz)
  rw[hd]at f1 hX ⊢
  clear hz hd
  go_wp2
  go_ret
  exact⟨by rw[HS.out];rfl,HEX.out⟩
 ·subst hz
  have hr:r.n=0:=by rw[HN.out];rfl
  rw[hr]at hX f2 ⊢
  rw[show decide ((0:Int)<0)=false from rfl]at hX f1 ⊢
  clear hr HN
  go_wp2
  go_ret
  exact⟨rfl,HEX.out⟩
 ·have hr: ¬r.n=0:=by rw[HN.out];exact zne (by omega)
  have hd:decide (Z<0)=false:=decide_eq_false (by omega)
  have HS:=zvY (Int.sign_eq_one_of_pos hz)
  rw[hd]at f1 hX ⊢
  clear hz hd
  go_wp2
  go_ret
  exact⟨by rw[HS.out];rfl,HEX.out⟩
theorem zoN (h:Env w e W)(hx:x∈e)(hy:y∈e)(bx:x.n<=100000)(by':y.n<=100000)(hlt:x.N<y.N):
  Calls Tryz.prog 166 #[.slice x.A x.n x.c,.slice y.A y.n y.c] W fun e' W'=>e'= .returned (.tuple #[.slice none 0 0,.int .i64 10])/\Env w e W':=
 (zjL W _ _ _ _ _ _ _ _ (h.2 x hx).1 (h.2 y hy).1 (by omega) (by omega) hlt).mono fun _ _ ⟨he,hb⟩=>⟨he,by rw[<-hb];exact h⟩
def RepLit2 (x y:Num)(v:Value)(V:World):Prop:=∃g,v= .slice (some ⟨g,0,none⟩) 2 2/\V.heap[g]?=some (.cells #[.slice x.A x.n x.c,.slice y.A y.n y.c] 23 (0,0))
theorem RepLit2.keep {x y:Num}{v:Value}{V V':World}(h:RepLit2 x y v V)(hb:Below V.heap.size V V'):RepLit2 x y v V':=by
 obtain⟨g,h1,h2⟩:=h
 exact⟨g,h1,(hb.block g (Array.getElem?_eq_some_iff.1 h2).1).trans h2⟩
theorem RepLit2.rds {V:World}{g:Nat}(h:V.heap[g]?=some (.cells #[.slice x.A x.n x.c,.slice y.A y.n y.c] 23 (0,0))) (hx:x.ok V V.heap.size) (hy:y.ok V V.heap.size):Rds V V.heap.size (some ⟨g,0,none⟩) [x,y]:=fun k hk=>by
 have hlt:=(Array.getElem?_eq_some_iff.1 h).1
 match k,hk with
 |0,_=>exact⟨⟨_,rfl,hlt,by rw[zaW];simp[World.cell?,h]⟩,hx⟩
 |1,_=>exact⟨⟨_,rfl,hlt,by rw[zaW];simp[World.cell?,h]⟩,hy⟩
section
variable {ops:Array Oper}{Q:Exit -> Act -> World -> Prop}{C:World -> Prop}{a:Act}{V:World}{i:Nat}{t t1 t2:Tmp}{o:Oper}
theorem zoO (ho:ops[i]?=some o)(hd:o.dst=some t)(hw:Region.wanted o (yielded ops a.tmps)=true)(hop:o.op= .buildSlice 159 2 #[(0,.tmp t1),(1,.tmp t2)]) (h1:a.tmps[t1]?.getD undef= .slice x.A x.n x.c) (h2:a.tmps[t2]?.getD undef= .slice y.A y.n y.c) (hC:∀V',Below V.heap.size V V'->C V'):
  wpOp Tryz.prog ops Q i (fun a' w'=>∃v,a'=a.put (some t) v/\RepLit2 x y v w'/\Below V.heap.size V w'/\C w') a V:=by
 have hb:Below V.heap.size V (V.alloc (.cells #[.slice x.A x.n x.c,.slice y.A y.n y.c] 23)):=zv1.alloc zv0 _
 refine zeR (v:= .slice (some ⟨V.heap.size,0,none⟩) 2 2) (w':=V.alloc (.cells #[.slice x.A x.n x.c,.slice y.A y.n y.c] 23)) ho hd hw ?_ hb (hC _ hb) ⟨_,rfl,World.alloc_heap_new' _ _⟩
 obtain⟨dst,op,ty,pos,after,guard⟩:=o
 simp only at hop
 subst hop
 go_simp
theorem zoP {v1:Value}(ho:ops[i]?=some o)(hd:o.dst=some t)(hw:Region.wanted o (yielded ops a.tmps)=true)(hC:∀V',Below V.heap.size V V'->C V')(hr:(execOp a.eval o).run Tryz.prog V= .ok (.enter 162 #[v1]) V) (h:RepLit2 x y v1 V) (hx:x.ok V V.heap.size) (hy:y.ok V V.heap.size) (bx:x.n<=900) (by':y.n<=900):
  wpOp Tryz.prog ops Q i (fun a' w'=>∃v,a'=a.put (some t) v/\RepN (x.N+y.N) v w'/\Below V.heap.size V w'/\C w') a V:=by
 obtain⟨g,rfl,hg⟩:=h
 have hE:Env V [x,y] V:=Env.start (by simp[hx,hy])
 have hlen:=zjl hE (x:=x) (y:=y) (by simp) (by simp) (b:=900) bx by'
 have hS:zbO [x,y]=x.N+y.N:=by simp[zbO]
 refine za8 ho hd hw hr ((zk8 V _ 2 [x,y] (RepLit2.rds hg hx hy) (by simp) (by
  intro u hu
  simp only[List.mem_cons,List.not_mem_nil,or_false]at hu
  rcases hu with rfl|rfl <;> omega) (by rw[hS];omega)).mono ?_)
 intro e' w' hgv
 rw[hS]at hgv
 obtain⟨r,rfl,n1,n2,hE2⟩:=zbB hE hgv (by omega)
 exact⟨_,rfl,⟨r,rfl,n1,n2,hE2.2 r (by simp)⟩,hE2.1,hC _ hE2.1⟩
end
theorem zsA {b b':Bool}{Z Z' D:Int}(h:Env w e W)(hx:x∈e)(hy:y∈e)(lx:x.n<=900)(ly:y.n<=900)(hz:zOf b x.N=Z)(hz':zOf b' y.N=Z')(hD:Z+Z'=D):
  Calls Tryz.prog 145 #[.agg #[.bool b,.slice x.A x.n x.c],.agg #[.bool b',.slice y.A y.n y.c]] W (Zs w e D):=by
 obtain⟨W1,hW1⟩:∃W1,((W.alloc (.cells #[.bool b,.slice x.A x.n x.c] 25)).alloc (.cells #[.bool b',.slice y.A y.n y.c] 25)).alloc (.cells #[.bool false,.slice none 0 0] 25)=W1:=⟨_,rfl⟩
 have HE:=((h.alloc (.cells #[.bool b,.slice x.A x.n x.c] 25)).alloc (.cells #[.bool b',.slice y.A y.n y.c] 25)).alloc (.cells #[.bool false,.slice none 0 0] 25)
 have hs:=h.1.size
 have B1:=((Box2.new W 25 (.bool b) (.slice x.A x.n x.c)).alloc (.cells #[.bool b',.slice y.A y.n y.c] 25)).alloc (.cells #[.bool false,.slice none 0 0] 25)
 have B2:=(Box2.new (W.alloc (.cells #[.bool b,.slice x.A x.n x.c] 25)) 25 (.bool b') (.slice y.A y.n y.c)).alloc (.cells #[.bool false,.slice none 0 0] 25)
 have B4:=Box2.new ((W.alloc (.cells #[.bool b,.slice x.A x.n x.c] 25)).alloc (.cells #[.bool b',.slice y.A y.n y.c] 25)) 25 (.bool false) (.slice none 0 0)
 rw[World.size_alloc]at B2
 rw[World.size_alloc,World.size_alloc]at B4
 rw[hW1]at HE B1 B2 B4
 have HO:=zvY HE.1
 replace HE:=zvY HE.here
 replace B1:=zvY B1
 replace B2:=zvY B2
 replace B4:=zvY B4
 have OX:=zvY (fun V (hb:Below W1.heap.size W1 V)=>(HE.out.2 x hx).later hb)
 have OY:=zvY (fun V (hb:Below W1.heap.size W1 V)=>(HE.out.2 y hy).later hb)
 have HB:=zvY (And.intro lx ly)
 have HX:=zvY (And.intro hx hy)
 obtain⟨c1,c2,-,-⟩:=B1.out.cells
 obtain⟨c3,c4,-,-⟩:=B2.out.cells
 have HZ:=zvY (show zOf b x.N+zOf b' y.N=D by rw[hz,hz',hD])
 have FN:∀(b0:Bool) (r:Num) (W2:World),zOf b0 r.N=D->Env W1 (r::e) W2->Calls Tryz.prog 108 #[.agg #[.bool b0,.slice r.A r.n r.c]] W2 fun e' W3=>∃q:Num,e'= .returned (.agg #[.bool (decide (D<0)),.slice q.A q.n q.c])/\Box2 W3 (W.heap.size+1+1) 25 (.bool false) (.slice none 0 0)/\
   Zs w e D (.returned (.agg #[.bool (decide (D<0)),.slice q.A q.n q.c])) ((W3.setCell ⟨W.heap.size+1+1,0,none⟩ (.bool (decide (D<0)))).setCell ⟨W.heap.size+1+1,1,none⟩ (.slice q.A q.n q.c)):=fun b0 r W2 h0 hE2=>by
  have:=zcR b0 hE2 (x:=r) (by simp)
  rw[h0]at this
  refine this.mono ?_
  rintro e' W3 ⟨q,rfl,qN,qn,hE3⟩
  have hB3:=B4.out.below hE3.1 B4.out.lt
  exact⟨q,rfl,hB3,zfA HO.out HE.out hE3.1 (hE3.2 q (by simp)) hB3 (by omega) qN qn⟩
 replace FN:=zvY FN
 clear h hx hy hz hz' hD lx ly
 by_cases hbb:b=b'
 ·subst hbb
  have HLN:=zvY (show lenL (x.N+y.N)<=10000 by have:=zjl HE.out HX.out.1 HX.out.2 (b:=900) HB.out.1 HB.out.2;omega)
  have HD:=zvY (show zOf b (x.N+y.N)=D by rw[<-HZ.out];cases b <;> simp[zOf];omega)
  go_enter Tryz.func145,Tryz.ntmps145
  go_wp2
  clear hW1 c1 c2 c3 c4
  refine zbn 10 [12,13,14,15,16,17,18,19,20,21] (fun i v V=>match i with
    |0=>v= .pointer (some ⟨W.heap.size,0,none⟩)
    |1=>v= .bool b
    |2=>v= .pointer (some ⟨W.heap.size,1,none⟩)
    |3=>v= .slice x.A x.n x.c
    |4=>v= .pointer (some ⟨W.heap.size+1,1,none⟩)
    |5=>v= .slice y.A y.n y.c
    |6=>RepLit2 x y v V
    |7=>RepN (x.N+y.N) v V
    |8=>RepZ D v V
    |_=>RepT D v V) (fun V=>Below W1.heap.size W1 V) (by kernel_rfl) (by kernel_rfl) rfl (by decide) (by first|(simp;done)|(simp;done)) zv1.drew ?_ ?_ ?_
  ·intro i v V V2 hf hb _
   match i,hf with
   |0,hf=>exact hf
   |1,hf=>exact hf
   |2,hf=>exact hf
   |3,hf=>exact hf
   |4,hf=>exact hf
   |5,hf=>exact hf
   |6,hf=>exact RepLit2.keep hf hb
   |7,hf=>exact RepN.keep hf hb
   |8,hf=>exact RepZ.keep hf hb
   |_+9,hf=>exact RepT.keep hf hb
  ·intro i t ht a V hC hF hd
   match i,ht with
   |0,ht=>
    cases ht
    have h2:a.tmps[2]?.getD undef= .pointer (some ⟨W.heap.size,0,none⟩):=(hF.at_ 2 (by decide)).trans rfl
    exact zal (v:= .pointer (some ⟨W.heap.size,0,none⟩)) rfl rfl (zac rfl) (by go_simp) hC rfl
   |1,ht=>
    cases ht
    have h12:a.tmps[12]?.getD undef= .pointer (some ⟨W.heap.size,0,none⟩):=(zae a 12).symm.trans (hd 0 12 rfl (by kernel_rfl))
    obtain⟨c00,c01,-,-⟩:=(B1.out.below hC B1.out.lt).cells
    obtain⟨c10,c11,-,-⟩:=(B2.out.below hC B2.out.lt).cells
    exact zal (v:= .bool b) rfl rfl (zac rfl) (by go_simp) hC rfl
   |2,ht=>
    cases ht
    have h2:a.tmps[2]?.getD undef= .pointer (some ⟨W.heap.size,0,none⟩):=(hF.at_ 2 (by decide)).trans rfl
    exact zal (v:= .pointer (some ⟨W.heap.size,1,none⟩)) rfl rfl (zac rfl) (by go_simp) hC rfl
   |3,ht=>
    cases ht
    have h14:a.tmps[14]?.getD undef= .pointer (some ⟨W.heap.size,1,none⟩):=(zae a 14).symm.trans (hd 2 14 rfl (by kernel_rfl))
    obtain⟨c00,c01,-,-⟩:=(B1.out.below hC B1.out.lt).cells
    obtain⟨c10,c11,-,-⟩:=(B2.out.below hC B2.out.lt).cells
    exact zal (v:= .slice x.A x.n x.c) rfl rfl (zac rfl) (by go_simp) hC rfl
   |4,ht=>
    cases ht
    have h3:a.tmps[3]?.getD undef= .pointer (some ⟨W.heap.size+1,0,none⟩):=(hF.at_ 3 (by decide)).trans rfl
    exact zal (v:= .pointer (some ⟨W.heap.size+1,1,none⟩)) rfl rfl (zac rfl) (by go_simp) hC rfl
   |5,ht=>
    cases ht
    have h16:a.tmps[16]?.getD undef= .pointer (some ⟨W.heap.size+1,1,none⟩):=(zae a 16).symm.trans (hd 4 16 rfl (by kernel_rfl))
    obtain⟨c00,c01,-,-⟩:=(B1.out.below hC B1.out.lt).cells
    obtain⟨c10,c11,-,-⟩:=(B2.out.below hC B2.out.lt).cells
    exact zal (v:= .slice y.A y.n y.c) rfl rfl (zac rfl) (by go_simp) hC rfl
   |6,ht=>
    cases ht
    have h15:a.tmps[15]?.getD undef= .slice x.A x.n x.c:=(zae a 15).symm.trans (hd 3 15 rfl (by kernel_rfl))
    have h17:a.tmps[17]?.getD undef= .slice y.A y.n y.c:=(zae a 17).symm.trans (hd 5 17 rfl (by kernel_rfl))
    exact zoO rfl rfl (zac rfl) rfl h15 h17 (fun V2 hb=>hC.trans (hb.mono hC.size))
   |7,ht=>
    cases ht
    have r18:RepLit2 x y (a.tmps.getD 18 undef) V:=hd 6 18 rfl (by kernel_rfl)
    have h18:a.tmps[18]?.getD undef=a.tmps.getD 18 undef:=(zae a 18).symm
    exact zoP rfl rfl (zac rfl) (fun V2 hb=>hC.trans (hb.mono hC.size)) (zbq ⟨_,rfl⟩ h18 (enters_of Tryz.func162 (by kernel_rfl) rfl)) r18 (OX.out V hC) (OY.out V hC) HB.out.1 HB.out.2
   |8,ht=>
    cases ht
    have h13:a.tmps[13]?.getD undef= .bool b:=(zae a 13).symm.trans (hd 1 13 rfl (by kernel_rfl))
    have r19:RepN (x.N+y.N) (a.tmps.getD 19 undef) V:=hd 7 19 rfl (by kernel_rfl)
    have h19:a.tmps[19]?.getD undef=a.tmps.getD 19 undef:=(zae a 19).symm
    obtain⟨r,hr,n1,n2,hk⟩:=r19
    rw[hr]at h19
    exact zal (v:= .agg #[.bool b,.slice r.A r.n r.c]) rfl rfl (zac rfl) (by go_simp) hC ⟨b,r,rfl,by rw[n1];exact HD.out,by rw[n2];exact HLN.out,hk⟩
   |9,ht=>
    cases ht
    have r20:RepZ D (a.tmps.getD 20 undef) V:=hd 8 20 rfl (by kernel_rfl)
    have h20:a.tmps[20]?.getD undef=a.tmps.getD 20 undef:=(zae a 20).symm
    obtain⟨b0,r0,hr0,z0,l0,k0⟩:=r20
    rw[hr0]at h20
    have EN:=zcR b0 (w:=V) (W:=V) (e:=[r0]) (x:=r0) (Env.start (by simp only[List.mem_singleton,forall_eq];exact k0)) (by simp)
    rw[z0]at EN
    refine za8 rfl rfl (zac rfl) (zbq ⟨_,rfl⟩ h20 (enters_of Tryz.func108 (by kernel_rfl) rfl)) (EN.mono ?_)
    rintro e2 V2 ⟨q,rfl,q1,q2,hE2⟩
    exact⟨_,rfl,⟨q,rfl,q1,q2,hE2.2 q (by simp)⟩,hE2.1,hC.trans (hE2.1.mono hC.size)⟩
   |k+10,ht=>simp at ht
  ·intro a2 V2 hC hF hf
   have p2:a2.tmps[4]?.getD undef= .pointer (some ⟨W.heap.size+1+1,0,none⟩):=(hF.at_ 4 (by decide)).trans rfl
   obtain⟨r,p8,n1,n2,hk⟩:=(hf 9 21 rfl:RepT D (a2.tmps.getD 21 undef) V2)
   rw[zae]at p8
   have hdf:a2.defers=[]:=hF.defers
   have hB2:=B4.out.below hC B4.out.lt
   obtain⟨c1,c2,c3,c4⟩:=hB2.cells
   replace n1:=zvY n1
   replace n2:=zvY n2
   clear hf hF
   show wpList _ _ _ [_] a2 V2
   go_wp2
   exact bodyPost_ret (zbp (hB2.set _ _) rfl (by simpa using p2)) (by first|exact hdf|simp|simpa using hdf) (zfA HO.out HE.out hC hk hB2 (by omega) n1.out n2.out)
 ·have hne:(b==b')=false:=by simp[hbb]
  have HS:b'= !b:=by cases b <;> cases b' <;> simp_all
  by_cases hle:y.N<=x.N
  ·have ES:=zvY (zgv HE.out HX.out.1 HX.out.2 (by have:=HB.out.1;omega) (by have:=HB.out.2;omega) hle)
   have HD:=zvY (show zOf b (x.N - y.N)=D by rw[<-HZ.out,HS];cases b <;> simp[zOf] <;> omega)
   clear hle HS
   go_enter Tryz.func145,Tryz.ntmps145
   go_wp2_with fail
   clear hW1
   refine ES.out.mono ?_
   rintro e1 W2 ⟨r,rfl,rN,rn,hE2,-⟩
   have FC:=zvY (FN.out b r W2 (by rw[rN];exact HD.out) hE2)
   obtain⟨d1,d2,-,-⟩:=(B1.out.below hE2.1 B1.out.lt).cells
   clear rN rn hE2 c1 c2 c3 c4
   go_wp2_with fail
   refine FC.out.mono ?_
   rintro e2 W3 ⟨q,rfl,hB3,hz⟩
   obtain⟨f1,f2,f3,f4⟩:=hB3.cells
   have HZZ:=zvY hz
   have HB3:=zvY hB3
   clear hz hB3
   go_wp2
   exact bodyPost_ret (zbp (HB3.out.set _ _) rfl rfl) rfl HZZ.out
  ·have ES:=zvY (zoN HE.out HX.out.1 HX.out.2 (by have:=HB.out.1;omega) (by have:=HB.out.2;omega) (by omega))
   have HD:=zvY (show zOf b' (y.N - x.N)=D by rw[<-HZ.out,HS];cases b <;> simp[zOf] <;> omega)
   have HL:=zvY (show x.N<=y.N by omega)
   clear hle HS
   go_enter Tryz.func145,Tryz.ntmps145
   go_wp2_with fail
   clear hW1
   refine ES.out.mono ?_
   rintro e1 W2 ⟨rfl,hE2⟩
   have ES2:=zvY (zgv hE2 HX.out.2 HX.out.1 (by have:=HB.out.2;omega) (by have:=HB.out.1;omega) HL.out)
   obtain⟨d1,d2,-,-⟩:=(B1.out.below hE2.1 B1.out.lt).cells
   obtain⟨d3,d4,-,-⟩:=(B2.out.below hE2.1 B2.out.lt).cells
   clear hE2 c1 c2 c3 c4
   go_wp2_with fail
   refine ES2.out.mono ?_
   rintro e1 W3 ⟨r,rfl,rN,rn,hE3,-⟩
   have FC:=zvY (FN.out b' r W3 (by rw[rN];exact HD.out) hE3)
   obtain⟨g1,g2,-,-⟩:=(B2.out.below hE3.1 B2.out.lt).cells
   clear rN rn hE3 d1 d2 d3 d4
   go_wp2_with fail
   refine FC.out.mono ?_
   rintro e2 W4 ⟨q,rfl,hB3,hz⟩
   obtain⟨f1,f2,f3,f4⟩:=hB3.cells
   have HZZ:=zvY hz
   have HB3:=zvY hB3
   clear hz hB3
   go_wp2
   exact bodyPost_ret (zbp (HB3.out.set _ _) rfl rfl) rfl HZZ.out
end
section
variable {w W:World}{e:List Num}
def zbm (l:List (Bool×Num))(k:Nat):Int:=zdl (l.take k)
theorem zgP {l:List (Bool×Num)}{k:Nat}(hk:k<l.length):zbm l k+zP l[k]=zbm l (k+1):=by
 unfold zbm zdl
 rw[List.take_add_one,List.getElem?_eq_getElem hk,List.map_append,List.sum_append]
 simp
theorem zmp {l:List (Bool×Num)}{K k:Nat}(h':∀z∈l,z.2.N<Bw^z.2.n/\z.2.n<=K)(hk:k<=4000000000):lenL (zbm l k).natAbs<=K+1:=by
 have h:∀z∈l,z.2.N<Bw^K:=fun z hz=>zaz (h' z hz).1 (h' z hz).2
 rw[zai]
 have key:∀m,m<=k->(zbm l m).natAbs<=m*Bw^K:=by
  intro m
  induction m with
  |zero=>intro _;simp[zbm,zdl]
  |succ m ih=>
   intro hm
   have h1:=ih (by omega)
   by_cases hml:m<l.length
   ·rw[<-zgP hml]
    have h2:=Int.natAbs_add_le (zbm l m) (zP l[m])
    have h3:(zP l[m]).natAbs=l[m].2.N:=zbu _ _
    have h4:=h l[m] (List.getElem_mem hml)
    rw[Nat.add_mul,Nat.one_mul]
    omega
   ·have e:zbm l (m+1)=zbm l m:=by unfold zbm;rw[List.take_of_length_le (by omega),List.take_of_length_le (by omega)]
    rw[e,Nat.add_mul]
    omega
 refine zv4 (key k zv0) ?_
 rw[Nat.pow_succ,Nat.mul_comm]
 exact(Nat.mul_lt_mul_left (zag K)).2 (by rw[za4];omega)
theorem znf (A:Option Addr)(c:Nat)(l:List (Bool×Num))(h:Env w e W)(hZ:ZRds W W.heap.size A l)(hl:l.length<=1000)(hn:∀z∈l,z.2.n<=800):
  Calls Tryz.prog 109 #[.slice A l.length c] W (Zs w e (zdl l)):=by
 obtain⟨W1,hW1⟩:∃W1,(W.alloc (.cells #[.bool false,.slice none 0 0] 25)).alloc (.cells #[.bool false,.slice none 0 0] 25)=W1:=⟨_,rfl⟩
 have HE:=(h.alloc (.cells #[.bool false,.slice none 0 0] 25)).alloc (.cells #[.bool false,.slice none 0 0] 25)
 have hB1:=(((Below.refl W.heap.size W).alloc zv0 (.cells #[.bool false,.slice none 0 0] 25)).alloc (by simp) (.cells #[.bool false,.slice none 0 0] 25))
 have hs:=h.1.size
 have BR:=(Box2.new W 25 (.bool false) (.slice none 0 0)).alloc (.cells #[.bool false,.slice none 0 0] 25)
 have BO:=Box2.new (W.alloc (.cells #[.bool false,.slice none 0 0] 25)) 25 (.bool false) (.slice none 0 0)
 rw[World.size_alloc]at BO
 have hsz1:W1.heap.size=W.heap.size+2:=by rw[<-hW1];simp
 rw[hW1]at HE BR BO hB1
 have HLN:=zvY (fun k=>zmp (l:=l) (K:=800) (k:=min k 1000) (fun z hz=>by
  obtain⟨i,hi,rfl⟩:=List.mem_iff_getElem.1 hz
  exact⟨(hZ i hi).2.1.1,hn _ hz⟩) (by omega))
 go_enter Tryz.func109,Tryz.ntmps109
 go_wp2
 rename_i K hK
 have HK:=zvY hK
 clear hK
 go_loopw [4] (fun i wr=>∃(k:Nat) (r:Num),k<=l.length/\i= .int .i64 k/\Hid (Box2 wr (W.heap.size+1) 25 (.bool (decide (zbm l k<0))) (.slice r.A r.n r.c))/\Hid (r.N=(zbm l k).natAbs)/\Hid (r.n=lenL (zbm l k).natAbs)/\Hid (Below (W.heap.size+1) W1 wr)/\Hid (r.ok wr wr.heap.size)/\Hid (W1.heap.size<=wr.heap.size)) (fun i _=>l.length - (intOf i).toNat)
 case atStart=>exact⟨0,⟨none,0,0,0⟩,Nat.zero_le _,rfl,zvY BO,zvY rfl,zvY rfl,zvY zv1,zvY (HE.nought.2 _ (by simp)),zvY zv0⟩
 case round=>
  obtain⟨k,r,hk,rfl,hb,hrN,hrn,hB,hok,hsz⟩:=hrel
  by_cases hlt:k<l.length
  ·have hBW:Below W.heap.size W wr:=hB1.trans (hB.out.mono (by omega))
   obtain⟨⟨ad,rfl,hab,hcb,hcs⟩,hek⟩:=(hZ.below hBW) k hlt
   rw[zgx]at hcs
   have HAB:=zvY (show ad.block<wr.heap.size by have:=hBW.size;omega)
   have HCB:=zvY hcb
   have HCS:=zvY hcs
   have OE:=zvY (hek.more hBW.size)
   have hmin:min k 1000=k:=by omega
   have hl1:=HLN.out k
   rw[hmin]at hl1
   have LR:=zvY (show r.n<=900 by rw[hrn.out];omega)
   have LE:=zvY (show lenL (zP l[k]).natAbs<=900 by rw[show(zP l[k]).natAbs=l[k].2.N from zbu _ _];have:=zai.2 hek.1.1;have:=hn _ (List.getElem_mem hlt);omega)
   have HSU:=zvY (zgP hlt)
   have HZR:=zvY (show zOf (decide (zbm l k<0)) r.N=zbm l k by rw[hrN.out,zc7])
   clear hcb hcs hek hmin hl1 hBW
   go_wp2
   refine zbn 7 [11,12,13,14,15,16,17] (fun i v V=>match i with
     |0=>v= .agg #[.bool (decide (zbm l k<0)),.slice r.A r.n r.c]
     |1=>v= .slice (some ad) l.length c
     |2=>v= .int .i64 (k:Nat)
     |3=>v= .pointer (some (ad.add (k*2)))
     |4=>v= .agg #[.bool l[k].1,.slice l[k].2.A l[k].2.n l[k].2.c]
     |5=>RepT (zP l[k]) v V
     |_=>RepT (zbm l (k+1)) v V) (fun V=>Below wr.heap.size wr V) (by kernel_rfl) (by kernel_rfl) rfl (by decide) (by first|(simp;done)|(simp;done)) zv1.drew ?_ ?_ ?_
   ·intro i v V V2 hf hb _
    match i,hf with
    |0,hf=>exact hf
    |1,hf=>exact hf
    |2,hf=>exact hf
    |3,hf=>exact hf
    |4,hf=>exact hf
    |5,hf=>exact RepT.keep hf hb
    |_+6,hf=>exact RepT.keep hf hb
   ·intro i t ht a V hC hF hd
    match i,ht with
    |0,ht=>
     cases ht
     have h3:a.tmps[3]?.getD undef= .pointer (some ⟨W.heap.size+1,0,none⟩):=(hF.at_ 3 (by decide)).trans rfl
     obtain⟨c00,c01,-,-⟩:=(hb.out.below hC hb.out.lt).cells
     exact zal (v:= .agg #[.bool (decide (zbm l k<0)),.slice r.A r.n r.c]) rfl rfl (zac rfl) (by go_simp) hC rfl
    |1,ht=>
     cases ht
     have h0:a.tmps[0]?.getD undef= .slice (some ad) l.length c:=(hF.at_ 0 (by decide)).trans rfl
     exact zal (v:= .slice (some ad) l.length c) rfl rfl (zac rfl) (by go_simp) hC rfl
    |2,ht=>
     cases ht
     have h4:a.tmps[4]?.getD undef= .int .i64 (k:Nat):=(hF.at_ 4 (by decide)).trans rfl
     exact zal (v:= .int .i64 (k:Nat)) rfl rfl (zac rfl) (by go_simp) hC rfl
    |3,ht=>
     cases ht
     have h12:a.tmps[12]?.getD undef= .slice (some ad) l.length c:=(zae a 12).symm.trans (hd 1 12 rfl (by kernel_rfl))
     have h13:a.tmps[13]?.getD undef= .int .i64 (k:Nat):=(zae a 13).symm.trans (hd 2 13 rfl (by kernel_rfl))
     exact zal (v:= .pointer (some (ad.add (k*2)))) rfl rfl (zac rfl) (by go_simp) hC rfl
    |4,ht=>
     cases ht
     have h14:a.tmps[14]?.getD undef= .pointer (some (ad.add (k*2))):=(zae a 14).symm.trans (hd 3 14 rfl (by kernel_rfl))
     have e1:=(hC.cell (p:=ad.add (k*2)) (by rw[zaM];exact HAB.out)).trans HCB.out
     have e2:=(hC.cell (p:=⟨(ad.add (k*2)).block,(ad.add (k*2)).off+1,none⟩) (by show(ad.add (k*2)).block<_;rw[zaM];exact HAB.out)).trans HCS.out
     exact zal (v:= .agg #[.bool l[k].1,.slice l[k].2.A l[k].2.n l[k].2.c]) rfl rfl (zac rfl) (by go_simp) hC rfl
    |5,ht=>
     cases ht
     have h15:a.tmps[15]?.getD undef= .agg #[.bool l[k].1,.slice l[k].2.A l[k].2.n l[k].2.c]:=(zae a 15).symm.trans (hd 4 15 rfl (by kernel_rfl))
     have hk:=OE.out.later hC
     have EN:=zcR l[k].1 (w:=V) (W:=V) (e:=[l[k].2]) (x:=l[k].2) (Env.start (by simp only[List.mem_singleton,forall_eq];exact hk)) (by simp)
     refine za8 rfl rfl (zac rfl) (zbq ⟨_,rfl⟩ h15 (enters_of Tryz.func108 (by kernel_rfl) rfl)) (EN.mono ?_)
     rintro e2 V2 ⟨q,rfl,q1,q2,hE2⟩
     exact⟨_,rfl,⟨q,rfl,q1,q2,hE2.2 q (by simp)⟩,hE2.1,hC.trans (hE2.1.mono hC.size)⟩
    |6,ht=>
     cases ht
     have h11:a.tmps[11]?.getD undef= .agg #[.bool (decide (zbm l k<0)),.slice r.A r.n r.c]:=(zae a 11).symm.trans (hd 0 11 rfl (by kernel_rfl))
     have r16:RepT (zP l[k]) (a.tmps.getD 16 undef) V:=hd 5 16 rfl (by kernel_rfl)
     have h16:a.tmps[16]?.getD undef=a.tmps.getD 16 undef:=(zae a 16).symm
     obtain⟨q,hq,q1,q2,qk⟩:=r16
     rw[hq]at h16
     have hk:=hok.out.later hC
     have ET:=zsA (w:=V) (W:=V) (e:=[r,q]) (x:=r) (y:=q) (b:=decide (zbm l k<0)) (b':=decide (zP l[k]<0)) (Env.start (by simp[hk,qk])) (by simp) (by simp) LR.out (by rw[q2];exact LE.out) HZR.out (by rw[q1,zc7]) HSU.out
     refine za8 rfl rfl (zac rfl) (zdR ⟨_,rfl⟩ h11 h16 (enters_of Tryz.func145 (by kernel_rfl) rfl)) (ET.mono ?_)
     rintro e2 V2 ⟨u,rfl,u1,u2,hE2⟩
     exact⟨_,rfl,⟨u,rfl,u1,u2,hE2.2 u (by simp)⟩,hE2.1,hC.trans (hE2.1.mono hC.size)⟩
    |k+7,ht=>simp at ht
   ·intro a2 V2 hC hF hf
    obtain⟨q,pq,q1,q2,qk⟩:=(hf 5 16 rfl:RepT (zP l[k]) (a2.tmps.getD 16 undef) V2)
    obtain⟨u,pu,u1,u2,uk⟩:=(hf 6 17 rfl:RepT (zbm l (k+1)) (a2.tmps.getD 17 undef) V2)
    have hlit:=zi1 (a:=a2) [.slice (some ad) l.length c,undef,.pointer (some ⟨W.heap.size,0,none⟩),.pointer (some ⟨W.heap.size+1,0,none⟩),.int .i64 (k:Nat),.int .i64 (k:Nat),.slice (some ad) l.length c,.int .i64 (l.length:Nat),.bool true,u9,u10,.agg #[.bool (decide (zbm l k<0)),.slice r.A r.n r.c],.slice (some ad) l.length c,.int .i64 (k:Nat),.pointer (some (ad.add (k*2))),.agg #[.bool l[k].1,.slice l[k].2.A l[k].2.n l[k].2.c],.agg #[.bool (decide (zP l[k]<0)),.slice q.A q.n q.c],.agg #[.bool (decide (zbm l (k+1)<0)),.slice u.A u.n u.c],undef,undef] (by simpa using hF.size) hF.defers (fun i hi=>match i,hi with
     |0,_=>(hF.same 0 (by decide)).trans rfl
     |1,_=>(hF.same 1 (by decide)).trans rfl
     |2,_=>(hF.same 2 (by decide)).trans rfl
     |3,_=>(hF.same 3 (by decide)).trans rfl
     |4,_=>(hF.same 4 (by decide)).trans rfl
     |5,_=>(hF.same 5 (by decide)).trans rfl
     |6,_=>(hF.same 6 (by decide)).trans rfl
     |7,_=>(hF.same 7 (by decide)).trans rfl
     |8,_=>(hF.same 8 (by decide)).trans rfl
     |9,_=>(hF.same 9 (by decide)).trans rfl
     |10,_=>(hF.same 10 (by decide)).trans rfl
     |11,_=>(hf 0 11 rfl:a2.tmps.getD 11 undef=_)
     |12,_=>(hf 1 12 rfl:a2.tmps.getD 12 undef=_)
     |13,_=>(hf 2 13 rfl:a2.tmps.getD 13 undef=_)
     |14,_=>(hf 3 14 rfl:a2.tmps.getD 14 undef=_)
     |15,_=>(hf 4 15 rfl:a2.tmps.getD 15 undef=_)
     |16,_=>pq
     |17,_=>pu
     |18,_=>(hF.same 18 (by decide)).trans rfl
     |19,_=>(hF.same 19 (by decide)).trans rfl
     |_+20,h=>absurd h (by simp only[List.length_cons,List.length_nil];omega))
    subst hlit
    have hbV:=hb.out.below hC hb.out.lt
    obtain⟨c1,c2,c3,c4⟩:=hbV.cells
    have HX:=zvY (hbV.set (.bool (decide (zbm l (k+1)<0))) (.slice u.A u.n u.c))
    have UK:=zvY (uk.box (b':=decide (zbm l (k+1)<0)) (u:= .slice u.A u.n u.c) hbV)
    have HBX:=zvY (((hB.out.trans (hC.mono (by have:=hsz.out;omega))).setCell (p:=⟨W.heap.size+1,0,none⟩) zv0 (.bool (decide (zbm l (k+1)<0)))).setCell (p:=⟨W.heap.size+1,1,none⟩) zv0 (.slice u.A u.n u.c))
    have HSX:=zvY (zv2 hsz.out hC.size)
    have U1:=zvY u1
    have U2:=zvY u2
    clear hf hF hC q1 q2 qk uk pq pu u1 u2 hbV
    show wpList _ _ _ [_] _ V2
    go_wp2
    go_roundw
    case rel=>exact⟨k+1,u,by omega,by go_num,HX,U1,U2,HBX,UK,zvY (by rw[World.size_setCell,World.size_setCell];exact HSX.out)⟩
    case measure=>simp[intOf];omega
  ·obtain rfl:k=l.length:=by omega
   go_wp2
   refine HK.out _ _ ?_
   clear HK
   have hEr:Env wr (r::e) wr:=⟨Below.refl _ _,fun z hz=>by
    rcases List.mem_cons.1 hz with rfl|hz
    ·exact hok.out
    ·exact((h.2 z hz).below (hB1.trans (hB.out.mono (by omega)))).more (by have:=hsz.out;omega)⟩
   have HO:=zvY (h.1.trans ((hB1.trans (hB.out.mono (by omega))).mono hs))
   have HB:=zvY hb.out
   have BRw:=zvY (BR.below hB.out (by omega))
   have EN:=zcR (decide (zbm l l.length<0)) hEr (x:=r) (by simp)
   rw[show zOf (decide (zbm l l.length<0)) r.N=zdl l by rw[hrN.out,zc7];unfold zbm;rw[List.take_length]]at EN
   obtain⟨c1,c2,-,-⟩:=hb.out.cells
   have HER:=zvY (hEr.pick (e':=e) (fun z hz=>by simp[hz]))
   clear hEr h hZ hn HE hb hrN hrn hB hok hsz
   go_wp2_with fail
   refine EN.mono ?_
   rintro e2 W3 ⟨q,rfl,qN,qn,hE3⟩
   have hB3:=BRw.out.below hE3.1 BRw.out.lt
   obtain⟨p1,p2,p3,p4⟩:=hB3.cells
   have HB3:=zvY hB3
   have HZ:=zvY (zfA HO.out HER.out hE3.1 (hE3.2 q (by simp)) hB3 hs qN qn)
   clear hE3 hB3 EN qN qn c1 c2
   go_wp2
   exact bodyPost_ret (zbp (HB3.out.set _ _) rfl rfl) rfl HZ.out
def zaX (l:List (Bool×Num))(k:Nat):Int:=zeN (l.take k)
theorem zsB (P:Int)(b:Bool)(N:Nat):zOf (decide (P<0) != b) (P.natAbs*N)=P*zOf b N:=by
 by_cases h:P<0
 ·rw[decide_eq_true h]
  have e:P= -(P.natAbs:Int):=by omega
  generalize P.natAbs=m at*
  subst e
  cases b
  ·show zOf true (m*N)=_
   rw[zce,zbQ,Int.neg_mul];simp
  ·show zOf false (m*N)=_
   rw[zce,zbQ,Int.neg_mul_neg];simp
 ·rw[decide_eq_false h]
  have e:P=(P.natAbs:Int):=by omega
  generalize P.natAbs=m at*
  subst e
  cases b
  ·show zOf false (m*N)=_
   rw[zbQ,zbQ];simp
  ·show zOf true (m*N)=_
   rw[zce,zce,Int.mul_neg];simp
theorem zjM {l:List (Bool×Num)}{k:Nat}(hk:k<l.length):zOf (decide (zaX l k<0) != l[k].1) ((zaX l k).natAbs*l[k].2.N)=zaX l (k+1):=by
 rw[zsB]
 unfold zaX
 rw[zd5 (List.getElem?_eq_getElem hk),zmv]
 rfl
theorem zla {m:Nat}{l:List (Bool×Num)}(h:∀z∈l,z.2.N<Bw^z.2.n/\z.2.n<=m)(hl:m*l.length<=6500)(k:Nat):lenL (zaX l k).natAbs<=6501:=by
 unfold zaX
 rw[ziY]
 have:=zl3 (l:=(l.take k).map (·.2)) (K:=m) (by
  intro z hz
  obtain⟨x,hx,rfl⟩:=List.mem_map.1 hz
  exact h x (List.mem_of_mem_take hx))
 rw[List.length_map,List.length_take]at this
 have h2:=Nat.mul_le_mul_left m (Nat.min_le_right k l.length)
 omega
theorem zq5 {m:Nat}(hm:m<=700)(A:Option Addr)(c:Nat)(l:List (Bool×Num))(h:Env w e W)(hZ:ZRds W W.heap.size A l)(hl:m*l.length<=6500)(hl2:l.length<=1000)(hn:∀z∈l,z.2.n<=m):
  Calls Tryz.prog 71 #[.slice A l.length c] W (Zs w e (zeN l)):=by
 have hs:=h.1.size
 have HE0:=h.alloc (.cells #[.bool false,.slice none 0 0] 25)
 have hBA:=(Below.refl W.heap.size W).alloc zv0 (.cells #[.bool false,.slice none 0 0] 25)
 have hsz0:(W.alloc (.cells #[.bool false,.slice none 0 0] 25)).heap.size=W.heap.size+1:=by simp
 have BR0:=Box2.new W 25 (.bool false) (.slice none 0 0)
 have EO:=zvY (zq4 (n:=1) HE0.here (by omega))
 have HLN:=zvY (zla (l:=l) (fun z hz=>by
  obtain⟨i,hi,rfl⟩:=List.mem_iff_getElem.1 hz
  exact⟨(hZ i hi).2.1.1,hn _ hz⟩) hl)
 go_enter Tryz.func71,Tryz.ntmps71
 go_wp2_with fail
 refine EO.out.mono ?_
 rintro e0 W2 ⟨r0,rfl,r0N,r0n,hE2⟩
 have hB2:Below W.heap.size W W2:=hBA.trans (hE2.1.mono (by omega))
 have BR2:=(BR0.below hE2.1 (by omega))
 obtain⟨g,hg⟩:∃g,W2.heap.size=g:=⟨_,rfl⟩
 have hgs:W.heap.size+1<=g:=by have:=hE2.1.size;omega
 obtain⟨W1,hW1⟩:∃W1,W2.alloc (.cells #[.bool false,.slice r0.A r0.n r0.c] 25)=W1:=⟨_,rfl⟩
 have hB1:Below W.heap.size W W1:=by rw[<-hW1];exact hB2.alloc hB2.size _
 have BR:Box2 W1 W.heap.size 25 (.bool false) (.slice none 0 0):=by rw[<-hW1];exact BR2.alloc _
 have BO:Box2 W1 g 25 (.bool false) (.slice r0.A r0.n r0.c):=by rw[<-hW1,<-hg];exact Box2.new _ _ _ _
 have hok0:r0.ok W1 W1.heap.size:=by rw[<-hW1];exact(hE2.2 r0 (by simp)).later (zv1.alloc zv0 _)
 have hsz1:W1.heap.size=g+1:=by rw[<-hW1,World.size_alloc,hg]
 replace r0N:=zvY r0N
 replace r0n:=zvY r0n
 clear HE0 hBA hsz0 BR0 EO hB2 BR2 hE2
 go_wp2
 clear hW1 hg
 rename_i K hK
 have HK:=zvY hK
 clear hK
 go_loopw [4] (fun i wr=>∃(k:Nat) (r:Num),k<=l.length/\i= .int .i64 k/\Hid (Box2 wr g 25 (.bool (decide (zaX l k<0))) (.slice r.A r.n r.c))/\Hid (r.N=(zaX l k).natAbs)/\Hid (r.n=lenL (zaX l k).natAbs)/\Hid (Below g W1 wr)/\Hid (r.ok wr wr.heap.size)/\Hid (W1.heap.size<=wr.heap.size)) (fun i _=>l.length - (intOf i).toNat)
 case atStart=>exact⟨0,r0,Nat.zero_le _,rfl,zvY BO,zvY r0N.out,zvY r0n.out,zvY zv1,zvY hok0,zvY zv0⟩
 case round=>
  obtain⟨k,r,hk,rfl,hb,hrN,hrn,hB,hok,hsz⟩:=hrel
  have hBW:Below W.heap.size W wr:=hB1.trans (hB.out.mono (by omega))
  by_cases hlt:k<l.length
  ·obtain⟨⟨ad,rfl,hab,hcb,hcs⟩,hek⟩:=(hZ.below hBW) k hlt
   rw[zgx]at hcs
   have HAB:=zvY (show ad.block<wr.heap.size by have:=hBW.size;omega)
   have HCB:=zvY hcb
   have HCS:=zvY hcs
   have OE:=zvY (hek.more hBW.size)
   have LR:=zvY (show r.n<=6501 by rw[hrn.out];exact HLN.out k)
   have LE:=zvY (zv2 (hn _ (List.getElem_mem hlt)) hm)
   have LN:=zvY (HLN.out (k+1))
   have HSU:=zvY (zjM hlt)
   clear hcb hcs hek hBW
   go_wp2
   refine zbn 18 [12,13,14,15,16,17,18,19,20,21,22,23,24,25,26,27,28,29] (fun i v V=>match i with
     |0=>v= .pointer (some ⟨g,0,none⟩)
     |1=>v= .bool (decide (zaX l k<0))
     |2=>v= .slice (some ad) l.length c
     |3=>v= .int .i64 (k:Nat)
     |4=>v= .pointer (some (ad.add (k*2)))
     |5=>v= .pointer (some (ad.add (k*2)))
     |6=>v= .bool l[k].1
     |7=>v= .bool (decide (zaX l k<0) != l[k].1)
     |8=>v= .pointer (some ⟨g,1,none⟩)
     |9=>v= .slice r.A r.n r.c
     |10=>v= .slice (some ad) l.length c
     |11=>v= .int .i64 (k:Nat)
     |12=>v= .pointer (some (ad.add (k*2)))
     |13=>v= .pointer (some ⟨(ad.add (k*2)).block,(ad.add (k*2)).off+1,none⟩)
     |14=>v= .slice l[k].2.A l[k].2.n l[k].2.c
     |15=>RepN (r.N*l[k].2.N) v V
     |16=>RepZ (zaX l (k+1)) v V
     |_=>RepT (zaX l (k+1)) v V) (fun V=>Below wr.heap.size wr V) (by kernel_rfl) (by kernel_rfl) rfl (by decide) (by first|(simp;done)|(simp;done)) zv1.drew ?_ ?_ ?_
   ·intro i v V V2 hf hb _
    match i,hf with
    |0,hf=>exact hf
    |1,hf=>exact hf
    |2,hf=>exact hf
    |3,hf=>exact hf
    |4,hf=>exact hf
    |5,hf=>exact hf
    |6,hf=>exact hf
    |7,hf=>exact hf
    |8,hf=>exact hf
    |9,hf=>exact hf
    |10,hf=>exact hf
    |11,hf=>exact hf
    |12,hf=>exact hf
    |13,hf=>exact hf
    |14,hf=>exact hf
    |15,hf=>exact RepN.keep hf hb
    |16,hf=>exact RepZ.keep hf hb
    |_+17,hf=>exact RepT.keep hf hb
   ·intro i t ht a V hC hF hd
    match i,ht with
    |0,ht=>
     cases ht
     have h3:a.tmps[3]?.getD undef= .pointer (some ⟨g,0,none⟩):=(hF.at_ 3 (by decide)).trans rfl
     exact zal (v:= .pointer (some ⟨g,0,none⟩)) rfl rfl (zac rfl) (by go_simp) hC rfl
    |1,ht=>
     cases ht
     have h12:a.tmps[12]?.getD undef= .pointer (some ⟨g,0,none⟩):=(zae a 12).symm.trans (hd 0 12 rfl (by kernel_rfl))
     obtain⟨c00,c01,-,-⟩:=(hb.out.below hC hb.out.lt).cells
     exact zal (v:= .bool (decide (zaX l k<0))) rfl rfl (zac rfl) (by go_simp) hC rfl
    |2,ht=>
     cases ht
     have h0:a.tmps[0]?.getD undef= .slice (some ad) l.length c:=(hF.at_ 0 (by decide)).trans rfl
     exact zal (v:= .slice (some ad) l.length c) rfl rfl (zac rfl) (by go_simp) hC rfl
    |3,ht=>
     cases ht
     have h4:a.tmps[4]?.getD undef= .int .i64 (k:Nat):=(hF.at_ 4 (by decide)).trans rfl
     exact zal (v:= .int .i64 (k:Nat)) rfl rfl (zac rfl) (by go_simp) hC rfl
    |4,ht=>
     cases ht
     have h14:a.tmps[14]?.getD undef= .slice (some ad) l.length c:=(zae a 14).symm.trans (hd 2 14 rfl (by kernel_rfl))
     have h15:a.tmps[15]?.getD undef= .int .i64 (k:Nat):=(zae a 15).symm.trans (hd 3 15 rfl (by kernel_rfl))
     exact zal (v:= .pointer (some (ad.add (k*2)))) rfl rfl (zac rfl) (by go_simp) hC rfl
    |5,ht=>
     cases ht
     have h16:a.tmps[16]?.getD undef= .pointer (some (ad.add (k*2))):=(zae a 16).symm.trans (hd 4 16 rfl (by kernel_rfl))
     exact zal (v:= .pointer (some (ad.add (k*2)))) rfl rfl (zac rfl) (by go_simp) hC rfl
    |6,ht=>
     cases ht
     have h17:a.tmps[17]?.getD undef= .pointer (some (ad.add (k*2))):=(zae a 17).symm.trans (hd 5 17 rfl (by kernel_rfl))
     have e1:=(hC.cell (p:=ad.add (k*2)) (by rw[zaM];exact HAB.out)).trans HCB.out
     exact zal (v:= .bool l[k].1) rfl rfl (zac rfl) (by go_simp) hC rfl
    |7,ht=>
     cases ht
     have h13:a.tmps[13]?.getD undef= .bool (decide (zaX l k<0)):=(zae a 13).symm.trans (hd 1 13 rfl (by kernel_rfl))
     have h18:a.tmps[18]?.getD undef= .bool l[k].1:=(zae a 18).symm.trans (hd 6 18 rfl (by kernel_rfl))
     exact zal (v:= .bool (decide (zaX l k<0) != l[k].1)) rfl rfl (zac rfl) (by go_simp;generalize decide (zaX l k<0)=d;generalize l[k].1=b;cases d <;> cases b <;> rfl) hC rfl
    |8,ht=>
     cases ht
     have h3:a.tmps[3]?.getD undef= .pointer (some ⟨g,0,none⟩):=(hF.at_ 3 (by decide)).trans rfl
     exact zal (v:= .pointer (some ⟨g,1,none⟩)) rfl rfl (zac rfl) (by go_simp) hC rfl
    |9,ht=>
     cases ht
     have h20:a.tmps[20]?.getD undef= .pointer (some ⟨g,1,none⟩):=(zae a 20).symm.trans (hd 8 20 rfl (by kernel_rfl))
     obtain⟨c00,c01,-,-⟩:=(hb.out.below hC hb.out.lt).cells
     exact zal (v:= .slice r.A r.n r.c) rfl rfl (zac rfl) (by go_simp) hC rfl
    |10,ht=>
     cases ht
     have h0:a.tmps[0]?.getD undef= .slice (some ad) l.length c:=(hF.at_ 0 (by decide)).trans rfl
     exact zal (v:= .slice (some ad) l.length c) rfl rfl (zac rfl) (by go_simp) hC rfl
    |11,ht=>
     cases ht
     have h4:a.tmps[4]?.getD undef= .int .i64 (k:Nat):=(hF.at_ 4 (by decide)).trans rfl
     exact zal (v:= .int .i64 (k:Nat)) rfl rfl (zac rfl) (by go_simp) hC rfl
    |12,ht=>
     cases ht
     have h22:a.tmps[22]?.getD undef= .slice (some ad) l.length c:=(zae a 22).symm.trans (hd 10 22 rfl (by kernel_rfl))
     have h23:a.tmps[23]?.getD undef= .int .i64 (k:Nat):=(zae a 23).symm.trans (hd 11 23 rfl (by kernel_rfl))
     exact zal (v:= .pointer (some (ad.add (k*2)))) rfl rfl (zac rfl) (by go_simp) hC rfl
    |13,ht=>
     cases ht
     have h24:a.tmps[24]?.getD undef= .pointer (some (ad.add (k*2))):=(zae a 24).symm.trans (hd 12 24 rfl (by kernel_rfl))
     exact zal (v:= .pointer (some ⟨(ad.add (k*2)).block,(ad.add (k*2)).off+1,none⟩)) rfl rfl (zac rfl) (by go_simp) hC rfl
    |14,ht=>
     cases ht
     have h25:a.tmps[25]?.getD undef= .pointer (some ⟨(ad.add (k*2)).block,(ad.add (k*2)).off+1,none⟩):=(zae a 25).symm.trans (hd 13 25 rfl (by kernel_rfl))
     have e2:=(hC.cell (p:=⟨(ad.add (k*2)).block,(ad.add (k*2)).off+1,none⟩) (by show(ad.add (k*2)).block<_;rw[zaM];exact HAB.out)).trans HCS.out
     exact zal (v:= .slice l[k].2.A l[k].2.n l[k].2.c) rfl rfl (zac rfl) (by go_simp) hC rfl
    |15,ht=>
     cases ht
     have h21:a.tmps[21]?.getD undef= .slice r.A r.n r.c:=(zae a 21).symm.trans (hd 9 21 rfl (by kernel_rfl))
     have h26:a.tmps[26]?.getD undef= .slice l[k].2.A l[k].2.n l[k].2.c:=(zae a 26).symm.trans (hd 14 26 rfl (by kernel_rfl))
     have hk:=hok.out.later hC
     have hj:=OE.out.later hC
     refine za8 rfl rfl (zac rfl) (zdR ⟨_,rfl⟩ h21 h26 (enters_of Tryz.func88 (by kernel_rfl) rfl)) ((zq3 (w:=V) (W:=V) (e:=[r,l[k].2]) (x:=r) (y:=l[k].2) (Env.start (by simp[hk,hj])) (by simp) (by simp) (by have:=LR.out;omega) (by have:=LE.out;omega)).mono ?_)
     rintro e2 V2 ⟨m,rfl,m1,m2,hE2,-⟩
     exact⟨_,rfl,⟨m,rfl,m1,m2,hE2.2 m (by simp)⟩,hE2.1,hC.trans (hE2.1.mono hC.size)⟩
    |16,ht=>
     cases ht
     have h19:a.tmps[19]?.getD undef= .bool (decide (zaX l k<0) != l[k].1):=(zae a 19).symm.trans (hd 7 19 rfl (by kernel_rfl))
     have r27:RepN (r.N*l[k].2.N) (a.tmps.getD 27 undef) V:=hd 15 27 rfl (by kernel_rfl)
     have h27:a.tmps[27]?.getD undef=a.tmps.getD 27 undef:=(zae a 27).symm
     obtain⟨m,hm,m1,m2,mk⟩:=r27
     rw[hm]at h27
     exact zal (v:= .agg #[.bool (decide (zaX l k<0) != l[k].1),.slice m.A m.n m.c]) rfl rfl (zac rfl) (by go_simp) hC ⟨_,m,rfl,by rw[m1,hrN.out];exact HSU.out,by rw[m2,hrN.out,<-zbu (decide (zaX l k<0) != l[k].1) ((zaX l k).natAbs*l[k].2.N),HSU.out];have:=LN.out;omega,mk⟩
    |17,ht=>
     cases ht
     have r28:RepZ (zaX l (k+1)) (a.tmps.getD 28 undef) V:=hd 16 28 rfl (by kernel_rfl)
     have h28:a.tmps[28]?.getD undef=a.tmps.getD 28 undef:=(zae a 28).symm
     obtain⟨b0,r0,hr0,z0,l0,k0⟩:=r28
     rw[hr0]at h28
     have EN:=zcR b0 (w:=V) (W:=V) (e:=[r0]) (x:=r0) (Env.start (by simp only[List.mem_singleton,forall_eq];exact k0)) (by simp)
     rw[z0]at EN
     refine za8 rfl rfl (zac rfl) (zbq ⟨_,rfl⟩ h28 (enters_of Tryz.func108 (by kernel_rfl) rfl)) (EN.mono ?_)
     rintro e2 V2 ⟨q,rfl,q1,q2,hE2⟩
     exact⟨_,rfl,⟨q,rfl,q1,q2,hE2.2 q (by simp)⟩,hE2.1,hC.trans (hE2.1.mono hC.size)⟩
    |k+18,ht=>simp at ht
   ·intro a2 V2 hC hF hf
    obtain⟨m,pm,m1,m2,mk⟩:=(hf 15 27 rfl:RepN (r.N*l[k].2.N) (a2.tmps.getD 27 undef) V2)
    obtain⟨b1,z,pz,z1,z2,zk⟩:=(hf 16 28 rfl:RepZ (zaX l (k+1)) (a2.tmps.getD 28 undef) V2)
    obtain⟨u,pu,u1,u2,uk⟩:=(hf 17 29 rfl:RepT (zaX l (k+1)) (a2.tmps.getD 29 undef) V2)
    have hlit:=zi1 (a:=a2) [.slice (some ad) l.length c,undef,.pointer (some ⟨W.heap.size,0,none⟩),.pointer (some ⟨g,0,none⟩),.int .i64 (k:Nat),.agg #[.bool false,.slice r0.A r0.n r0.c],.int .i64 (k:Nat),.slice (some ad) l.length c,.int .i64 (l.length:Nat),.bool true,u10,u11,.pointer (some ⟨g,0,none⟩),.bool (decide (zaX l k<0)),.slice (some ad) l.length c,.int .i64 (k:Nat),.pointer (some (ad.add (k*2))),.pointer (some (ad.add (k*2))),.bool l[k].1,.bool (decide (zaX l k<0) != l[k].1),.pointer (some ⟨g,1,none⟩),.slice r.A r.n r.c,.slice (some ad) l.length c,.int .i64 (k:Nat),.pointer (some (ad.add (k*2))),.pointer (some ⟨(ad.add (k*2)).block,(ad.add (k*2)).off+1,none⟩),.slice l[k].2.A l[k].2.n l[k].2.c,.slice m.A m.n m.c,.agg #[.bool b1,.slice z.A z.n z.c],.agg #[.bool (decide (zaX l (k+1)<0)),.slice u.A u.n u.c],undef] (by simpa using hF.size) hF.defers (fun i hi=>match i,hi with
     |0,_=>(hF.same 0 (by decide)).trans rfl
     |1,_=>(hF.same 1 (by decide)).trans rfl
     |2,_=>(hF.same 2 (by decide)).trans rfl
     |3,_=>(hF.same 3 (by decide)).trans rfl
     |4,_=>(hF.same 4 (by decide)).trans rfl
     |5,_=>(hF.same 5 (by decide)).trans rfl
     |6,_=>(hF.same 6 (by decide)).trans rfl
     |7,_=>(hF.same 7 (by decide)).trans rfl
     |8,_=>(hF.same 8 (by decide)).trans rfl
     |9,_=>(hF.same 9 (by decide)).trans rfl
     |10,_=>(hF.same 10 (by decide)).trans rfl
     |11,_=>(hF.same 11 (by decide)).trans rfl
     |12,_=>(hf 0 12 rfl:a2.tmps.getD 12 undef=_)
     |13,_=>(hf 1 13 rfl:a2.tmps.getD 13 undef=_)
     |14,_=>(hf 2 14 rfl:a2.tmps.getD 14 undef=_)
     |15,_=>(hf 3 15 rfl:a2.tmps.getD 15 undef=_)
     |16,_=>(hf 4 16 rfl:a2.tmps.getD 16 undef=_)
     |17,_=>(hf 5 17 rfl:a2.tmps.getD 17 undef=_)
     |18,_=>(hf 6 18 rfl:a2.tmps.getD 18 undef=_)
     |19,_=>(hf 7 19 rfl:a2.tmps.getD 19 undef=_)
     |20,_=>(hf 8 20 rfl:a2.tmps.getD 20 undef=_)
     |21,_=>(hf 9 21 rfl:a2.tmps.getD 21 undef=_)
     |22,_=>(hf 10 22 rfl:a2.tmps.getD 22 undef=_)
     |23,_=>(hf 11 23 rfl:a2.tmps.getD 23 undef=_)
     |24,_=>(hf 12 24 rfl:a2.tmps.getD 24 undef=_)
     |25,_=>(hf 13 25 rfl:a2.tmps.getD 25 undef=_)
     |26,_=>(hf 14 26 rfl:a2.tmps.getD 26 undef=_)
     |27,_=>pm
     |28,_=>pz
     |29,_=>pu
     |30,_=>(hF.same 30 (by decide)).trans rfl
     |_+31,h=>absurd h (by simp only[List.length_cons,List.length_nil];omega))
    subst hlit
    have hbV:=hb.out.below hC hb.out.lt
    obtain⟨c1,c2,c3,c4⟩:=hbV.cells
    have HX:=zvY (hbV.set (.bool (decide (zaX l (k+1)<0))) (.slice u.A u.n u.c))
    have UK:=zvY (uk.box (b':=decide (zaX l (k+1)<0)) (u:= .slice u.A u.n u.c) hbV)
    have HBX:=zvY (((hB.out.trans (hC.mono (by have:=hsz.out;omega))).setCell (p:=⟨g,0,none⟩) zv0 (.bool (decide (zaX l (k+1)<0)))).setCell (p:=⟨g,1,none⟩) zv0 (.slice u.A u.n u.c))
    have HSX:=zvY (zv2 hsz.out hC.size)
    have U1:=zvY u1
    have U2:=zvY u2
    clear hf hF hC m1 m2 mk z1 z2 zk uk pm pz pu u1 u2 hbV
    show wpList _ _ _ [_] _ V2
    go_wp2
    go_roundw
    case rel=>exact⟨k+1,u,by omega,by go_num,HX,U1,U2,HBX,UK,zvY (by rw[World.size_setCell,World.size_setCell];exact HSX.out)⟩
    case measure=>simp[intOf];omega
  ·obtain rfl:k=l.length:=by omega
   go_wp2
   refine HK.out _ _ ?_
   clear HK
   have hEr:Env wr e wr:=⟨Below.refl _ _,fun z hz=>((h.2 z hz).below hBW).more hBW.size⟩
   have hBR:=BR.below hB.out (by omega)
   have e0:zaX l l.length=zeN l:=by unfold zaX;rw[List.take_length]
   rw[e0]at hb hrN hrn
   have HZ:=zvY (zfA (h.1.trans (hBW.mono hs)) hEr zv1 hok.out hBR hs hrN.out hrn.out)
   obtain⟨c1,c2,-,-⟩:=hb.out.cells
   obtain⟨p1,p2,p3,p4⟩:=hBR.cells
   have HBR:=zvY hBR
   clear hEr h hZ hn hb hrN hrn hB hok hsz hBR hBW e0 HLN
   go_wp2
   exact bodyPost_ret (zbp (HBR.out.set _ _) rfl rfl) rfl HZ.out
end
section
def zq6 (K:Nat)(Z:Int)(v:Value)(V:World):Prop:=∃(b:Bool) (r:Num),v= .agg #[.bool b,.slice r.A r.n r.c]/\zOf b r.N=Z/\r.n<=K/\r.ok V V.heap.size
def RepRowK (K:Nat)(l:List Int)(v:Value)(V:World):Prop:=∃(A:Option Addr) (c:Nat) (ps:List (Bool×Num)),v= .slice A ps.length c/\ZRds V V.heap.size A ps/\ps.map zP=l/\(∀p∈ps,p.2.n<=K)/\ps.length<=50
theorem RepRowK.keep {K:Nat}{l:List Int}{v:Value}{V V':World}(h:RepRowK K l v V)(hb:Below V.heap.size V V'):RepRowK K l v V':=by
 obtain⟨A,c,ps,h1,h2,h3⟩:=h
 exact⟨A,c,ps,h1,(h2.below hb).more hb.size,h3⟩
theorem RepT.zk {K:Nat}{Z:Int}{v:Value}{V:World}(h:RepT Z v V)(hl:lenL Z.natAbs<=K):zq6 K Z v V:=by
 obtain⟨r,h1,h2,h3,h4⟩:=h
 exact⟨_,r,h1,by rw[h2,zc7],by omega,h4⟩
variable {ops:Array Oper}{Q:Exit -> Act -> World -> Prop}{C:World -> Prop}{a:Act}{V:World}{i K:Nat}{t:Tmp}{o:Oper}
variable {t1 t2:Tmp}{v1 v2:Value}{Z Z1 Z2:Int}
theorem zuj (ho:ops[i]?=some o)(hd:o.dst=some t)(hw:Region.wanted o (yielded ops a.tmps)=true)(hop:o.op= .buildSlice 121 2 #[(0,.tmp t1),(1,.tmp t2)]) (h1:a.tmps[t1]?.getD undef=v1) (h2:a.tmps[t2]?.getD undef=v2) (r1:zq6 K Z1 v1 V) (r2:zq6 K Z2 v2 V)
  (hC:∀V',Below V.heap.size V V'->C V'):
  wpOp Tryz.prog ops Q i (fun a' w'=>∃v,a'=a.put (some t) v/\RepRowK K [Z1,Z2] v w'/\Below V.heap.size V w'/\C w') a V:=by
 obtain⟨b,r,rfl,hz,hn,hk⟩:=r1
 obtain⟨b',s,rfl,hz',hn',hk'⟩:=r2
 have hE:Env V [r,s] V:=Env.start (by simp[hk,hk'])
 have hR:=ZRds.two (x:=r) (y:=s) (t:=25) b b' hE (by simp) (by simp)
 have hb:Below V.heap.size V (V.alloc (.cells #[.bool b,.slice r.A r.n r.c,.bool b',.slice s.A s.n s.c] 25)):=zv1.alloc zv0 _
 refine zeR (v:= .slice (some ⟨V.heap.size,0,none⟩) 2 2) (w':=V.alloc (.cells #[.bool b,.slice r.A r.n r.c,.bool b',.slice s.A s.n s.c] 25)) ho hd hw ?_ hb (hC _ hb) ⟨_,2,[(b,r),(b',s)],rfl,by rw[World.size_alloc];exact hR,by simp[zP,hz,hz'],by simp[hn,hn'],by simp⟩
 obtain⟨dst,op,ty,pos,after,guard⟩:=o
 simp only at hop
 subst hop
 go_simp
theorem zuk {l:List Int}(ho:ops[i]?=some o)(hd:o.dst=some t)(hw:Region.wanted o (yielded ops a.tmps)=true)(hC:∀V',Below V.heap.size V V'->C V')(hr:(execOp a.eval o).run Tryz.prog V= .ok (.enter 109 #[v1]) V) (h:RepRowK K l v1 V) (hK:K<=800) (hs:l.sum=Z):
  wpOp Tryz.prog ops Q i (fun a' w'=>∃v,a'=a.put (some t) v/\RepT Z v w'/\Below V.heap.size V w'/\C w') a V:=by
 obtain⟨A,c,ps,rfl,hR,hm,hb,hl⟩:=h
 have EA:=znf A c ps (Env.start (w:=V) (l:=[]) (by simp)) hR (by omega) (fun z hz=>zv2 (hb z hz) hK)
 rw[zuv hm,hs]at EA
 refine za8 ho hd hw hr (EA.mono ?_)
 rintro e' V' ⟨r,rfl,h1,h2,hE⟩
 exact⟨_,rfl,⟨r,rfl,h1,h2,hE.2 r (by simp)⟩,hE.1,hC _ hE.1⟩
end
end Go.Proofs.YtipckjmgdghkiaaGreatDoor
