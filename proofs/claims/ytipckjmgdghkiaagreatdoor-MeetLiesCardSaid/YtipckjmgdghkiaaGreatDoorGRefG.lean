/- A part. -/
import Derived.Test.YtipckjmgdghkiaaGreatDoorGRefF
import Derived.Test.YtipckjmgdghkiaaGreatDoorGSintF
set_option maxHeartbeats 4000000
set_option maxRecDepth 100000
namespace Go.Proofs.YtipckjmgdghkiaaGreatDoor
open Go Go.RowKit
section
variable {w W:World}{e:List Num}{x y:Num}
theorem zng {b:Bool}{Z Y:Int}(h:Env w e W)(hx:x∈e)(hz:zOf b x.N=Z)(hY: -Z=Y):
  Calls Tryz.prog 110 #[.agg #[.bool b,.slice x.A x.n x.c]] W (Zs w e Y):=by
 have HE:=(h.alloc (.cells #[.bool b,.slice x.A x.n x.c] 25)).alloc (.cells #[.bool false,.slice none 0 0] 25)
 have hs:=h.1.size
 have B1:=(Box2.new W 25 (.bool b) (.slice x.A x.n x.c)).alloc (.cells #[.bool false,.slice none 0 0] 25)
 have B2:=Box2.new (W.alloc (.cells #[.bool b,.slice x.A x.n x.c] 25)) 25 (.bool false) (.slice none 0 0)
 rw[World.size_alloc]at B2
 obtain⟨W1,hW1⟩:∃W1,(W.alloc (.cells #[.bool b,.slice x.A x.n x.c] 25)).alloc (.cells #[.bool false,.slice none 0 0] 25)=W1:=⟨_,rfl⟩
 rw[hW1]at HE B1 B2
 have HO:=zvY HE.1
 have EN:=zcR (!b) HE.here hx
 rw[show zOf (!b) x.N=Y by rw[<-hY,<-hz];cases b <;> simp[zOf]]at EN
 replace EN:=zvY EN
 replace HE:=zvY HE.here
 replace B2:=zvY B2
 obtain⟨c1,c2,-,-⟩:=B1.cells
 clear h hx hz hY B1
 go_enter Tryz.func110,Tryz.ntmps110
 go_wp2_with fail
 clear hW1
 refine EN.out.mono ?_
 rintro e2 W3 ⟨r,rfl,rN,rn,hE3⟩
 have hB3:=B2.out.below hE3.1 B2.out.lt
 obtain⟨d1,d2,d3,d4⟩:=hB3.cells
 have HB3:=zvY hB3
 have HZ:=zvY (zfA HO.out HE.out hE3.1 (hE3.2 r (by simp)) hB3 (by omega) rN rn)
 clear hB3 hE3 rN rn c1 c2
 go_wp2
 exact bodyPost_ret (zbp (HB3.out.set _ _) rfl rfl) rfl HZ.out
theorem zsC {b b':Bool}{Z Z' D:Int}(h:Env w e W)(hx:x∈e)(hy:y∈e)(lx:x.n<=800)(ly:y.n<=800)(hz:zOf b x.N=Z)(hz':zOf b' y.N=Z')(hD:Z - Z'=D):
  Calls Tryz.prog 70 #[.agg #[.bool b,.slice x.A x.n x.c],.agg #[.bool b',.slice y.A y.n y.c]] W (Zs w e D):=by
 obtain⟨W1,hW1⟩:∃W1,((W.alloc (.cells #[.bool b,.slice x.A x.n x.c] 25)).alloc (.cells #[.bool b',.slice y.A y.n y.c] 25)).alloc (.cells #[.bool false,.slice none 0 0] 25)=W1:=⟨_,rfl⟩
 have HE:=((h.alloc (.cells #[.bool b,.slice x.A x.n x.c] 25)).alloc (.cells #[.bool b',.slice y.A y.n y.c] 25)).alloc (.cells #[.bool false,.slice none 0 0] 25)
 have hs:=h.1.size
 have B1:=((Box2.new W 25 (.bool b) (.slice x.A x.n x.c)).alloc (.cells #[.bool b',.slice y.A y.n y.c] 25)).alloc (.cells #[.bool false,.slice none 0 0] 25)
 have B2:=(Box2.new (W.alloc (.cells #[.bool b,.slice x.A x.n x.c] 25)) 25 (.bool b') (.slice y.A y.n y.c)).alloc (.cells #[.bool false,.slice none 0 0] 25)
 have B4:=Box2.new ((W.alloc (.cells #[.bool b,.slice x.A x.n x.c] 25)).alloc (.cells #[.bool b',.slice y.A y.n y.c] 25)) 25 (.bool false) (.slice none 0 0)
 rw[World.size_alloc]at B2
 rw[World.size_alloc,World.size_alloc]at B4
 rw[hW1]at HE B1 B2 B4
 have HO:=zvY HE.1
 replace HE:=zvY HE.here
 replace B1:=zvY B1
 replace B2:=zvY B2
 replace B4:=zvY B4
 have OX:=zvY (fun V (hb:Below W1.heap.size W1 V)=>(HE.out.2 x hx).later hb)
 have OY:=zvY (fun V (hb:Below W1.heap.size W1 V)=>(HE.out.2 y hy).later hb)
 have HLY:=zvY (show lenL Z'.natAbs<=800 by rw[<-hz',zbu];exact zv2 (zai.2 (h.2 y hy).1.1) ly)
 have HPX:=zvY hz
 have HPY:=zvY hz'
 have HD:=zvY hD
 have HB:=zvY (And.intro lx ly)
 clear h hx hy hz hz' hD lx ly
 go_enter Tryz.func70,Tryz.ntmps70
 go_wp2
 clear hW1
 refine zbn 5 [5,6,7,8,9] (fun i v V=>match i with
   |0=>v= .agg #[.bool b,.slice x.A x.n x.c]
   |1=>v= .agg #[.bool b',.slice y.A y.n y.c]
   |2=>RepT (-Z') v V
   |3=>RepRowK 800 [Z,-Z'] v V
   |_=>RepT D v V) (fun V=>Below W1.heap.size W1 V) (by kernel_rfl) (by kernel_rfl) rfl (by decide) (by first|(simp;done)|(simp;done)) zv1.drew ?_ ?_ ?_
 ·intro i v V V2 hf hb _
  match i,hf with
  |0,hf=>exact hf
  |1,hf=>exact hf
  |2,hf=>exact RepT.keep hf hb
  |3,hf=>exact RepRowK.keep hf hb
  |_+4,hf=>exact RepT.keep hf hb
 ·intro i t ht a V hC hF hd
  match i,ht with
  |0,ht=>
   cases ht
   have h2:a.tmps[2]?.getD undef= .pointer (some ⟨W.heap.size,0,none⟩):=(hF.at_ 2 (by decide)).trans rfl
   obtain⟨c00,c01,-,-⟩:=(B1.out.below hC B1.out.lt).cells
   obtain⟨c10,c11,-,-⟩:=(B2.out.below hC B2.out.lt).cells
   exact zal (v:= .agg #[.bool b,.slice x.A x.n x.c]) rfl rfl (zac rfl) (by go_simp) hC rfl
  |1,ht=>
   cases ht
   have h3:a.tmps[3]?.getD undef= .pointer (some ⟨W.heap.size+1,0,none⟩):=(hF.at_ 3 (by decide)).trans rfl
   obtain⟨c00,c01,-,-⟩:=(B1.out.below hC B1.out.lt).cells
   obtain⟨c10,c11,-,-⟩:=(B2.out.below hC B2.out.lt).cells
   exact zal (v:= .agg #[.bool b',.slice y.A y.n y.c]) rfl rfl (zac rfl) (by go_simp) hC rfl
  |2,ht=>
   cases ht
   have h6:a.tmps[6]?.getD undef= .agg #[.bool b',.slice y.A y.n y.c]:=(zae a 6).symm.trans (hd 1 6 rfl (by kernel_rfl))
   have EN:=zng (w:=V) (W:=V) (e:=[y]) (x:=y) (b:=b') (Z:=Z') (Y:= -Z') (Env.start (by simp only[List.mem_singleton,forall_eq];exact OY.out V hC)) (by simp) HPY.out rfl
   refine za8 rfl rfl (zac rfl) (zbq ⟨_,rfl⟩ h6 (enters_of Tryz.func110 (by kernel_rfl) rfl)) (EN.mono ?_)
   rintro e2 V2 ⟨q,rfl,q1,q2,hE2⟩
   exact⟨_,rfl,⟨q,rfl,q1,q2,hE2.2 q (by simp)⟩,hE2.1,hC.trans (hE2.1.mono hC.size)⟩
  |3,ht=>
   cases ht
   have h5:a.tmps[5]?.getD undef= .agg #[.bool b,.slice x.A x.n x.c]:=(zae a 5).symm.trans (hd 0 5 rfl (by kernel_rfl))
   have r7:RepT (-Z') (a.tmps.getD 7 undef) V:=hd 2 7 rfl (by kernel_rfl)
   have h7:a.tmps[7]?.getD undef=a.tmps.getD 7 undef:=(zae a 7).symm
   exact zuj rfl rfl (zac rfl) rfl h5 h7 ⟨b,x,rfl,HPX.out,HB.out.1,OX.out V hC⟩ (r7.zk (by rw[Int.natAbs_neg];exact HLY.out)) (fun V2 hb=>hC.trans (hb.mono hC.size))
  |4,ht=>
   cases ht
   have r8:RepRowK 800 [Z,-Z'] (a.tmps.getD 8 undef) V:=hd 3 8 rfl (by kernel_rfl)
   have h8:a.tmps[8]?.getD undef=a.tmps.getD 8 undef:=(zae a 8).symm
   exact zuk rfl rfl (zac rfl) (fun V2 hb=>hC.trans (hb.mono hC.size)) (zbq ⟨_,rfl⟩ h8 (enters_of Tryz.func109 (by kernel_rfl) rfl)) r8 zv0 (by have:=HD.out;simp;omega)
  |k+5,ht=>simp at ht
 ·intro a2 V2 hC hF hf
  have p2:a2.tmps[4]?.getD undef= .pointer (some ⟨W.heap.size+1+1,0,none⟩):=(hF.at_ 4 (by decide)).trans rfl
  obtain⟨r,p8,n1,n2,hk⟩:=(hf 4 9 rfl:RepT D (a2.tmps.getD 9 undef) V2)
  rw[zae]at p8
  have hdf:a2.defers=[]:=hF.defers
  have hB2:=B4.out.below hC B4.out.lt
  obtain⟨c1,c2,c3,c4⟩:=hB2.cells
  replace n1:=zvY n1
  replace n2:=zvY n2
  clear hf hF
  show wpList _ _ _ [_] a2 V2
  go_wp2
  exact bodyPost_ret (zbp (hB2.set _ _) rfl (by simpa using p2)) (by first|exact hdf|simp|simpa using hdf) (zfA HO.out HE.out hC hk hB2 (by omega) n1.out n2.out)
end
end Go.Proofs.YtipckjmgdghkiaaGreatDoor
