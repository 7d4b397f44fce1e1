/- A part. -/
import Derived.Test.YtipckjmgdghkiaaGreatDoorGMtM
set_option maxHeartbeats 4000000
set_option maxRecDepth 100000
namespace Go.Proofs.YtipckjmgdghkiaaGreatDoor
open Go Go.RowKit
def Mt.kind:Mt->Int
 | .none=>0
 | .point _=>1
 | .over _ _=>2
def Mt.fst:Mt->QQ
 | .none=>(((0:Int):Rat),((0:Int):Rat))
 | .point A=>A
 | .over A _=>A
def Mt.snd:Mt->QQ
 | .none=>(((0:Int):Rat),((0:Int):Rat))
 | .point A=>A
 | .over _ B=>B
structure PtOf (V:World) (K:Nat) (q q':Rat) (b:Bool) (x y:Num) (d:Bool) (z w:Num):Prop where
 hq:qOf b x.N y.N=q
 hq':qOf d z.N w.N=q'
 kx:x.n<=K
 ky:y.n<=K
 kz:z.n<=K
 kw:w.n<=K
 ox:x.ok V V.heap.size
 oy:y.ok V V.heap.size
 oz:z.ok V V.heap.size
 ow:w.ok V V.heap.size
structure PtTo (V:World) (K:Nat) (q q':Rat) (b:Bool) (x y:Num) (d:Bool) (z w:Num):Prop where
 hq:IsQ q b x y
 hq':IsQ q' d z w
 kx:x.n<=K
 ky:y.n<=K
 kz:z.n<=K
 kw:w.n<=K
 ox:x.ok V V.heap.size
 oy:y.ok V V.heap.size
 oz:z.ok V V.heap.size
 ow:w.ok V V.heap.size
def S1 (K:Nat)(a b:QQ)(v:Value)(V:World):Prop:=∃(b1:Bool) (x1 y1:Num) (d1:Bool) (z1 w1:Num) (b2:Bool) (x2 y2:Num) (d2:Bool) (z2 w2:Num),
 v= .agg #[.bool b1,.slice x1.A x1.n x1.c,.slice y1.A y1.n y1.c,.bool d1,.slice z1.A z1.n z1.c,.slice w1.A w1.n w1.c,.bool b2,.slice x2.A x2.n x2.c,.slice y2.A y2.n y2.c,.bool d2,.slice z2.A z2.n z2.c,.slice w2.A w2.n w2.c]/\PtOf V K a.1 a.2 b1 x1 y1 d1 z1 w1/\PtOf V K b.1 b.2 b2 x2 y2 d2 z2 w2
def MT (K:Nat)(m:Mt)(v:Value)(V:World):Prop:=∃(b1:Bool) (x1 y1:Num) (d1:Bool) (z1 w1:Num) (b2:Bool) (x2 y2:Num) (d2:Bool) (z2 w2:Num),
 v= .agg #[.int .i8 m.kind,.bool b1,.slice x1.A x1.n x1.c,.slice y1.A y1.n y1.c,.bool d1,.slice z1.A z1.n z1.c,.slice w1.A w1.n w1.c,.bool b2,.slice x2.A x2.n x2.c,.slice y2.A y2.n y2.c,.bool d2,.slice z2.A z2.n z2.c,.slice w2.A w2.n w2.c]/\PtTo V K m.fst.1 m.fst.2 b1 x1 y1 d1 z1 w1/\PtTo V K m.snd.1 m.snd.2 b2 x2 y2 d2 z2 w2
def PB (K:Nat)(q q':Rat)(u:Value)(v:Value)(V:World):Prop:=∃(b:Bool) (x y:Num) (d:Bool) (z w:Num),v= .tuple #[.agg #[.bool b,.slice x.A x.n x.c,.slice y.A y.n y.c,.bool d,.slice z.A z.n z.c,.slice w.A w.n w.c],u]/\PtTo V K q q' b x y d z w
theorem zvZ {n:Nat}{ls:List (Tmp×Value)}{lb:List Bx}{w V:World}{e:List Num}{a:Act}{b d:Bool}{x y z u:Num}{q q':Rat}{K:Nat}(S:Frm n ls lb w e a V)(i:Nat)(h:IsQ q b x y)(h':IsQ q' d z u)(h1:x.n<=K)(h2:y.n<=K)(h3:z.n<=K)(h4:u.n<=K)(hi:(e.drop i).take 4=[x,y,z,u]:=by exact rfl):PtTo V K q q' b x y d z u:=
 have h5:∀z'∈[x,y,z,u],z'.ok V V.heap.size:=fun z' hz=>S.env.2 z' (List.mem_of_mem_drop (List.mem_of_mem_take (hi▸hz)))
 ⟨h,h',h1,h2,h3,h4,h5 _ (by simp),h5 _ (by simp),h5 _ (by simp),h5 _ (by simp)⟩
theorem zew {n:Nat}{ls:List (Tmp×Value)}{lb:List Bx}{w V:World}{e:List Num}{a:Act}{b d:Bool}{x y z u:Num}{q q':Rat}{K:Nat}(S:Frm n ls lb w e a V)(i:Nat)(h:IsQ q b x y)(h':IsQ q' d z u)(h1:x.n<=K)(h2:y.n<=K)(h3:z.n<=K)(h4:u.n<=K)(hi:(e.drop i).take 4=[u,z,y,x]:=by exact rfl):PtTo V K q q' b x y d z u:=
 have h5:∀z'∈[u,z,y,x],z'.ok V V.heap.size:=fun z' hz=>S.env.2 z' (List.mem_of_mem_drop (List.mem_of_mem_take (hi▸hz)))
 ⟨h,h',h1,h2,h3,h4,h5 _ (by simp),h5 _ (by simp),h5 _ (by simp),h5 _ (by simp)⟩
theorem zbh {n:Nat}{ls:List (Tmp×Value)}{lb:List Bx}{w V:World}{e:List Num}{a:Act}{b d:Bool}{x y z u:Num}{q q':Rat}{K:Nat}(S:Frm n ls lb w e a V)(i:Nat)(h:qOf b x.N y.N=q)(h':qOf d z.N u.N=q')(h1:x.n<=K)(h2:y.n<=K)(h3:z.n<=K)(h4:u.n<=K)(hi:(e.drop i).take 4=[x,y,z,u]:=by exact rfl):PtOf V K q q' b x y d z u:=
 have h5:∀z'∈[x,y,z,u],z'.ok V V.heap.size:=fun z' hz=>S.env.2 z' (List.mem_of_mem_drop (List.mem_of_mem_take (hi▸hz)))
 ⟨h,h',h1,h2,h3,h4,h5 _ (by simp),h5 _ (by simp),h5 _ (by simp),h5 _ (by simp)⟩
theorem zv0 {n:Nat}{ls:List (Tmp×Value)}{lb:List Bx}{w V:World}{e:List Num}{a:Act}{b d:Bool}{x y z u:Num}{q q':Rat}{K:Nat}(S:Frm n ls lb w e a V)(i:Nat)(h:qOf b x.N y.N=q)(h':qOf d z.N u.N=q')(h1:x.n<=K)(h2:y.n<=K)(h3:z.n<=K)(h4:u.n<=K)(hi:(e.drop i).take 4=[u,z,y,x]:=by exact rfl):PtOf V K q q' b x y d z u:=
 have h5:∀z'∈[u,z,y,x],z'.ok V V.heap.size:=fun z' hz=>S.env.2 z' (List.mem_of_mem_drop (List.mem_of_mem_take (hi▸hz)))
 ⟨h,h',h1,h2,h3,h4,h5 _ (by simp),h5 _ (by simp),h5 _ (by simp),h5 _ (by simp)⟩
theorem s1m {V:World}{K:Nat}{a c:QQ}{b1 d1 b2 d2:Bool}{x1 y1 z1 w1 x2 y2 z2 w2:Num}(h1:PtOf V K a.1 a.2 b1 x1 y1 d1 z1 w1)(h2:PtOf V K c.1 c.2 b2 x2 y2 d2 z2 w2):S1 K a c (aT b1 x1 y1 d1 z1 w1 b2 x2 y2 d2 z2 w2) V:=⟨_,_,_,_,_,_,_,_,_,_,_,_,rfl,h1,h2⟩
theorem mtm {V:World}{K:Nat}{m:Mt}{b1 d1 b2 d2:Bool}{x1 y1 z1 w1 x2 y2 z2 w2:Num}(h1:PtTo V K m.fst.1 m.fst.2 b1 x1 y1 d1 z1 w1)(h2:PtTo V K m.snd.1 m.snd.2 b2 x2 y2 d2 z2 w2):MT K m (aM m.kind b1 x1 y1 d1 z1 w1 b2 x2 y2 d2 z2 w2) V:=⟨_,_,_,_,_,_,_,_,_,_,_,_,rfl,h1,h2⟩
section
variable {K K':Nat}{q q' r r':Rat}{b:Bool}{x y:Num}{d:Bool}{z w:Num}{V V':World}{v u v1 v2:Value}{a c:QQ}{m:Mt}
theorem PtOf.keep (h:PtOf V K q q' b x y d z w)(hb:Below V.heap.size V V'):PtOf V' K q q' b x y d z w:=⟨h.hq,h.hq',h.kx,h.ky,h.kz,h.kw,h.ox.later hb,h.oy.later hb,h.oz.later hb,h.ow.later hb⟩
theorem PtTo.keep (h:PtTo V K q q' b x y d z w)(hb:Below V.heap.size V V'):PtTo V' K q q' b x y d z w:=⟨h.hq,h.hq',h.kx,h.ky,h.kz,h.kw,h.ox.later hb,h.oy.later hb,h.oz.later hb,h.ow.later hb⟩
theorem PtTo.to (h:PtTo V K q q' b x y d z w)(e:q=r)(e':q'=r')(hk:K<=K'):PtTo V K' r r' b x y d z w:=by subst e e';exact⟨h.hq,h.hq',zv8 h.kx hk,zv8 h.ky hk,zv8 h.kz hk,zv8 h.kw hk,h.ox,h.oy,h.oz,h.ow⟩
theorem PtOf.to (h:PtOf V K q q' b x y d z w)(e:q=r)(e':q'=r')(hk:K<=K'):PtOf V K' r r' b x y d z w:=by subst e e';exact⟨h.hq,h.hq',zv8 h.kx hk,zv8 h.ky hk,zv8 h.kz hk,zv8 h.kw hk,h.ox,h.oy,h.oz,h.ow⟩
theorem PtTo.lim (h:PtTo V K q q' b x y d z w)(h1:Sm K' q)(h2:Sm K' q'):PtTo V K' q q' b x y d z w:=⟨h.hq,h.hq',(zbV h.hq h1).1,(zbV h.hq h1).2,(zbV h.hq' h2).1,(zbV h.hq' h2).2,h.ox,h.oy,h.oz,h.ow⟩
theorem PtTo.pt (h:PtTo V K q q' b x y d z w):PT K q q' (.agg #[.bool b,.slice x.A x.n x.c,.slice y.A y.n y.c,.bool d,.slice z.A z.n z.c,.slice w.A w.n w.c]) V:=⟨b,x,y,d,z,w,rfl,h.hq,h.hq',⟨h.kx,h.ky⟩,⟨h.kz,h.kw⟩,⟨h.ox,h.oy⟩,h.oz,h.ow⟩
theorem PtOf.pt (h:PtOf V K q q' b x y d z w):P1 K q q' (.agg #[.bool b,.slice x.A x.n x.c,.slice y.A y.n y.c,.bool d,.slice z.A z.n z.c,.slice w.A w.n w.c]) V:=⟨b,x,y,d,z,w,rfl,h.hq,h.hq',⟨h.kx,h.ky⟩,⟨h.kz,h.kw⟩,⟨h.ox,h.oy⟩,h.oz,h.ow⟩
theorem PT.parts6 (h:PT K q q' v V):∃b x y d z w,v= .agg #[.bool b,.slice x.A x.n x.c,.slice y.A y.n y.c,.bool d,.slice z.A z.n z.c,.slice w.A w.n w.c]/\PtTo V K q q' b x y d z w:=by
 obtain⟨b,x,y,d,z,w,e,h1,h2,⟨h3,h4⟩,⟨h5,h6⟩,⟨h7,h8⟩,h9,h10⟩:=h
 exact⟨b,x,y,d,z,w,e,h1,h2,h3,h4,h5,h6,h7,h8,h9,h10⟩
theorem S1.keep (h:S1 K a c v V)(hb:Below V.heap.size V V'):S1 K a c v V':=by
 obtain⟨b1,x1,y1,d1,z1,w1,b2,x2,y2,d2,z2,w2,e,h1,h2⟩:=h
 exact⟨b1,x1,y1,d1,z1,w1,b2,x2,y2,d2,z2,w2,e,h1.keep hb,h2.keep hb⟩
theorem MT.keep (h:MT K m v V)(hb:Below V.heap.size V V'):MT K m v V':=by
 obtain⟨b1,x1,y1,d1,z1,w1,b2,x2,y2,d2,z2,w2,e,h1,h2⟩:=h
 exact⟨b1,x1,y1,d1,z1,w1,b2,x2,y2,d2,z2,w2,e,h1.keep hb,h2.keep hb⟩
theorem PB.keep (h:PB K q q' u v V)(hb:Below V.heap.size V V'):PB K q q' u v V':=by
 obtain⟨b1,x1,y1,d1,z1,w1,e,h1⟩:=h
 exact⟨b1,x1,y1,d1,z1,w1,e,h1.keep hb⟩
instance:Keeps (S1 K a c):=⟨fun h hb=>S1.keep h hb⟩
instance:Keeps (MT K m):=⟨fun h hb=>MT.keep h hb⟩
instance:Keeps (PB K q q' u):=⟨fun h hb=>PB.keep h hb⟩
theorem MT.to (h:MT K m v V)(hk:K<=K'):MT K' m v V:=by
 obtain⟨b1,x1,y1,d1,z1,w1,b2,x2,y2,d2,z2,w2,e,h1,h2⟩:=h
 exact⟨b1,x1,y1,d1,z1,w1,b2,x2,y2,d2,z2,w2,e,h1.to rfl rfl hk,h2.to rfl rfl hk⟩
theorem S1.to (h:S1 K a c v V)(hk:K<=K'):S1 K' a c v V:=by
 obtain⟨b1,x1,y1,d1,z1,w1,b2,x2,y2,d2,z2,w2,e,h1,h2⟩:=h
 exact⟨b1,x1,y1,d1,z1,w1,b2,x2,y2,d2,z2,w2,e,h1.to rfl rfl hk,h2.to rfl rfl hk⟩
theorem MT.of {m':Mt}(h:MT K m v V)(e:m=m'):MT K m' v V:=e▸h
theorem MT.lim (h:MT K m v V)(h1:Sm K' m.fst.1)(h2:Sm K' m.fst.2)(h3:Sm K' m.snd.1)(h4:Sm K' m.snd.2):MT K' m v V:=by
 obtain⟨b1,x1,y1,d1,z1,w1,b2,x2,y2,d2,z2,w2,e,g1,g2⟩:=h
 exact⟨b1,x1,y1,d1,z1,w1,b2,x2,y2,d2,z2,w2,e,g1.lim h1 h2,g2.lim h3 h4⟩
theorem PtOf.sm (h:PtOf V K q q' b x y d z w):Sm (max K 1) q/\Sm (max K 1) q':=h.pt.sm
theorem PtTo.sm (h:PtTo V K q q' b x y d z w):Sm (max K 1) q/\Sm (max K 1) q':=h.pt.any.sm
theorem S1.sm (h:S1 K a c v V):(Sm (max K 1) a.1/\Sm (max K 1) a.2)/\Sm (max K 1) c.1/\Sm (max K 1) c.2:=by
 obtain⟨b1,x1,y1,d1,z1,w1,b2,x2,y2,d2,z2,w2,e,h1,h2⟩:=h
 exact⟨h1.sm,h2.sm⟩
theorem MT.sm (h:MT K m v V):(Sm (max K 1) m.fst.1/\Sm (max K 1) m.fst.2)/\Sm (max K 1) m.snd.1/\Sm (max K 1) m.snd.2:=by
 obtain⟨b1,x1,y1,d1,z1,w1,b2,x2,y2,d2,z2,w2,e,h1,h2⟩:=h
 exact⟨h1.sm,h2.sm⟩
theorem zau:(Tryz.prog.info? 70).map (·.size)=some 12:=by kernel_rfl
theorem zaQ:(Tryz.prog.info? 42).map (·.size)=some 13:=by kernel_rfl
theorem zbv (g:Nat):(Instr.fieldAt 70 (.pointer (some ⟨g,0,none⟩)) 0).run Tryz.prog V= .ok (.pointer (some ⟨g,0,none⟩)) V:=by go_simp
theorem zbw (g:Nat):(Instr.fieldAt 70 (.pointer (some ⟨g,0,none⟩)) 1).run Tryz.prog V= .ok (.pointer (some ⟨g,6,none⟩)) V:=by go_simp
theorem zb0 (g:Nat):(Instr.fieldAt 42 (.pointer (some ⟨g,0,none⟩)) 0).run Tryz.prog V= .ok (.pointer (some ⟨g,0,none⟩)) V:=by go_simp
theorem zcf (g:Nat):(Instr.fieldAt 42 (.pointer (some ⟨g,0,none⟩)) 1).run Tryz.prog V= .ok (.pointer (some ⟨g,1,none⟩)) V:=by go_simp
theorem zcg (g:Nat):(Instr.fieldAt 42 (.pointer (some ⟨g,0,none⟩)) 2).run Tryz.prog V= .ok (.pointer (some ⟨g,7,none⟩)) V:=by go_simp
end
def zjr (p s:PEl):List Value:=zba p++zba s
def zfX (k:Int)(p s:PEl):List Value:= .int .i8 k::(zba p++zba s)
section
variable {a:Act}{V:World}{o:Oper}{t0 t1 t2:Tmp}{p s:PEl}{k:Int}{X Y:Operand}{v v1 v2:Value}
theorem ztR (p s:PEl):(Instr.build 70 #[(0,.agg (zba p).toArray),(1,.agg (zba s).toArray)]).run Tryz.prog V= .ok (.agg (zjr p s).toArray) V:=by
 obtain⟨b0,x0,y0,d0,z0,w0⟩:=p
 obtain⟨b1,x1,y1,d1,z1,w1⟩:=s
 simp only[zjr,zba,List.cons_append,List.nil_append]
 go_simp
theorem zpX (p s:PEl):(Instr.build 42 #[(0,.int .i8 k),(1,.agg (zba p).toArray),(2,.agg (zba s).toArray)]).run Tryz.prog V= .ok (.agg (zfX k p s).toArray) V:=by
 obtain⟨b0,x0,y0,d0,z0,w0⟩:=p
 obtain⟨b1,x1,y1,d1,z1,w1⟩:=s
 simp only[zfX,zba,List.cons_append,List.nil_append]
 go_simp
theorem zr8 (p s:PEl):(Instr.build 42 #[(1,.agg (zba p).toArray),(2,.agg (zba s).toArray)]).run Tryz.prog V= .ok (.agg (zfX 0 p s).toArray) V:=by
 obtain⟨b0,x0,y0,d0,z0,w0⟩:=p
 obtain⟨b1,x1,y1,d1,z1,w1⟩:=s
 simp only[zfX,zba,List.cons_append,List.nil_append]
 go_simp
theorem ztp (ho:o.op= .build 70 #[(0,.tmp t1),(1,.tmp t2)]) (h1:a.tmps.getD t1 undef= .agg (zba p).toArray) (h2:a.tmps.getD t2 undef= .agg (zba s).toArray):(execOp a.eval o).run Tryz.prog V= .ok (.value (.agg (zjr p s).toArray)) V:=
 zaW ho h1 h2 (ztR p s)
theorem zd4 {T:TypeId}{i j l:Nat}{v3:Value}(ho:o.op= .build T #[(i,X),(j,.tmp t1),(l,.tmp t2)])(h0:a.eval X=v3)(h1:a.tmps.getD t1 undef=v1)(h2:a.tmps.getD t2 undef=v2)(hr:(Instr.build T #[(i,v3),(j,v1),(l,v2)]).run Tryz.prog V= .ok v V):(execOp a.eval o).run Tryz.prog V= .ok (.value v) V:=by
 have e1:a.eval (.tmp t1)=v1:=h1
 have e2:a.eval (.tmp t2)=v2:=h2
 unfold execOp;simp only[ho,List.map_toArray,List.map_cons,List.map_nil,h0,e1,e2,Sem.run_bind,hr]
 rfl
theorem zuU (ho:o.op= .build 42 #[(0,X),(1,.tmp t1),(2,.tmp t2)]) (h0:a.eval X= .int .i8 k) (h1:a.tmps.getD t1 undef= .agg (zba p).toArray) (h2:a.tmps.getD t2 undef= .agg (zba s).toArray):(execOp a.eval o).run Tryz.prog V= .ok (.value (.agg (zfX k p s).toArray)) V:=
 zd4 ho h0 h1 h2 (zpX p s)
theorem zm2 {K:Nat}{q q' r r':Rat}{m:Mt}(hk:k=m.kind)(f1:q=m.fst.1)(f2:q'=m.fst.2)(s1:r=m.snd.1)(s2:r'=m.snd.2)(h:PT K q q' v1 V)(h':PT K r r' v2 V):
  ∃v,(Instr.build 42 #[(0,.int .i8 k),(1,v1),(2,v2)]).run Tryz.prog V= .ok v V/\MT K m v V:=by
 subst hk f1 f2 s1 s2
 obtain⟨b,x,y,d,z,w,rfl,h1⟩:=h.parts6
 obtain⟨b2,x2,y2,d2,z2,w2,rfl,h2⟩:=h'.parts6
 exact⟨_,zpX (b,x,y,d,z,w) (b2,x2,y2,d2,z2,w2),b,x,y,d,z,w,b2,x2,y2,d2,z2,w2,rfl,h1,h2⟩
theorem zuV {K:Nat}{q q' r r':Rat}{m:Mt}{b1:Bool}{x1 y1:Num}{d1:Bool}{z1 w1:Num}{b2:Bool}{x2 y2:Num}{d2:Bool}{z2 w2:Num}(hk:k=m.kind)(f1:q=m.fst.1)(f2:q'=m.fst.2)(s1:r=m.snd.1)(s2:r'=m.snd.2)(h1:PtTo V K q q' b1 x1 y1 d1 z1 w1)(h2:PtTo V K r r' b2 x2 y2 d2 z2 w2):
  MT K m (.agg #[.int .i8 k,.bool b1,.slice x1.A x1.n x1.c,.slice y1.A y1.n y1.c,.bool d1,.slice z1.A z1.n z1.c,.slice w1.A w1.n w1.c,.bool b2,.slice x2.A x2.n x2.c,.slice y2.A y2.n y2.c,.bool d2,.slice z2.A z2.n z2.c,.slice w2.A w2.n w2.c]) V:=by
 subst hk f1 f2 s1 s2
 exact⟨_,_,_,_,_,_,_,_,_,_,_,_,rfl,h1,h2⟩
theorem zm3 {x y:Int}(ho:o.op= .binOp .eql 40 X Y 40) (h:a.eval X= .int .i8 x) (h':a.eval Y= .int .i8 y):(execOp a.eval o).run Tryz.prog V= .ok (.value (.bool (decide (x=y)))) V:=by
 obtain⟨dst,op,ty,pos,after,guard⟩:=o;simp only at ho;subst ho
 unfold execOp;simp only[h,h'];go_simp;rfl
theorem zm4 {x y:Int}(ho:o.op= .binOp .neq 40 X Y 40) (h:a.eval X= .int .i8 x) (h':a.eval Y= .int .i8 y):(execOp a.eval o).run Tryz.prog V= .ok (.value (.bool (!decide (x=y)))) V:=by
 obtain⟨dst,op,ty,pos,after,guard⟩:=o;simp only at ho;subst ho
 unfold execOp;simp only[h,h'];go_simp;rfl
theorem zpY {f:FuncId}{t3 t4:Tmp}{v3 v4:Value}(hop:∃ts,o.op= .call { callee:= .value (.func f),args:= #[.tmp t1,.tmp t2,.tmp t3,.tmp t4],argTypes:=ts })(h1:a.tmps.getD t1 undef=v1)(h2:a.tmps.getD t2 undef=v2)(h3:a.tmps.getD t3 undef=v3)(h4:a.tmps.getD t4 undef=v4)(en:∀args w,(callFunc f args).run Tryz.prog w= .ok (.enter f args) w):(execOp a.eval o).run Tryz.prog V= .ok (.enter f #[v1,v2,v3,v4]) V:=by
 rw[zae]at h1 h2 h3 h4
 obtain⟨dst,op,ty,pos,after,guard⟩:=o
 obtain⟨ts,hop⟩:=hop
 simp only at hop
 subst hop
 have:=en #[v1,v2,v3,v4] V
 go_simp
theorem rc4 {f : FuncId} {fn : Func} {cd : Code} {t3 t4 : Tmp} {v3 v4 : Value} (hf : Tryz.prog.funcs[f]? = some fn) (h1 : a.tmps.getD t1 undef = v1) (h2 : a.tmps.getD t2 undef = v2) (h3 : a.tmps.getD t3 undef = v3) (h4 : a.tmps.getD t4 undef = v4) (hop : ∃ ts, o.op = .call { callee := .value (.func f), args := #[.tmp t1, .tmp t2, .tmp t3, .tmp t4], argTypes := ts } := by exact ⟨_, rfl⟩) (hn : (fn.name == "runtime.NumGoroutine") = false := by kernel_rfl) (hb : fn.body = some cd := by exact rfl) : (execOp a.eval o).run Tryz.prog V = .ok (.enter f #[v1, v2, v3, v4]) V := zpY hop h1 h2 h3 h4 (enters_of hf hn hb)
end
section
variable {a b c d:QQ}{q1 q1' q2 q2':Rat}
theorem zhD (h:decide (za8 q1 q1' q2 q2'=0)=true):1=(zbI (q1,q1') (q2,q2')).kind/\q1=(zbI (q1,q1') (q2,q2')).fst.1/\q1'=(zbI (q1,q1') (q2,q2')).fst.2/\q2=(zbI (q1,q1') (q2,q2')).snd.1/\q2'=(zbI (q1,q1') (q2,q2')).snd.2:=by
 have e:=of_decide_eq_true h
 unfold zbI
 rw[if_pos e]
 obtain⟨e1,e2⟩:=zgk.1 e
 exact⟨rfl,rfl,rfl,e1.symm,e2.symm⟩
theorem zhE (h:decide (za8 q1 q1' q2 q2'=0)=false):2=(zbI (q1,q1') (q2,q2')).kind/\q1=(zbI (q1,q1') (q2,q2')).fst.1/\q1'=(zbI (q1,q1') (q2,q2')).fst.2/\q2=(zbI (q1,q1') (q2,q2')).snd.1/\q2'=(zbI (q1,q1') (q2,q2')).snd.2:=by
 unfold zbI
 rw[if_neg (of_decide_eq_false h)]
 exact⟨rfl,rfl,rfl,rfl,rfl⟩
theorem zdw (h:(!zbA a b c d)=true):0=(zcI a b c d).kind/\((0:Int):Rat)=(zcI a b c d).fst.1/\((0:Int):Rat)=(zcI a b c d).fst.2/\((0:Int):Rat)=(zcI a b c d).snd.1/\((0:Int):Rat)=(zcI a b c d).snd.2:=by
 unfold zcI
 rw[if_neg (show¬zbA a b c d=true by simpa using h)]
 exact⟨rfl,rfl,rfl,rfl,rfl⟩
theorem zl0 (h:(!zbA a b c d)=false)(h2:decide (den a b c d≠0)=true):zbI (zc4 a b c d) (zc4 a b c d)=zcI a b c d:=by
 have e:=of_decide_eq_true h2
 unfold zcI zc4
 rw[if_pos (show zbA a b c d=true by simpa using h),if_pos e,if_neg e]
theorem zkE (h:(!zbA a b c d)=false)(h2:decide (den a b c d≠0)=false):zbI (zbZ a c) (zbf b d)=zcI a b c d:=by
 have e:=of_decide_eq_false h2
 unfold zcI
 rw[if_pos (show zbA a b c d=true by simpa using h),if_neg e]
end
theorem zm5 {K:Nat}{q1 q1' q2 q2':Rat}{v1 v2:Value}{V:World}(T:TT V)(h1:P1 K (q1) (q1') v1 V)(h2:P1 K (q2) (q2') v2 V)(hK0:K<=400:=by omega):
  Calls Tryz.prog 53 #[v1,v2] V (zag V (S1 K (spL (q1,q1') (q2,q2')) (spH (q1,q1') (q2,q2')))):=by
 obtain⟨b1,x1,y1,b2,x2,y2,rfl,hq1,hq2,⟨hk1,hk2⟩,⟨hk3,hk4⟩,⟨ok1,ok2⟩,ok3,ok4⟩:=h1
 obtain⟨b3,x3,y3,b4,x4,y4,rfl,hq3,hq4,⟨hk5,hk6⟩,⟨hk7,hk8⟩,⟨ok5,ok6⟩,ok7,ok8⟩:=h2
 have hp0:=fun {V':World}=>p1m (V:=V') hq1 hq2 hk1 hk2 hk3 hk4
 have hp1:=fun {V':World}=>p1m (V:=V') hq3 hq4 hk5 hk6 hk7 hk8
 refine fb Tryz.func53 Tryz.ntmps53 (zaa ok5 (zaa ok6 (zaa ok7 (zaa ok8 (zaa ok1 (zaa ok2 (zaa ok3 (zaa ok4 zav)))))))) (fun a S=>?_)
 refine wsp fun K1 hK1=>?_
 refine tb S 0 (lP b1 x1 y1 b2 x2 y2) fun g1 a V1 hgg1 S=>?_
 refine tb S 2 (lP b3 x3 y3 b4 x4 y4) fun g2 a V2 hgg2 S=>?_
 refine ti S (cs:=[.bool false,.slice none 0 0,.slice none 0 0,.bool false,.slice none 0 0,.slice none 0 0,.bool false,.slice none 0 0,.slice none 0 0,.bool false,.slice none 0 0,.slice none 0 0]) (zam rfl (Tryz.zeroValue70 _) rfl) (fun g3=>[⟨g1,29,(lP b1 x1 y1 b2 x2 y2)⟩,⟨g2,29,(lP b3 x3 y3 b4 x4 y4)⟩,⟨g3,70,[.bool false,.slice none 0 0,.slice none 0 0,.bool false,.slice none 0 0,.slice none 0 0,.bool false,.slice none 0 0,.slice none 0 0,.bool false,.slice none 0 0,.slice none 0 0]⟩]) fun g3 a V3 hgg3 S=>?_
 refine hK1 _ _ ?_
 refine wp_seq_k fun K2 hK2=>?_
 refine wsp fun K3 hK3=>?_
 refine lp S 2 0 fun a S=>?_
 refine lp S 2 1 fun a S=>?_
 refine tc S (rc2 Tryz.func63 (S.at 1 rfl) (S.at 0 rfl)) (ztd (T.keep S.below) (p4 S 4 hp0) (p4 S 0 hp1)) fun v a V4 hF hb S=>?_
 subst hF
 refine tv S (zdd rfl (S.at 0 rfl) rfl) fun a S=>?_
 refine hK3 _ _ ?_
 rcases zwf (decide (0<za8 q1 (q1') q2 (q2')))with hc8|hc8
 ·refine wp_cond_true ((S.at 0 rfl).trans (congrArg Value.bool hc8)) ?_
  refine zaA ?_
  refine lp S 5 1 fun a S=>?_
  refine lp S 7 0 fun a S=>?_
  refine sto S 0 (fun ht=>zai rfl (S.at 8 rfl) (S.at 1 rfl) zbb rfl (zv5 rfl) ht) fun V5 S=>?_
  refine sto S 1 (fun ht=>zai rfl (S.at 7 rfl) (S.at 0 rfl) zbb rfl (zv5 rfl) ht) fun V6 S=>?_
  refine hK2 _ _ ?_
  refine wsp fun K4 hK4=>?_
  refine lp S 8 0 fun a S=>?_
  refine lp S 8 1 fun a S=>?_
  refine tv S (ztp (p:=(b3,x3,y3,b4,x4,y4)) (s:=(b1,x1,y1,b2,x2,y2)) rfl (S.at 1 rfl) (S.at 0 rfl)) fun a S=>?_
  refine sto S 2 (fun ht=>zai rfl (S.at 9 rfl) (S.at 0 rfl) zau rfl (zv5 rfl) ht) fun V7 S=>?_
  refine hK4 _ _ ?_
  refine wp_ret ?_
  exact zas rfl S (S.at 9 rfl) (i:=2) rfl Tryz.underlying70 rfl zau ⟨_,rfl,⟨b3,x3,y3,b4,x4,y4,b1,x1,y1,b2,x2,y2,rfl,(PtOf.to (q:=q2) (q':=q2') (V:=V7) ⟨hq3,hq4,hk5,hk6,hk7,hk8,(S.num 0 rfl),(S.num 1 rfl),(S.num 2 rfl),(S.num 3 rfl)⟩ (ztl hc8).1 (ztl hc8).2 zv6),(PtOf.to (q:=q1) (q':=q1') (V:=V7) ⟨hq1,hq2,hk1,hk2,hk3,hk4,(S.num 4 rfl),(S.num 5 rfl),(S.num 6 rfl),(S.num 7 rfl)⟩ (ztn hc8).1 (ztn hc8).2 zv6)⟩,S.below⟩
 ·refine wp_cond_false ((S.at 0 rfl).trans (congrArg Value.bool hc8)) ?_
  refine wp_skip ?_
  refine hK2 _ _ ?_
  refine wsp fun K5 hK5=>?_
  refine lp S 6 0 fun a S=>?_
  refine lp S 6 1 fun a S=>?_
  refine tv S (ztp (p:=(b1,x1,y1,b2,x2,y2)) (s:=(b3,x3,y3,b4,x4,y4)) rfl (S.at 1 rfl) (S.at 0 rfl)) fun a S=>?_
  refine sto S 2 (fun ht=>zai rfl (S.at 7 rfl) (S.at 0 rfl) zau rfl (zv5 rfl) ht) fun V8 S=>?_
  refine hK5 _ _ ?_
  refine wp_ret ?_
  exact zas rfl S (S.at 7 rfl) (i:=2) rfl Tryz.underlying70 rfl zau ⟨_,rfl,⟨b1,x1,y1,b2,x2,y2,b3,x3,y3,b4,x4,y4,rfl,(PtOf.to (q:=q1) (q':=q1') (V:=V8) ⟨hq1,hq2,hk1,hk2,hk3,hk4,(S.num 4 rfl),(S.num 5 rfl),(S.num 6 rfl),(S.num 7 rfl)⟩ (ztm hc8).1 (ztm hc8).2 zv6),(PtOf.to (q:=q2) (q':=q2') (V:=V8) ⟨hq3,hq4,hk5,hk6,hk7,hk8,(S.num 0 rfl),(S.num 1 rfl),(S.num 2 rfl),(S.num 3 rfl)⟩ (zto hc8).1 (zto hc8).2 zv6)⟩,S.below⟩
theorem ztS {K:Nat}{q1 q1' q2 q2':Rat}{v1 v2:Value}{V:World}(T:TT V)(h1:P1 K (q1) (q1') v1 V)(h2:P1 K (q2) (q2') v2 V)(hK0:K<=400):
  Calls Tryz.prog 96 #[v1,v2] V (zag V (P1 K (zbZ (q1,q1') (q2,q2')).1 (zbZ (q1,q1') (q2,q2')).2)):=by
 obtain⟨b1,x1,y1,b2,x2,y2,rfl,hq1,hq2,⟨hk1,hk2⟩,⟨hk3,hk4⟩,⟨ok1,ok2⟩,ok3,ok4⟩:=h1
 obtain⟨b3,x3,y3,b4,x4,y4,rfl,hq3,hq4,⟨hk5,hk6⟩,⟨hk7,hk8⟩,⟨ok5,ok6⟩,ok7,ok8⟩:=h2
 have hp0:=fun {V':World}=>p1m (V:=V') hq1 hq2 hk1 hk2 hk3 hk4
 have hp1:=fun {V':World}=>p1m (V:=V') hq3 hq4 hk5 hk6 hk7 hk8
 refine fb Tryz.func96 Tryz.ntmps96 (zaa ok5 (zaa ok6 (zaa ok7 (zaa ok8 (zaa ok1 (zaa ok2 (zaa ok3 (zaa ok4 zav)))))))) (fun a S=>?_)
 refine wsp fun K1 hK1=>?_
 refine tb S 0 (lP b1 x1 y1 b2 x2 y2) fun g1 a V1 hgg1 S=>?_
 refine tb S 2 (lP b3 x3 y3 b4 x4 y4) fun g2 a V2 hgg2 S=>?_
 refine ti S (cs:=lY) (zam rfl (Tryz.zeroValue29 _) rfl) (fun g3=>[⟨g1,29,(lP b1 x1 y1 b2 x2 y2)⟩,⟨g2,29,(lP b3 x3 y3 b4 x4 y4)⟩,⟨g3,29,lY⟩]) fun g3 a V3 hgg3 S=>?_
 refine hK1 _ _ ?_
 refine wp_seq_k fun K2 hK2=>?_
 refine wsp fun K3 hK3=>?_
 refine lp S 2 0 fun a S=>?_
 refine lp S 2 1 fun a S=>?_
 refine tc S (rc2 Tryz.func63 (S.at 1 rfl) (S.at 0 rfl)) (ztd (T.keep S.below) (p4 S 4 hp0) (p4 S 0 hp1)) fun v a V4 hF hb S=>?_
 subst hF
 refine tv S (zeT rfl (S.at 0 rfl) rfl) fun a S=>?_
 refine hK3 _ _ ?_
 rcases zwf (decide (za8 q1 (q1') q2 (q2')<0))with hc8|hc8
 ·refine wp_cond_true ((S.at 0 rfl).trans (congrArg Value.bool hc8)) ?_
  refine wsp fun K4 hK4=>?_
  refine lp S 5 1 fun a S=>?_
  refine sto S 2 (fun ht=>zai rfl (S.at 5 rfl) (S.at 0 rfl) zbb rfl (zv5 rfl) ht) fun V5 S=>?_
  refine hK4 _ _ ?_
  refine wp_ret ?_
  exact zas rfl S (S.at 5 rfl) (i:=2) rfl Tryz.underlying29 rfl zbb ⟨_,rfl,(P1.to (q:=q2) (q':=q2') (p4 S 0 hp1) (zkC hc8).1 (zkC hc8).2 (by omega)),S.below⟩
 ·refine wp_cond_false ((S.at 0 rfl).trans (congrArg Value.bool hc8)) ?_
  refine wp_skip ?_
  refine hK2 _ _ ?_
  refine wsp fun K5 hK5=>?_
  refine lp S 6 0 fun a S=>?_
  refine sto S 2 (fun ht=>zai rfl (S.at 5 rfl) (S.at 0 rfl) zbb rfl (zv5 rfl) ht) fun V6 S=>?_
  refine hK5 _ _ ?_
  refine wp_ret ?_
  exact zas rfl S (S.at 5 rfl) (i:=2) rfl Tryz.underlying29 rfl zbb ⟨_,rfl,(P1.to (q:=q1) (q':=q1') (p4 S 4 hp0) (zkD hc8).1 (zkD hc8).2 (by omega)),S.below⟩
theorem zpZ {K:Nat}{q1 q1' q2 q2':Rat}{v1 v2:Value}{V:World}(T:TT V)(h1:P1 K (q1) (q1') v1 V)(h2:P1 K (q2) (q2') v2 V)(hK0:K<=400):
  Calls Tryz.prog 97 #[v1,v2] V (zag V (P1 K (zbf (q1,q1') (q2,q2')).1 (zbf (q1,q1') (q2,q2')).2)):=by
 obtain⟨b1,x1,y1,b2,x2,y2,rfl,hq1,hq2,⟨hk1,hk2⟩,⟨hk3,hk4⟩,⟨ok1,ok2⟩,ok3,ok4⟩:=h1
 obtain⟨b3,x3,y3,b4,x4,y4,rfl,hq3,hq4,⟨hk5,hk6⟩,⟨hk7,hk8⟩,⟨ok5,ok6⟩,ok7,ok8⟩:=h2
 have hp0:=fun {V':World}=>p1m (V:=V') hq1 hq2 hk1 hk2 hk3 hk4
 have hp1:=fun {V':World}=>p1m (V:=V') hq3 hq4 hk5 hk6 hk7 hk8
 refine fb Tryz.func97 Tryz.ntmps97 (zaa ok5 (zaa ok6 (zaa ok7 (zaa ok8 (zaa ok1 (zaa ok2 (zaa ok3 (zaa ok4 zav)))))))) (fun a S=>?_)
 refine wsp fun K1 hK1=>?_
 refine tb S 0 (lP b1 x1 y1 b2 x2 y2) fun g1 a V1 hgg1 S=>?_
 refine tb S 2 (lP b3 x3 y3 b4 x4 y4) fun g2 a V2 hgg2 S=>?_
 refine ti S (cs:=lY) (zam rfl (Tryz.zeroValue29 _) rfl) (fun g3=>[⟨g1,29,(lP b1 x1 y1 b2 x2 y2)⟩,⟨g2,29,(lP b3 x3 y3 b4 x4 y4)⟩,⟨g3,29,lY⟩]) fun g3 a V3 hgg3 S=>?_
 refine hK1 _ _ ?_
 refine wp_seq_k fun K2 hK2=>?_
 refine wsp fun K3 hK3=>?_
 refine lp S 2 0 fun a S=>?_
 refine lp S 2 1 fun a S=>?_
 refine tc S (rc2 Tryz.func63 (S.at 1 rfl) (S.at 0 rfl)) (ztd (T.keep S.below) (p4 S 4 hp0) (p4 S 0 hp1)) fun v a V4 hF hb S=>?_
 subst hF
 refine tv S (zdd rfl (S.at 0 rfl) rfl) fun a S=>?_
 refine hK3 _ _ ?_
 rcases zwf (decide (0<za8 q1 (q1') q2 (q2')))with hc8|hc8
 ·refine wp_cond_true ((S.at 0 rfl).trans (congrArg Value.bool hc8)) ?_
  refine wsp fun K4 hK4=>?_
  refine lp S 5 1 fun a S=>?_
  refine sto S 2 (fun ht=>zai rfl (S.at 5 rfl) (S.at 0 rfl) zbb rfl (zv5 rfl) ht) fun V5 S=>?_
  refine hK4 _ _ ?_
  refine wp_ret ?_
  exact zas rfl S (S.at 5 rfl) (i:=2) rfl Tryz.underlying29 rfl zbb ⟨_,rfl,(P1.to (q:=q2) (q':=q2') (p4 S 0 hp1) (zhB hc8).1 (zhB hc8).2 (by omega)),S.below⟩
 ·refine wp_cond_false ((S.at 0 rfl).trans (congrArg Value.bool hc8)) ?_
  refine wp_skip ?_
  refine hK2 _ _ ?_
  refine wsp fun K5 hK5=>?_
  refine lp S 6 0 fun a S=>?_
  refine sto S 2 (fun ht=>zai rfl (S.at 5 rfl) (S.at 0 rfl) zbb rfl (zv5 rfl) ht) fun V6 S=>?_
  refine hK5 _ _ ?_
  refine wp_ret ?_
  exact zas rfl S (S.at 5 rfl) (i:=2) rfl Tryz.underlying29 rfl zbb ⟨_,rfl,(P1.to (q:=q1) (q':=q1') (p4 S 4 hp0) (zhC hc8).1 (zhC hc8).2 (by omega)),S.below⟩
theorem zeh {K K':Nat}{u1 u2 u3 u4:QQ}{v1 v2:Value}{V:World}(T:TT V)(h1:S1 K (u1) (u2) v1 V)(h2:S1 K' (u3) (u4) v2 V)(hK0:K<=400:=by omega)(hK1:K'<=400:=by omega):
  Calls Tryz.prog 61 #[v1,v2] V (zag V (fun v _=>v= .bool (zgs u2 u3))):=by
 obtain⟨b1,x1,y1,b2,x2,y2,b3,x3,y3,b4,x4,y4,rfl,⟨hq1,hq2,hk1,hk2,hk3,hk4,ok1,ok2,ok3,ok4⟩,⟨hq3,hq4,hk5,hk6,hk7,hk8,ok5,ok6,ok7,ok8⟩⟩:=h1
 obtain⟨b5,x5,y5,b6,x6,y6,b7,x7,y7,b8,x8,y8,rfl,⟨hq5,hq6,hk9,hk10,hk11,hk12,ok9,ok10,ok11,ok12⟩,⟨hq7,hq8,hk13,hk14,hk15,hk16,ok13,ok14,ok15,ok16⟩⟩:=h2
 refine fb Tryz.func61 Tryz.ntmps61 (zaa ok9 (zaa ok10 (zaa ok11 (zaa ok12 (zaa ok13 (zaa ok14 (zaa ok15 (zaa ok16 (zaa ok1 (zaa ok2 (zaa ok3 (zaa ok4 (zaa ok5 (zaa ok6 (zaa ok7 (zaa ok8 zav)))))))))))))))) (fun a S=>?_)
 refine wsp fun K1 hK1=>?_
 refine tb S 0 (lT b1 x1 y1 b2 x2 y2 b3 x3 y3 b4 x4 y4) fun g1 a V1 hgg1 S=>?_
 refine tb S 2 (lT b5 x5 y5 b6 x6 y6 b7 x7 y7 b8 x8 y8) fun g2 a V2 hgg2 S=>?_
 refine ac S fun a S=>?_
 refine hK1 _ _ ?_
 refine wsp fun K2 hK2=>?_
 refine tv S (zab rfl (S.at 2 rfl) (zbw _)) fun a S=>?_
 refine lp S 0 0 fun a S=>?_
 refine tv S (zab rfl (S.at 3 rfl) (zbv _)) fun a S=>?_
 refine lp S 0 1 fun a S=>?_
 refine tc S (rc2 Tryz.func63 (S.at 2 rfl) (S.at 0 rfl)) (ztd (T.keep S.below) (zdC S 12 hq3 hq4 hk5 hk6 hk7 hk8) (zdC S 0 hq5 hq6 hk9 hk10 hk11 hk12)) fun v a V3 hF hb S=>?_
 subst hF
 refine tv S (zeT rfl (S.at 0 rfl) rfl) fun a S=>?_
 refine av S (zaj rfl (S.at 0 rfl)) fun a S=>?_
 refine hK2 _ _ ?_
 refine wp_ret ?_
 exact zaC rfl S (S.at 0 rfl) ⟨_,rfl,rfl,S.below⟩
theorem zfY {K K':Nat}{u1 u2 u3 u4:QQ}{v1 v2:Value}{V:World}(T:TT V)(h1:S1 K (u1) (u2) v1 V)(h2:S1 K' (u3) (u4) v2 V)(hK0:K<=10:=by omega)(hK1:K'<=10:=by omega):
  Calls Tryz.prog 99 #[v1,v2] V (zag V (fun v _=>v= .bool (zeg u1 u2 u3 u4))):=by
 obtain⟨⟨mu1,mu12⟩,mu2,mu22⟩:=h1.sm
 obtain⟨⟨mu3,mu32⟩,mu4,mu42⟩:=h2.sm
 have du2u1:Sm 250 (u2.1 - u1.1):=(mu2.sub mu1).mono (by omega)
 have du2u12:Sm 250 (u2.2 - u1.2):=(mu22.sub mu12).mono (by omega)
 have du3u1:Sm 250 (u3.1 - u1.1):=(mu3.sub mu1).mono (by omega)
 have du3u12:Sm 250 (u3.2 - u1.2):=(mu32.sub mu12).mono (by omega)
 have du4u1:Sm 250 (u4.1 - u1.1):=(mu4.sub mu1).mono (by omega)
 have du4u12:Sm 250 (u4.2 - u1.2):=(mu42.sub mu12).mono (by omega)
 obtain⟨b1,x1,y1,b2,x2,y2,b3,x3,y3,b4,x4,y4,rfl,⟨hq1,hq2,hk1,hk2,hk3,hk4,ok1,ok2,ok3,ok4⟩,⟨hq3,hq4,hk5,hk6,hk7,hk8,ok5,ok6,ok7,ok8⟩⟩:=h1
 obtain⟨b5,x5,y5,b6,x6,y6,b7,x7,y7,b8,x8,y8,rfl,⟨hq5,hq6,hk9,hk10,hk11,hk12,ok9,ok10,ok11,ok12⟩,⟨hq7,hq8,hk13,hk14,hk15,hk16,ok13,ok14,ok15,ok16⟩⟩:=h2
 refine fb Tryz.func99 Tryz.ntmps99 (zaa ok9 (zaa ok10 (zaa ok11 (zaa ok12 (zaa ok13 (zaa ok14 (zaa ok15 (zaa ok16 (zaa ok1 (zaa ok2 (zaa ok3 (zaa ok4 (zaa ok5 (zaa ok6 (zaa ok7 (zaa ok8 zav)))))))))))))))) (fun a S=>?_)
 refine wsp fun K1 hK1=>?_
 refine tb S 0 (lT b1 x1 y1 b2 x2 y2 b3 x3 y3 b4 x4 y4) fun g1 a V1 hgg1 S=>?_
 refine tb S 2 (lT b5 x5 y5 b6 x6 y6 b7 x7 y7 b8 x8 y8) fun g2 a V2 hgg2 S=>?_
 refine ac S fun a S=>?_
 refine hK1 _ _ ?_
 refine wp_seq_k fun K2 hK2=>?_
 have S:=S.keep [4,3,2] (ls':=[(4,.bool false),(3,pT g2 0),(2,pT g1 0)]) rfl
 obtain⟨W1,hW1⟩:∃W,W=V2:=⟨_,rfl⟩
 rw[<-hW1]at S ⊢
 have S0:=S
 refine fr 16 [5,6,7,8,9,10,11,12,13,14,15,16,17,18,19,20] [IsV (pT g1 0),IsV ((aP b1 x1 y1 b2 x2 y2)),IsV (pT g1 6),IsV ((aP b3 x3 y3 b4 x4 y4)),IsV (pT g2 0),IsV ((aP b5 x5 y5 b6 x6 y6)),iI ((zaq (crs u1.1 u1.2 u2.1 u2.2 u3.1 u3.2) 0)),IsV (pT g1 0),IsV ((aP b1 x1 y1 b2 x2 y2)),IsV (pT g1 6),IsV ((aP b3 x3 y3 b4 x4 y4)),IsV (pT g2 6),IsV ((aP b7 x7 y7 b8 x8 y8)),iI ((zaq (crs u1.1 u1.2 u2.1 u2.2 u4.1 u4.2) 0)),iI (((zaq (crs u1.1 u1.2 u2.1 u2.2 u3.1 u3.2) 0)*(zaq (crs u1.1 u1.2 u2.1 u2.2 u4.1 u4.2) 0))),IsV (.bool (decide (0<(zaq (crs u1.1 u1.2 u2.1 u2.2 u3.1 u3.2) 0)*(zaq (crs u1.1 u1.2 u2.1 u2.2 u4.1 u4.2) 0))))] S ?_ ?_
 ·refine sc (fun _ _ S _ _=>sv rfl (zab rfl (S.at 2 rfl) (zbv _))) ?_
  refine sc (fun _ _ S _ hd=>sv rfl (za5 rfl (hd.v 0 rfl rfl) (S.bx 0 rfl) rfl)) ?_
  refine sc (fun _ _ S _ _=>sv rfl (zab rfl (S.at 2 rfl) (zbw _))) ?_
  refine sc (fun _ _ S _ hd=>sv rfl (za5 rfl (hd.v 2 rfl rfl) (S.bx 0 rfl) rfl)) ?_
  refine sc (fun _ _ S _ _=>sv rfl (zab rfl (S.at 1 rfl) (zbv _))) ?_
  refine sc (fun _ _ S _ hd=>sv rfl (za5 rfl (hd.v 4 rfl rfl) (S.bx 1 rfl) rfl)) ?_
  refine sc (fun _ _ S _ hd=>sl rfl (rc3 Tryz.func131 (hd.v 1 rfl rfl) (hd.v 3 rfl rfl) (hd.v 5 rfl rfl)) (zrE (T.keep S.below) (zdC S 8 hq1 hq2 hk1 hk2 hk3 hk4) (zdC S 12 hq3 hq4 hk5 hk6 hk7 hk8) (zdC S 0 hq5 hq6 hk9 hk10 hk11 hk12) (by omega) (by omega) (by omega) (by assumption) (by assumption) (by assumption) (by assumption))) ?_
  refine sc (fun _ _ S _ _=>sv rfl (zab rfl (S.at 2 rfl) (zbv _))) ?_
  refine sc (fun _ _ S _ hd=>sv rfl (za5 rfl (hd.v 7 rfl rfl) (S.bx 0 rfl) rfl)) ?_
  refine sc (fun _ _ S _ _=>sv rfl (zab rfl (S.at 2 rfl) (zbw _))) ?_
  refine sc (fun _ _ S _ hd=>sv rfl (za5 rfl (hd.v 9 rfl rfl) (S.bx 0 rfl) rfl)) ?_
  refine sc (fun _ _ S _ _=>sv rfl (zab rfl (S.at 1 rfl) (zbw _))) ?_
  refine sc (fun _ _ S _ hd=>sv rfl (za5 rfl (hd.v 11 rfl rfl) (S.bx 1 rfl) rfl)) ?_
  refine sc (fun _ _ S _ hd=>sl rfl (rc3 Tryz.func131 (hd.v 8 rfl rfl) (hd.v 10 rfl rfl) (hd.v 12 rfl rfl)) (zrE (T.keep S.below) (zdC S 8 hq1 hq2 hk1 hk2 hk3 hk4) (zdC S 12 hq3 hq4 hk5 hk6 hk7 hk8) (zdC S 4 hq7 hq8 hk13 hk14 hk15 hk16) (by omega) (by omega) (by omega) (by assumption) (by assumption) (by assumption) (by assumption))) ?_
  refine sc (fun _ _ _ _ hd=>sv rfl (zdR rfl (hd.v 6 rfl rfl) (hd.v 13 rfl rfl) (zdS _ _ _ _))) ?_
  refine sc (fun _ _ _ _ hd=>sv rfl (zdd rfl (hd.v 14 rfl rfl) rfl)) ?_
  exact sn
 ·intro a1 V3 S hB hf
  have S:=S.add (hf.v 15 rfl rfl)
  clear hf S0
  show wpList _ _ _ [_] _ _
  refine av S (zaj rfl (S.at 0 rfl)) fun a S=>?_
  refine hK2 _ _ ?_
  refine wp_ret ?_
  exact zaC rfl S (S.at 0 rfl) ⟨_,rfl,rfl,S.below⟩
theorem zp0 {K K':Nat}{u1 u2 u3 u4:QQ}{v1 v2:Value}{V:World}(T:TT V)(h1:S1 K (u1) (u2) v1 V)(h2:S1 K' (u3) (u4) v2 V)(hK0:K<=10:=by omega)(hK1:K'<=10:=by omega):
  Calls Tryz.prog 57 #[v1,v2] V (zag V (fun v _=>v= .bool (zbA u1 u2 u3 u4))):=by
 obtain⟨b1,x1,y1,b2,x2,y2,b3,x3,y3,b4,x4,y4,rfl,⟨hq1,hq2,hk1,hk2,hk3,hk4,ok1,ok2,ok3,ok4⟩,⟨hq3,hq4,hk5,hk6,hk7,hk8,ok5,ok6,ok7,ok8⟩⟩:=h1
 obtain⟨b5,x5,y5,b6,x6,y6,b7,x7,y7,b8,x8,y8,rfl,⟨hq5,hq6,hk9,hk10,hk11,hk12,ok9,ok10,ok11,ok12⟩,⟨hq7,hq8,hk13,hk14,hk15,hk16,ok13,ok14,ok15,ok16⟩⟩:=h2
 refine fb Tryz.func57 Tryz.ntmps57 (zaa ok9 (zaa ok10 (zaa ok11 (zaa ok12 (zaa ok13 (zaa ok14 (zaa ok15 (zaa ok16 (zaa ok1 (zaa ok2 (zaa ok3 (zaa ok4 (zaa ok5 (zaa ok6 (zaa ok7 (zaa ok8 zav)))))))))))))))) (fun a S=>?_)
 refine wsp fun K1 hK1=>?_
 refine tb S 0 (lT b1 x1 y1 b2 x2 y2 b3 x3 y3 b4 x4 y4) fun g1 a V1 hgg1 S=>?_
 refine tb S 2 (lT b5 x5 y5 b6 x6 y6 b7 x7 y7 b8 x8 y8) fun g2 a V2 hgg2 S=>?_
 refine ac S fun a S=>?_
 refine hK1 _ _ ?_
 refine wp_seq_k fun K2 hK2=>?_
 rcases zwf (zgs u2 u3)with hs1_|hs1_
 ·skip
  refine zaA ?_
  refine tv S (zad rfl (S.at 2 rfl) (S.bx 0 rfl) Tryz.underlying70 rfl (vs:=(lT b1 x1 y1 b2 x2 y2 b3 x3 y3 b4 x4 y4)) zau rfl) fun a S=>?_
  refine tv S (zad rfl (S.at 2 rfl) (S.bx 1 rfl) Tryz.underlying70 rfl (vs:=(lT b5 x5 y5 b6 x6 y6 b7 x7 y7 b8 x8 y8)) zau rfl) fun a S=>?_
  refine tc S (rc2 Tryz.func61 (S.at 1 rfl) (S.at 0 rfl)) (gtr (zeh (T.keep S.below) (show S1 K (u1) (u2) _ _ from s1m (zbh S 8 hq1 hq2 hk1 hk2 hk3 hk4) (zbh S 12 hq3 hq4 hk5 hk6 hk7 hk8)) (show S1 K' (u3) (u4) _ _ from s1m (zbh S 0 hq5 hq6 hk9 hk10 hk11 hk12) (zbh S 4 hq7 hq8 hk13 hk14 hk15 hk16))) hs1_) fun v a V3 hF hb S=>?_
  subst hF
  refine tv S (zbS (b:=true) rfl (S.at 0 rfl)) fun a S=>?_
  refine mv S 0 fun a S=>?_
  refine tk S (S.at 0 rfl) fun a S=>?_
  refine tk S (S.at 1 rfl) fun a S=>?_
  refine tk S (S.at 2 rfl) fun a S=>?_
  refine tk S (S.at 3 rfl) fun a S=>?_
  refine tv S (zaG false rfl (S.at 4 rfl) rfl) fun a S=>?_
  refine mv S 0 fun a S=>?_
  refine tk S (S.at 0 rfl) fun a S=>?_
  refine tk S (S.at 1 rfl) fun a S=>?_
  refine tk S (S.at 2 rfl) fun a S=>?_
  refine tk S (S.at 3 rfl) fun a S=>?_
  refine tv S (zaG false rfl (S.at 4 rfl) rfl) fun a S=>?_
  refine mv S 0 fun a S=>?_
  refine tk S (S.at 0 rfl) fun a S=>?_
  refine tk S (S.at 1 rfl) fun a S=>?_
  refine tk S (S.at 2 rfl) fun a S=>?_
  refine tk S (S.at 3 rfl) fun a S=>?_
  refine tv S (zaG false rfl (S.at 4 rfl) rfl) fun a S=>?_
  refine av S (zaj rfl (S.at 0 rfl)) fun a S=>?_
  refine hK2 _ _ ?_
  refine wp_ret ?_
  exact zaC rfl S (S.at 0 rfl) ⟨_,rfl,congrArg Value.bool (show _=zbA u1 u2 u3 u4 by unfold zbA;rw[hs1_];simp),S.below⟩
 ·skip
  rcases zwf (zgs u4 u1)with hs2_|hs2_
  ·skip
   refine zaA ?_
   refine tv S (zad rfl (S.at 2 rfl) (S.bx 0 rfl) Tryz.underlying70 rfl (vs:=(lT b1 x1 y1 b2 x2 y2 b3 x3 y3 b4 x4 y4)) zau rfl) fun a S=>?_
   refine tv S (zad rfl (S.at 2 rfl) (S.bx 1 rfl) Tryz.underlying70 rfl (vs:=(lT b5 x5 y5 b6 x6 y6 b7 x7 y7 b8 x8 y8)) zau rfl) fun a S=>?_
   refine tc S (rc2 Tryz.func61 (S.at 1 rfl) (S.at 0 rfl)) (gtr (zeh (T.keep S.below) (show S1 K (u1) (u2) _ _ from s1m (zbh S 8 hq1 hq2 hk1 hk2 hk3 hk4) (zbh S 12 hq3 hq4 hk5 hk6 hk7 hk8)) (show S1 K' (u3) (u4) _ _ from s1m (zbh S 0 hq5 hq6 hk9 hk10 hk11 hk12) (zbh S 4 hq7 hq8 hk13 hk14 hk15 hk16))) hs1_) fun v a V4 hF hb S=>?_
   subst hF
   refine tv S (zbS (b:=false) rfl (S.at 0 rfl)) fun a S=>?_
   refine mv S 0 fun a S=>?_
   refine tvg S (S.at 0 rfl) (zad rfl (S.at 6 rfl) (S.bx 1 rfl) Tryz.underlying70 rfl (vs:=(lT b5 x5 y5 b6 x6 y6 b7 x7 y7 b8 x8 y8)) zau rfl) fun a S=>?_
   refine tvg S (S.at 1 rfl) (zad rfl (S.at 8 rfl) (S.bx 0 rfl) Tryz.underlying70 rfl (vs:=(lT b1 x1 y1 b2 x2 y2 b3 x3 y3 b4 x4 y4)) zau rfl) fun a S=>?_
   refine tcg S (S.at 2 rfl) (rc2 Tryz.func61 (S.at 1 rfl) (S.at 0 rfl)) (gtr (zeh (T.keep S.below) (show S1 K' (u3) (u4) _ _ from s1m (zbh S 0 hq5 hq6 hk9 hk10 hk11 hk12) (zbh S 4 hq7 hq8 hk13 hk14 hk15 hk16)) (show S1 K (u1) (u2) _ _ from s1m (zbh S 8 hq1 hq2 hk1 hk2 hk3 hk4) (zbh S 12 hq3 hq4 hk5 hk6 hk7 hk8))) hs2_) fun v a V5 hF hb S=>?_
   subst hF
   refine tvg S (S.at 3 rfl) (zbS (b:=true) rfl (S.at 0 rfl)) fun a S=>?_
   refine tv S (zaG true rfl (S.at 4 rfl) (S.at 0 rfl)) fun a S=>?_
   refine mv S 0 fun a S=>?_
   refine tk S (S.at 0 rfl) fun a S=>?_
   refine tk S (S.at 1 rfl) fun a S=>?_
   refine tk S (S.at 2 rfl) fun a S=>?_
   refine tk S (S.at 3 rfl) fun a S=>?_
   refine tv S (zaG false rfl (S.at 4 rfl) rfl) fun a S=>?_
   refine mv S 0 fun a S=>?_
   refine tk S (S.at 0 rfl) fun a S=>?_
   refine tk S (S.at 1 rfl) fun a S=>?_
   refine tk S (S.at 2 rfl) fun a S=>?_
   refine tk S (S.at 3 rfl) fun a S=>?_
   refine tv S (zaG false rfl (S.at 4 rfl) rfl) fun a S=>?_
   refine av S (zaj rfl (S.at 0 rfl)) fun a S=>?_
   refine hK2 _ _ ?_
   refine wp_ret ?_
   exact zaC rfl S (S.at 0 rfl) ⟨_,rfl,congrArg Value.bool (show _=zbA u1 u2 u3 u4 by unfold zbA;rw[hs1_,hs2_];simp),S.below⟩
  ·skip
   rcases zwf (zeg u1 u2 u3 u4)with hs3_|hs3_
   ·skip
    refine zaA ?_
    refine tv S (zad rfl (S.at 2 rfl) (S.bx 0 rfl) Tryz.underlying70 rfl (vs:=(lT b1 x1 y1 b2 x2 y2 b3 x3 y3 b4 x4 y4)) zau rfl) fun a S=>?_
    refine tv S (zad rfl (S.at 2 rfl) (S.bx 1 rfl) Tryz.underlying70 rfl (vs:=(lT b5 x5 y5 b6 x6 y6 b7 x7 y7 b8 x8 y8)) zau rfl) fun a S=>?_
    refine tc S (rc2 Tryz.func61 (S.at 1 rfl) (S.at 0 rfl)) (gtr (zeh (T.keep S.below) (show S1 K (u1) (u2) _ _ from s1m (zbh S 8 hq1 hq2 hk1 hk2 hk3 hk4) (zbh S 12 hq3 hq4 hk5 hk6 hk7 hk8)) (show S1 K' (u3) (u4) _ _ from s1m (zbh S 0 hq5 hq6 hk9 hk10 hk11 hk12) (zbh S 4 hq7 hq8 hk13 hk14 hk15 hk16))) hs1_) fun v a V6 hF hb S=>?_
    subst hF
    refine tv S (zbS (b:=false) rfl (S.at 0 rfl)) fun a S=>?_
    refine mv S 0 fun a S=>?_
    refine tvg S (S.at 0 rfl) (zad rfl (S.at 6 rfl) (S.bx 1 rfl) Tryz.underlying70 rfl (vs:=(lT b5 x5 y5 b6 x6 y6 b7 x7 y7 b8 x8 y8)) zau rfl) fun a S=>?_
    refine tvg S (S.at 1 rfl) (zad rfl (S.at 8 rfl) (S.bx 0 rfl) Tryz.underlying70 rfl (vs:=(lT b1 x1 y1 b2 x2 y2 b3 x3 y3 b4 x4 y4)) zau rfl) fun a S=>?_
    refine tcg S (S.at 2 rfl) (rc2 Tryz.func61 (S.at 1 rfl) (S.at 0 rfl)) (gtr (zeh (T.keep S.below) (show S1 K' (u3) (u4) _ _ from s1m (zbh S 0 hq5 hq6 hk9 hk10 hk11 hk12) (zbh S 4 hq7 hq8 hk13 hk14 hk15 hk16)) (show S1 K (u1) (u2) _ _ from s1m (zbh S 8 hq1 hq2 hk1 hk2 hk3 hk4) (zbh S 12 hq3 hq4 hk5 hk6 hk7 hk8))) hs2_) fun v a V7 hF hb S=>?_
    subst hF
    refine tvg S (S.at 3 rfl) (zbS (b:=false) rfl (S.at 0 rfl)) fun a S=>?_
    refine tv S (zaG true rfl (S.at 4 rfl) (S.at 0 rfl)) fun a S=>?_
    refine mv S 0 fun a S=>?_
    refine tvg S (S.at 0 rfl) (zad rfl (S.at 13 rfl) (S.bx 0 rfl) Tryz.underlying70 rfl (vs:=(lT b1 x1 y1 b2 x2 y2 b3 x3 y3 b4 x4 y4)) zau rfl) fun a S=>?_
    refine tvg S (S.at 1 rfl) (zad rfl (S.at 13 rfl) (S.bx 1 rfl) Tryz.underlying70 rfl (vs:=(lT b5 x5 y5 b6 x6 y6 b7 x7 y7 b8 x8 y8)) zau rfl) fun a S=>?_
    refine tcg S (S.at 2 rfl) (rc2 Tryz.func99 (S.at 1 rfl) (S.at 0 rfl)) (gtr (zfY (T.keep S.below) (show S1 K (u1) (u2) _ _ from s1m (zbh S 8 hq1 hq2 hk1 hk2 hk3 hk4) (zbh S 12 hq3 hq4 hk5 hk6 hk7 hk8)) (show S1 K' (u3) (u4) _ _ from s1m (zbh S 0 hq5 hq6 hk9 hk10 hk11 hk12) (zbh S 4 hq7 hq8 hk13 hk14 hk15 hk16))) hs3_) fun v a V8 hF hb S=>?_
    subst hF
    refine tvg S (S.at 3 rfl) (zbS (b:=true) rfl (S.at 0 rfl)) fun a S=>?_
    refine tv S (zaG true rfl (S.at 4 rfl) (S.at 0 rfl)) fun a S=>?_
    refine mv S 0 fun a S=>?_
    refine tk S (S.at 0 rfl) fun a S=>?_
    refine tk S (S.at 1 rfl) fun a S=>?_
    refine tk S (S.at 2 rfl) fun a S=>?_
    refine tk S (S.at 3 rfl) fun a S=>?_
    refine tv S (zaG false rfl (S.at 4 rfl) rfl) fun a S=>?_
    refine av S (zaj rfl (S.at 0 rfl)) fun a S=>?_
    refine hK2 _ _ ?_
    refine wp_ret ?_
    exact zaC rfl S (S.at 0 rfl) ⟨_,rfl,congrArg Value.bool (show _=zbA u1 u2 u3 u4 by unfold zbA;rw[hs1_,hs2_,hs3_];simp),S.below⟩
   ·skip
    rcases zwf (zeg u3 u4 u1 u2)with hs4_|hs4_
    ·skip
     refine zaA ?_
     refine tv S (zad rfl (S.at 2 rfl) (S.bx 0 rfl) Tryz.underlying70 rfl (vs:=(lT b1 x1 y1 b2 x2 y2 b3 x3 y3 b4 x4 y4)) zau rfl) fun a S=>?_
     refine tv S (zad rfl (S.at 2 rfl) (S.bx 1 rfl) Tryz.underlying70 rfl (vs:=(lT b5 x5 y5 b6 x6 y6 b7 x7 y7 b8 x8 y8)) zau rfl) fun a S=>?_
     refine tc S (rc2 Tryz.func61 (S.at 1 rfl) (S.at 0 rfl)) (gtr (zeh (T.keep S.below) (show S1 K (u1) (u2) _ _ from s1m (zbh S 8 hq1 hq2 hk1 hk2 hk3 hk4) (zbh S 12 hq3 hq4 hk5 hk6 hk7 hk8)) (show S1 K' (u3) (u4) _ _ from s1m (zbh S 0 hq5 hq6 hk9 hk10 hk11 hk12) (zbh S 4 hq7 hq8 hk13 hk14 hk15 hk16))) hs1_) fun v a V9 hF hb S=>?_
     subst hF
     refine tv S (zbS (b:=false) rfl (S.at 0 rfl)) fun a S=>?_
     refine mv S 0 fun a S=>?_
     refine tvg S (S.at 0 rfl) (zad rfl (S.at 6 rfl) (S.bx 1 rfl) Tryz.underlying70 rfl (vs:=(lT b5 x5 y5 b6 x6 y6 b7 x7 y7 b8 x8 y8)) zau rfl) fun a S=>?_
     refine tvg S (S.at 1 rfl) (zad rfl (S.at 8 rfl) (S.bx 0 rfl) Tryz.underlying70 rfl (vs:=(lT b1 x1 y1 b2 x2 y2 b3 x3 y3 b4 x4 y4)) zau rfl) fun a S=>?_
     refine tcg S (S.at 2 rfl) (rc2 Tryz.func61 (S.at 1 rfl) (S.at 0 rfl)) (gtr (zeh (T.keep S.below) (show S1 K' (u3) (u4) _ _ from s1m (zbh S 0 hq5 hq6 hk9 hk10 hk11 hk12) (zbh S 4 hq7 hq8 hk13 hk14 hk15 hk16)) (show S1 K (u1) (u2) _ _ from s1m (zbh S 8 hq1 hq2 hk1 hk2 hk3 hk4) (zbh S 12 hq3 hq4 hk5 hk6 hk7 hk8))) hs2_) fun v a V10 hF hb S=>?_
     subst hF
     refine tvg S (S.at 3 rfl) (zbS (b:=false) rfl (S.at 0 rfl)) fun a S=>?_
     refine tv S (zaG true rfl (S.at 4 rfl) (S.at 0 rfl)) fun a S=>?_
     refine mv S 0 fun a S=>?_
     refine tvg S (S.at 0 rfl) (zad rfl (S.at 13 rfl) (S.bx 0 rfl) Tryz.underlying70 rfl (vs:=(lT b1 x1 y1 b2 x2 y2 b3 x3 y3 b4 x4 y4)) zau rfl) fun a S=>?_
     refine tvg S (S.at 1 rfl) (zad rfl (S.at 13 rfl) (S.bx 1 rfl) Tryz.underlying70 rfl (vs:=(lT b5 x5 y5 b6 x6 y6 b7 x7 y7 b8 x8 y8)) zau rfl) fun a S=>?_
     refine tcg S (S.at 2 rfl) (rc2 Tryz.func99 (S.at 1 rfl) (S.at 0 rfl)) (gtr (zfY (T.keep S.below) (show S1 K (u1) (u2) _ _ from s1m (zbh S 8 hq1 hq2 hk1 hk2 hk3 hk4) (zbh S 12 hq3 hq4 hk5 hk6 hk7 hk8)) (show S1 K' (u3) (u4) _ _ from s1m (zbh S 0 hq5 hq6 hk9 hk10 hk11 hk12) (zbh S 4 hq7 hq8 hk13 hk14 hk15 hk16))) hs3_) fun v a V11 hF hb S=>?_
     subst hF
     refine tvg S (S.at 3 rfl) (zbS (b:=false) rfl (S.at 0 rfl)) fun a S=>?_
     refine tv S (zaG true rfl (S.at 4 rfl) (S.at 0 rfl)) fun a S=>?_
     refine mv S 0 fun a S=>?_
     refine tvg S (S.at 0 rfl) (zad rfl (S.at 18 rfl) (S.bx 1 rfl) Tryz.underlying70 rfl (vs:=(lT b5 x5 y5 b6 x6 y6 b7 x7 y7 b8 x8 y8)) zau rfl) fun a S=>?_
     refine tvg S (S.at 1 rfl) (zad rfl (S.at 20 rfl) (S.bx 0 rfl) Tryz.underlying70 rfl (vs:=(lT b1 x1 y1 b2 x2 y2 b3 x3 y3 b4 x4 y4)) zau rfl) fun a S=>?_
     refine tcg S (S.at 2 rfl) (rc2 Tryz.func99 (S.at 1 rfl) (S.at 0 rfl)) (gtr (zfY (T.keep S.below) (show S1 K' (u3) (u4) _ _ from s1m (zbh S 0 hq5 hq6 hk9 hk10 hk11 hk12) (zbh S 4 hq7 hq8 hk13 hk14 hk15 hk16)) (show S1 K (u1) (u2) _ _ from s1m (zbh S 8 hq1 hq2 hk1 hk2 hk3 hk4) (zbh S 12 hq3 hq4 hk5 hk6 hk7 hk8))) hs4_) fun v a V12 hF hb S=>?_
     subst hF
     refine tvg S (S.at 3 rfl) (zbS (b:=true) rfl (S.at 0 rfl)) fun a S=>?_
     refine tv S (zaG true rfl (S.at 4 rfl) (S.at 0 rfl)) fun a S=>?_
     refine av S (zaj rfl (S.at 0 rfl)) fun a S=>?_
     refine hK2 _ _ ?_
     refine wp_ret ?_
     exact zaC rfl S (S.at 0 rfl) ⟨_,rfl,congrArg Value.bool (show _=zbA u1 u2 u3 u4 by unfold zbA;rw[hs1_,hs2_,hs3_,hs4_];simp),S.below⟩
    ·skip
     refine zaA ?_
     refine tv S (zad rfl (S.at 2 rfl) (S.bx 0 rfl) Tryz.underlying70 rfl (vs:=(lT b1 x1 y1 b2 x2 y2 b3 x3 y3 b4 x4 y4)) zau rfl) fun a S=>?_
     refine tv S (zad rfl (S.at 2 rfl) (S.bx 1 rfl) Tryz.underlying70 rfl (vs:=(lT b5 x5 y5 b6 x6 y6 b7 x7 y7 b8 x8 y8)) zau rfl) fun a S=>?_
     refine tc S (rc2 Tryz.func61 (S.at 1 rfl) (S.at 0 rfl)) (gtr (zeh (T.keep S.below) (show S1 K (u1) (u2) _ _ from s1m (zbh S 8 hq1 hq2 hk1 hk2 hk3 hk4) (zbh S 12 hq3 hq4 hk5 hk6 hk7 hk8)) (show S1 K' (u3) (u4) _ _ from s1m (zbh S 0 hq5 hq6 hk9 hk10 hk11 hk12) (zbh S 4 hq7 hq8 hk13 hk14 hk15 hk16))) hs1_) fun v a V13 hF hb S=>?_
     subst hF
     refine tv S (zbS (b:=false) rfl (S.at 0 rfl)) fun a S=>?_
     refine mv S 0 fun a S=>?_
     refine tvg S (S.at 0 rfl) (zad rfl (S.at 6 rfl) (S.bx 1 rfl) Tryz.underlying70 rfl (vs:=(lT b5 x5 y5 b6 x6 y6 b7 x7 y7 b8 x8 y8)) zau rfl) fun a S=>?_
     refine tvg S (S.at 1 rfl) (zad rfl (S.at 8 rfl) (S.bx 0 rfl) Tryz.underlying70 rfl (vs:=(lT b1 x1 y1 b2 x2 y2 b3 x3 y3 b4 x4 y4)) zau rfl) fun a S=>?_
     refine tcg S (S.at 2 rfl) (rc2 Tryz.func61 (S.at 1 rfl) (S.at 0 rfl)) (gtr (zeh (T.keep S.below) (show S1 K' (u3) (u4) _ _ from s1m (zbh S 0 hq5 hq6 hk9 hk10 hk11 hk12) (zbh S 4 hq7 hq8 hk13 hk14 hk15 hk16)) (show S1 K (u1) (u2) _ _ from s1m (zbh S 8 hq1 hq2 hk1 hk2 hk3 hk4) (zbh S 12 hq3 hq4 hk5 hk6 hk7 hk8))) hs2_) fun v a V14 hF hb S=>?_
     subst hF
     refine tvg S (S.at 3 rfl) (zbS (b:=false) rfl (S.at 0 rfl)) fun a S=>?_
     refine tv S (zaG true rfl (S.at 4 rfl) (S.at 0 rfl)) fun a S=>?_
     refine mv S 0 fun a S=>?_
     refine tvg S (S.at 0 rfl) (zad rfl (S.at 13 rfl) (S.bx 0 rfl) Tryz.underlying70 rfl (vs:=(lT b1 x1 y1 b2 x2 y2 b3 x3 y3 b4 x4 y4)) zau rfl) fun a S=>?_
     refine tvg S (S.at 1 rfl) (zad rfl (S.at 13 rfl) (S.bx 1 rfl) Tryz.underlying70 rfl (vs:=(lT b5 x5 y5 b6 x6 y6 b7 x7 y7 b8 x8 y8)) zau rfl) fun a S=>?_
     refine tcg S (S.at 2 rfl) (rc2 Tryz.func99 (S.at 1 rfl) (S.at 0 rfl)) (gtr (zfY (T.keep S.below) (show S1 K (u1) (u2) _ _ from s1m (zbh S 8 hq1 hq2 hk1 hk2 hk3 hk4) (zbh S 12 hq3 hq4 hk5 hk6 hk7 hk8)) (show S1 K' (u3) (u4) _ _ from s1m (zbh S 0 hq5 hq6 hk9 hk10 hk11 hk12) (zbh S 4 hq7 hq8 hk13 hk14 hk15 hk16))) hs3_) fun v a V15 hF hb S=>?_
     subst hF
     refine tvg S (S.at 3 rfl) (zbS (b:=false) rfl (S.at 0 rfl)) fun a S=>?_
     refine tv S (zaG true rfl (S.at 4 rfl) (S.at 0 rfl)) fun a S=>?_
     refine mv S 0 fun a S=>?_
     refine tvg S (S.at 0 rfl) (zad rfl (S.at 18 rfl) (S.bx 1 rfl) Tryz.underlying70 rfl (vs:=(lT b5 x5 y5 b6 x6 y6 b7 x7 y7 b8 x8 y8)) zau rfl) fun a S=>?_
     refine tvg S (S.at 1 rfl) (zad rfl (S.at 20 rfl) (S.bx 0 rfl) Tryz.underlying70 rfl (vs:=(lT b1 x1 y1 b2 x2 y2 b3 x3 y3 b4 x4 y4)) zau rfl) fun a S=>?_
     refine tcg S (S.at 2 rfl) (rc2 Tryz.func99 (S.at 1 rfl) (S.at 0 rfl)) (gtr (zfY (T.keep S.below) (show S1 K' (u3) (u4) _ _ from s1m (zbh S 0 hq5 hq6 hk9 hk10 hk11 hk12) (zbh S 4 hq7 hq8 hk13 hk14 hk15 hk16)) (show S1 K (u1) (u2) _ _ from s1m (zbh S 8 hq1 hq2 hk1 hk2 hk3 hk4) (zbh S 12 hq3 hq4 hk5 hk6 hk7 hk8))) hs4_) fun v a V16 hF hb S=>?_
     subst hF
     refine tvg S (S.at 3 rfl) (zbS (b:=false) rfl (S.at 0 rfl)) fun a S=>?_
     refine tv S (zaG true rfl (S.at 4 rfl) (S.at 0 rfl)) fun a S=>?_
     refine av S (zaj rfl (S.at 0 rfl)) fun a S=>?_
     refine hK2 _ _ ?_
     refine wp_ret ?_
     exact zaC rfl S (S.at 0 rfl) ⟨_,rfl,congrArg Value.bool (show _=zbA u1 u2 u3 u4 by unfold zbA;rw[hs1_,hs2_,hs3_,hs4_];simp),S.below⟩
theorem zkF {K:Nat}{q1 q1' q2 q2':Rat}{v1 v2:Value}{V:World}(T:TT V)(h1:P1 K (q1) (q1') v1 V)(h2:P1 K (q2) (q2') v2 V)(hK0:K<=400:=by omega):
  Calls Tryz.prog 95 #[v1,v2] V (zag V (MT (max K 1) (zbI (q1,q1') (q2,q2')))):=by
 obtain⟨b1,x1,y1,b2,x2,y2,rfl,hq1,hq2,⟨hk1,hk2⟩,⟨hk3,hk4⟩,⟨ok1,ok2⟩,ok3,ok4⟩:=h1
 obtain⟨b3,x3,y3,b4,x4,y4,rfl,hq3,hq4,⟨hk5,hk6⟩,⟨hk7,hk8⟩,⟨ok5,ok6⟩,ok7,ok8⟩:=h2
 have hp0:=fun {V':World}=>p1m (V:=V') hq1 hq2 hk1 hk2 hk3 hk4
 have hp1:=fun {V':World}=>p1m (V:=V') hq3 hq4 hk5 hk6 hk7 hk8
 have hN4:∀p∈([(b1,x1,y1,b2,x2,y2),(b3,x3,y3,b4,x4,y4)]:List PEl),zh7 K p:=by simp[zh7, *]
 have hNq:([(b1,x1,y1,b2,x2,y2),(b3,x3,y3,b4,x4,y4)]:List PEl).map pv=[(q1,q1'),(q2,q2')]:=by simp[pv,hq1,hq2,hq3,hq4]
 refine fb Tryz.func95 Tryz.ntmps95 (zaa ok5 (zaa ok6 (zaa ok7 (zaa ok8 (zaa ok1 (zaa ok2 (zaa ok3 (zaa ok4 zav)))))))) (fun a S=>?_)
 refine wsp fun K1 hK1=>?_
 refine tb S 0 (lP b1 x1 y1 b2 x2 y2) fun g1 a V1 hgg1 S=>?_
 refine tb S 2 (lP b3 x3 y3 b4 x4 y4) fun g2 a V2 hgg2 S=>?_
 refine ti S (cs:=[.int .i8 0,.bool false,.slice none 0 0,.slice none 0 0,.bool false,.slice none 0 0,.slice none 0 0,.bool false,.slice none 0 0,.slice none 0 0,.bool false,.slice none 0 0,.slice none 0 0]) (zam rfl (Tryz.zeroValue42 _) rfl) (fun g3=>[⟨g1,29,(lP b1 x1 y1 b2 x2 y2)⟩,⟨g2,29,(lP b3 x3 y3 b4 x4 y4)⟩,⟨g3,42,[.int .i8 0,.bool false,.slice none 0 0,.slice none 0 0,.bool false,.slice none 0 0,.slice none 0 0,.bool false,.slice none 0 0,.slice none 0 0,.bool false,.slice none 0 0,.slice none 0 0]⟩]) fun g3 a V3 hgg3 S=>?_
 refine hK1 _ _ ?_
 refine wsp fun K2 hK2=>?_
 refine lp S 2 0 fun a S=>?_
 refine lp S 2 1 fun a S=>?_
 refine ty S (F:=GP ([(b1,x1,y1,b2,x2,y2),(b3,x3,y3,b4,x4,y4)])) (zgj rfl (S.at 1 rfl) (S.at 0 rfl) (S.num 4 rfl) (S.num 5 rfl) (S.num 6 rfl) (S.num 7 rfl) (S.num 0 rfl) (S.num 1 rfl) (S.num 2 rfl) (S.num 3 rfl)) fun v a V4 hF hb S=>?_
 obtain⟨ov1,hov1⟩:∃z,z=v:=⟨_,rfl⟩
 rw[<-hov1]at hF S
 have rov1:=hF
 refine tc S (F:=TRow (max K 1) ([(q1,q1'),(q2,q2')])) (rc1 Tryz.func130 (S.at 0 rfl)) (zvN (T.keep S.below) (GP.row (qs:=[(q1,q1'),(q2,q2')]) rov1 hN4 (by simp) hNq) (by omega)) fun v a V5 hF hb S=>?_
 replace rov1:=rov1.keep hb
 obtain⟨ov2,hov2⟩:∃z,z=v:=⟨_,rfl⟩
 rw[<-hov2]at hF S
 have rov2:=hF
 refine tv S (zaj rfl (S.at 0 rfl)) fun a S=>?_
 refine hK2 _ _ ?_
 refine wp_seq_k fun K3 hK3=>?_
 have S:=S.keep [5,4,3,2] (ls':=[(5,ov2),(4,pT g3 0),(3,pT g2 0),(2,pT g1 0)]) rfl
 refine zaA ?_
 refine ac S fun a S=>?_
 refine hK3 _ _ ?_
 refine wp_seq_k fun K4 hK4=>?_
 refine wsp fun K5 hK5=>?_
 refine lp S 4 0 fun a S=>?_
 refine lp S 4 1 fun a S=>?_
 refine tc S (rc2 Tryz.func65 (S.at 1 rfl) (S.at 0 rfl)) (zvK (T.keep S.below) (p4 S 4 hp0) (p4 S 0 hp1) (by omega) (by omega)) fun v a V6 hF hb S=>?_
 replace rov2:=rov2.keep hb
 subst hF
 refine hK5 _ _ ?_
 rcases zwf (decide (za8 q1 (q1') q2 (q2')=0))with hc13|hc13
 ·refine wp_cond_true ((S.at 0 rfl).trans (congrArg Value.bool hc13)) ?_
  refine zaA ?_
  refine av S (zb5 rfl) fun a S=>?_
  refine hK4 _ _ ?_
  refine wp_seq_k fun K6 hK6=>?_
  obtain⟨W1,hW1⟩:∃W,W=V6:=⟨_,rfl⟩
  rw[<-hW1]at S ⊢
  have S0:=S
  rw[<-hW1]at rov2
  refine fr 8 [14,15,16,17,18,19,20,21] [IsV (.int .i8 1),IsV (ov2),ElP (max K 1) (q1) (q1'),PT (max K 1) (q1) (q1'),IsV (ov2),ElP (max K 1) (q2) (q2'),PT (max K 1) (q2) (q2'),MT (max K 1) (zbI (q1,q1') (q2,q2'))] S ?_ ?_
  ·refine sc (fun _ _ S _ _=>sv rfl (zan rfl (S.at 0 rfl))) ?_
   refine sc (fun _ _ S _ _=>sv rfl (zan rfl (S.at 4 rfl))) ?_
   refine sc (fun _ _ _ hB hd=>by
    obtain⟨A,n,c,hv,hA,hk,hq⟩:=ztg (rov2.keep hB) (i:=0) (by simp)
    exact sv rfl (zet (i:=0) hA hk rfl ((hd.v 1 rfl rfl).trans hv)) hq) ?_
   refine sc (fun _ _ _ _ hd=>by
    obtain⟨A,m,b,x,y,b',x',y',hv,-,E,hq⟩:=(hd.r 2 rfl rfl)
    exact sv rfl (zh6 E rfl hv) hq) ?_
   refine sc (fun _ _ S _ _=>sv rfl (zan rfl (S.at 4 rfl))) ?_
   refine sc (fun _ _ _ hB hd=>by
    obtain⟨A,n,c,hv,hA,hk,hq⟩:=ztg (rov2.keep hB) (i:=1) (by simp)
    exact sv rfl (zet (i:=1) hA hk rfl ((hd.v 4 rfl rfl).trans hv)) hq) ?_
   refine sc (fun _ _ _ _ hd=>by
    obtain⟨A,m,b,x,y,b',x',y',hv,-,E,hq⟩:=(hd.r 5 rfl rfl)
    exact sv rfl (zh6 E rfl hv) hq) ?_
   refine sc (fun _ _ _ _ hd=>by
    obtain⟨v,hv,hq⟩:=zm2 (m:=zbI (q1,q1') (q2,q2')) (zhD hc13).1 (zhD hc13).2.1 (zhD hc13).2.2.1 (zhD hc13).2.2.2.1 (zhD hc13).2.2.2.2 (hd.r 3 rfl rfl) (hd.r 6 rfl rfl)
    exact sv rfl (zd4 rfl (hd.v 0 rfl rfl) rfl rfl hv) hq) ?_
   exact sn
  ·intro a1 V7 S hB hf
   replace rov2:=rov2.keep hB
   obtain⟨b5,x5,y5,b6,x6,y6,b7,x7,y7,b8,x8,y8,hv1,⟨hq5,hq6,hk9,hk10,hk11,hk12,ok9,ok10,ok11,ok12⟩,⟨hq7,hq8,hk13,hk14,hk15,hk16,ok13,ok14,ok15,ok16⟩⟩:=hf.r 7 rfl rfl
   have S:=S.add hv1
   have S:=S.know ok9
   have S:=S.know ok10
   have S:=S.know ok11
   have S:=S.know ok12
   have S:=S.know ok13
   have S:=S.know ok14
   have S:=S.know ok15
   have S:=S.know ok16
   clear hf S0
   show wpList _ _ _ [_] _ _
   refine sto S 2 (fun ht=>zai rfl (S.at 6 rfl) (S.at 0 rfl) zaQ rfl (zv5 rfl) ht) fun V8 S=>?_
   refine hK6 _ _ ?_
   refine wp_ret ?_
   exact zas rfl S (S.at 6 rfl) (i:=2) rfl Tryz.underlying42 rfl zaQ ⟨_,rfl,⟨b5,x5,y5,b6,x6,y6,b7,x7,y7,b8,x8,y8,rfl,⟨hq5,hq6,hk9,hk10,hk11,hk12,(S.num 7 rfl),(S.num 6 rfl),(S.num 5 rfl),(S.num 4 rfl)⟩,⟨hq7,hq8,hk13,hk14,hk15,hk16,(S.num 3 rfl),(S.num 2 rfl),(S.num 1 rfl),(S.num 0 rfl)⟩⟩,S.below⟩
 ·refine wp_cond_false ((S.at 0 rfl).trans (congrArg Value.bool hc13)) ?_
  refine wp_skip ?_
  refine hK4 _ _ ?_
  refine wp_seq_k fun K7 hK7=>?_
  obtain⟨W2,hW2⟩:∃W,W=V6:=⟨_,rfl⟩
  rw[<-hW2]at S ⊢
  have S0:=S
  rw[<-hW2]at rov2
  refine fr 8 [14,15,16,17,18,19,20,21] [IsV (.int .i8 2),IsV (ov2),ElP (max K 1) (q1) (q1'),PT (max K 1) (q1) (q1'),IsV (ov2),ElP (max K 1) (q2) (q2'),PT (max K 1) (q2) (q2'),MT (max K 1) (zbI (q1,q1') (q2,q2'))] S ?_ ?_
  ·refine sc (fun _ _ S _ _=>sv rfl (zan rfl (S.at 3 rfl))) ?_
   refine sc (fun _ _ S _ _=>sv rfl (zan rfl (S.at 4 rfl))) ?_
   refine sc (fun _ _ _ hB hd=>by
    obtain⟨A,n,c,hv,hA,hk,hq⟩:=ztg (rov2.keep hB) (i:=0) (by simp)
    exact sv rfl (zet (i:=0) hA hk rfl ((hd.v 1 rfl rfl).trans hv)) hq) ?_
   refine sc (fun _ _ _ _ hd=>by
    obtain⟨A,m,b,x,y,b',x',y',hv,-,E,hq⟩:=(hd.r 2 rfl rfl)
    exact sv rfl (zh6 E rfl hv) hq) ?_
   refine sc (fun _ _ S _ _=>sv rfl (zan rfl (S.at 4 rfl))) ?_
   refine sc (fun _ _ _ hB hd=>by
    obtain⟨A,n,c,hv,hA,hk,hq⟩:=ztg (rov2.keep hB) (i:=1) (by simp)
    exact sv rfl (zet (i:=1) hA hk rfl ((hd.v 4 rfl rfl).trans hv)) hq) ?_
   refine sc (fun _ _ _ _ hd=>by
    obtain⟨A,m,b,x,y,b',x',y',hv,-,E,hq⟩:=(hd.r 5 rfl rfl)
    exact sv rfl (zh6 E rfl hv) hq) ?_
   refine sc (fun _ _ _ _ hd=>by
    obtain⟨v,hv,hq⟩:=zm2 (m:=zbI (q1,q1') (q2,q2')) (zhE hc13).1 (zhE hc13).2.1 (zhE hc13).2.2.1 (zhE hc13).2.2.2.1 (zhE hc13).2.2.2.2 (hd.r 3 rfl rfl) (hd.r 6 rfl rfl)
    exact sv rfl (zd4 rfl (hd.v 0 rfl rfl) rfl rfl hv) hq) ?_
   exact sn
  ·intro a2 V9 S hB hf
   replace rov2:=rov2.keep hB
   obtain⟨b9,x9,y9,b10,x10,y10,b11,x11,y11,b12,x12,y12,hv2,⟨hq9,hq10,hk17,hk18,hk19,hk20,ok17,ok18,ok19,ok20⟩,⟨hq11,hq12,hk21,hk22,hk23,hk24,ok21,ok22,ok23,ok24⟩⟩:=hf.r 7 rfl rfl
   have S:=S.add hv2
   have S:=S.know ok17
   have S:=S.know ok18
   have S:=S.know ok19
   have S:=S.know ok20
   have S:=S.know ok21
   have S:=S.know ok22
   have S:=S.know ok23
   have S:=S.know ok24
   clear hf S0
   show wpList _ _ _ [_] _ _
   refine sto S 2 (fun ht=>zai rfl (S.at 6 rfl) (S.at 0 rfl) zaQ rfl (zv5 rfl) ht) fun V10 S=>?_
   refine hK7 _ _ ?_
   refine wp_ret ?_
   exact zas rfl S (S.at 6 rfl) (i:=2) rfl Tryz.underlying42 rfl zaQ ⟨_,rfl,⟨b9,x9,y9,b10,x10,y10,b11,x11,y11,b12,x12,y12,rfl,⟨hq9,hq10,hk17,hk18,hk19,hk20,(S.num 7 rfl),(S.num 6 rfl),(S.num 5 rfl),(S.num 4 rfl)⟩,⟨hq11,hq12,hk21,hk22,hk23,hk24,(S.num 3 rfl),(S.num 2 rfl),(S.num 1 rfl),(S.num 0 rfl)⟩⟩,S.below⟩
theorem ztT {K:Nat}{q1 q1' q2 q2' q3 q3' q4 q4':Rat}{v1 v2 v3 v4:Value}{V:World}(T:TT V)(h1:P1 K (q1) (q1') v1 V)(h2:P1 K (q2) (q2') v2 V)(h3:P1 K (q3) (q3') v3 V)(h4:P1 K (q4) (q4') v4 V)(h1K:1<=K)(hK0:K<=10):
  Calls Tryz.prog 12 #[v1,v2,v3,v4] V (zag V (PB (19*K+12) (zc4 (q1,q1') (q2,q2') (q3,q3') (q4,q4')).1 (zc4 (q1,q1') (q2,q2') (q3,q3') (q4,q4')).2 (.bool (decide (den (q1,q1') (q2,q2') (q3,q3') (q4,q4')≠0))))):=by
 obtain⟨b1,x1,y1,b2,x2,y2,rfl,hq1,hq2,⟨hk1,hk2⟩,⟨hk3,hk4⟩,⟨ok1,ok2⟩,ok3,ok4⟩:=h1
 obtain⟨b3,x3,y3,b4,x4,y4,rfl,hq3,hq4,⟨hk5,hk6⟩,⟨hk7,hk8⟩,⟨ok5,ok6⟩,ok7,ok8⟩:=h2
 obtain⟨b5,x5,y5,b6,x6,y6,rfl,hq5,hq6,⟨hk9,hk10⟩,⟨hk11,hk12⟩,⟨ok9,ok10⟩,ok11,ok12⟩:=h3
 obtain⟨b7,x7,y7,b8,x8,y8,rfl,hq7,hq8,⟨hk13,hk14⟩,⟨hk15,hk16⟩,⟨ok13,ok14⟩,ok15,ok16⟩:=h4
 have hp0:=fun {V':World}=>p1m (V:=V') hq1 hq2 hk1 hk2 hk3 hk4
 have hp1:=fun {V':World}=>p1m (V:=V') hq3 hq4 hk5 hk6 hk7 hk8
 have hp2:=fun {V':World}=>p1m (V:=V') hq5 hq6 hk9 hk10 hk11 hk12
 have hp3:=fun {V':World}=>p1m (V:=V') hq7 hq8 hk13 hk14 hk15 hk16
 refine fb Tryz.func12 Tryz.ntmps12 (zaa ok13 (zaa ok14 (zaa ok15 (zaa ok16 (zaa ok9 (zaa ok10 (zaa ok11 (zaa ok12 (zaa ok5 (zaa ok6 (zaa ok7 (zaa ok8 (zaa ok1 (zaa ok2 (zaa ok3 (zaa ok4 zav)))))))))))))))) (fun a S=>?_)
 refine wsp fun K1 hK1=>?_
 refine tb S 0 (lP b1 x1 y1 b2 x2 y2) fun g1 a V1 hgg1 S=>?_
 refine tb S 2 (lP b3 x3 y3 b4 x4 y4) fun g2 a V2 hgg2 S=>?_
 refine tb S 4 (lP b5 x5 y5 b6 x6 y6) fun g3 a V3 hgg3 S=>?_
 refine tb S 6 (lP b7 x7 y7 b8 x8 y8) fun g4 a V4 hgg4 S=>?_
 refine ti S (cs:=lY) (zam rfl (Tryz.zeroValue29 _) rfl) (fun g5=>[⟨g1,29,(lP b1 x1 y1 b2 x2 y2)⟩,⟨g2,29,(lP b3 x3 y3 b4 x4 y4)⟩,⟨g3,29,(lP b5 x5 y5 b6 x6 y6)⟩,⟨g4,29,(lP b7 x7 y7 b8 x8 y8)⟩,⟨g5,29,lY⟩]) fun g5 a V5 hgg5 S=>?_
 refine ac S fun a S=>?_
 refine hK1 _ _ ?_
 refine wp_seq_k fun K2 hK2=>?_
 obtain⟨W1,hW1⟩:∃W,W=V5:=⟨_,rfl⟩
 rw[<-hW1]at S ⊢
 have S0:=S
 refine frs [(29,6)] [some 14,some 15,some 16,some 17,some 18,some 19,some 10,some 11,none,none] [IsV ((aP b3 x3 y3 b4 x4 y4)),IsV ((aP b1 x1 y1 b2 x2 y2)),PT ((max K 1)+(max K 1)+1) (q2 - q1) ((q2') - (q1')),IsV ((aP b7 x7 y7 b8 x8 y8)),IsV ((aP b5 x5 y5 b6 x6 y6)),PT ((max K 1)+(max K 1)+1) (q4 - q3) ((q4') - (q3')),zeV,zeV,zeV,zeV] [⟨6,10,29,lY⟩,⟨7,11,29,lY⟩] [⟨8,10,29,PT ((max K 1)+(max K 1)+1) (q2 - q1) ((q2') - (q1'))⟩,⟨9,11,29,PT ((max K 1)+(max K 1)+1) (q4 - q3) ((q4') - (q3'))⟩] [] (lb:=[⟨g1,29,(lP b1 x1 y1 b2 x2 y2)⟩,⟨g2,29,(lP b3 x3 y3 b4 x4 y4)⟩,⟨g3,29,(lP b5 x5 y5 b6 x6 y6)⟩,⟨g4,29,(lP b7 x7 y7 b8 x8 y8)⟩,⟨g5,29,lY⟩]) S (all_cons (zfF 0 rfl rfl) (all_cons (zfF 1 rfl rfl) zaH)) ?_ (all_cons ⟨rfl,_,rfl,rfl,rfl,fun _ _ _=>(zam rfl (Tryz.zeroValue29 _) rfl)⟩ (all_cons ⟨rfl,_,rfl,rfl,rfl,fun _ _ _=>(zam rfl (Tryz.zeroValue29 _) rfl)⟩ zaH)) (all_cons ⟨_,6,rfl,rfl,rfl,List.mem_of_getElem? (i:=0) rfl,(all_cons (fun h=>⟨rfl,rfl⟩) (all_cons (fun h=>by cases h) zaH)),zaH,fun _ _ _ _ hg hd=>zeR (hd.r 2 rfl rfl) (hd.r 2 rfl rfl).parts rfl hg rfl zbb⟩ (all_cons ⟨_,6,rfl,rfl,rfl,List.mem_of_getElem? (i:=0) rfl,(all_cons (fun h=>by cases h) (all_cons (fun h=>⟨rfl,rfl⟩) zaH)),zaH,fun _ _ _ _ hg hd=>zeR (hd.r 5 rfl rfl) (hd.r 5 rfl rfl).parts rfl hg rfl zbb⟩ zaH)) zaH ?_
 ·refine va (fun _ _ S _ _ _=>sv rfl (za5 rfl (S.at 4 rfl) (S.bx 1 rfl) rfl)) ?_
  refine va (fun _ _ S _ _ _=>sv rfl (za5 rfl (S.at 5 rfl) (S.bx 0 rfl) rfl)) ?_
  refine va (fun _ _ S _ hd _=>sl rfl (rc2 Tryz.func45 (hd.v 0 rfl rfl) (hd.v 1 rfl rfl)) (zrQ (T.keep S.below) (p4 S 8 hp1) (p4 S 12 hp0))) ?_
  refine va (fun _ _ S _ _ _=>sv rfl (za5 rfl (S.at 2 rfl) (S.bx 3 rfl) rfl)) ?_
  refine va (fun _ _ S _ _ _=>sv rfl (za5 rfl (S.at 3 rfl) (S.bx 2 rfl) rfl)) ?_
  refine va (fun _ _ S _ hd _=>sl rfl (rc2 Tryz.func45 (hd.v 3 rfl rfl) (hd.v 4 rfl rfl)) (zrQ (T.keep S.below) (p4 S 0 hp3) (p4 S 4 hp2))) ?_
  refine vb ?_
  refine vb ?_
  refine vs ?_
  refine vs ?_
  exact vn
 ·intro a1 V6 S hB hf hl hdis hs hp
  obtain⟨g6,csg6,hvg6,hgg6,hbg6,hlg6,hng6,hkg6⟩:=hl _ (List.mem_of_getElem? (i:=0) rfl)
  obtain⟨g7,csg7,hvg7,hgg7,hbg7,hlg7,hng7,hkg7⟩:=hl _ (List.mem_of_getElem? (i:=1) rfl)
  have hne_g6_g7:g6≠g7:=fun h=>hdis _ (List.mem_of_getElem? (i:=0) rfl) _ (List.mem_of_getElem? (i:=1) rfl) (by decide) (hvg6.trans (h▸hvg7.symm))
  obtain⟨gs1,vsgs1,hvgs1,-,hbgs1,hngs1,hPgs1⟩:=hs _ (List.mem_of_getElem? (i:=0) rfl)
  have hegs1:=zdK ((hvg6).symm.trans hvgs1)
  subst hegs1
  obtain⟨b9,x9,y9,b10,x10,y10,hv1,hq9,hq10,⟨hk17,hk18⟩,⟨hk19,hk20⟩,⟨ok17,ok18⟩,ok19,ok20⟩:=(show PT ((max K 1)+(max K 1)+1) (q2 - q1) ((q2') - (q1')) (.agg vsgs1.toArray) V6 from hPgs1)
  have hvsgs1:=zdL (ws:=(lP b9 x9 y9 b10 x10 y10)) hv1
  subst hvsgs1
  have S:=S.know ok17
  have S:=S.know ok18
  have S:=S.know ok19
  have S:=S.know ok20
  obtain⟨gs2,vsgs2,hvgs2,-,hbgs2,hngs2,hPgs2⟩:=hs _ (List.mem_of_getElem? (i:=1) rfl)
  have hegs2:=zdK ((hvg7).symm.trans hvgs2)
  subst hegs2
  obtain⟨b11,x11,y11,b12,x12,y12,hv2,hq11,hq12,⟨hk21,hk22⟩,⟨hk23,hk24⟩,⟨ok21,ok22⟩,ok23,ok24⟩:=(show PT ((max K 1)+(max K 1)+1) (q4 - q3) ((q4') - (q3')) (.agg vsgs2.toArray) V6 from hPgs2)
  have hvsgs2:=zdL (ws:=(lP b11 x11 y11 b12 x12 y12)) hv2
  subst hvsgs2
  have S:=S.know ok21
  have S:=S.know ok22
  have S:=S.know ok23
  have S:=S.know ok24
  have S:=Frm.readd (S.add hvg6) (zv8 S0.below.size hgg6) hbgs1 rfl (zaU (zax (S0.lt 0 rfl) hgg6) (zaU (zax (S0.lt 1 rfl) hgg6) (zaU (zax (S0.lt 2 rfl) hgg6) (zaU (zax (S0.lt 3 rfl) hgg6) (zaU (zax (S0.lt 4 rfl) hgg6) zeQ)))))
  have S:=Frm.readd (S.add hvg7) (zv8 S0.below.size hgg7) hbgs2 rfl (zaU (zax (S0.lt 0 rfl) hgg7) (zaU (zax (S0.lt 1 rfl) hgg7) (zaU (zax (S0.lt 2 rfl) hgg7) (zaU (zax (S0.lt 3 rfl) hgg7) (zaU (zax (S0.lt 4 rfl) hgg7) (zaU hne_g6_g7 zeQ))))))
  have S:Frm 40 [(11,pT g7 0),(10,pT g6 0),(9,.bool false),(8,pT g5 0),(7,pT g4 0),(6,pT g3 0),(5,pT g2 0),(4,pT g1 0),(0,(aP b1 x1 y1 b2 x2 y2)),(1,(aP b3 x3 y3 b4 x4 y4)),(2,(aP b5 x5 y5 b6 x6 y6)),(3,(aP b7 x7 y7 b8 x8 y8))] [⟨g1,29,(lP b1 x1 y1 b2 x2 y2)⟩,⟨g2,29,(lP b3 x3 y3 b4 x4 y4)⟩,⟨g3,29,(lP b5 x5 y5 b6 x6 y6)⟩,⟨g4,29,(lP b7 x7 y7 b8 x8 y8)⟩,⟨g5,29,lY⟩,⟨g6,29,(lP b9 x9 y9 b10 x10 y10)⟩,⟨g7,29,(lP b11 x11 y11 b12 x12 y12)⟩] V _ _ _:=S
  clear hf hl hdis hs hp S0
  refine hK2 _ _ ?_
  refine wp_seq_k fun K3 hK3=>?_
  obtain⟨W2,hW2⟩:∃W,W=V6:=⟨_,rfl⟩
  rw[<-hW2]at S ⊢
  have S0:=S
  refine frs [(27,3)] [some 21,some 22,some 23,some 24,some 25,some 26,some 27,some 28,some 29,some 20,some 30,some 31,some 12,none,some 13] [IsV ((aP b5 x5 y5 b6 x6 y6)),IsV ((aP b1 x1 y1 b2 x2 y2)),PT ((max K 1)+(max K 1)+1) (q3 - q1) ((q3') - (q1')),IsV ((aP b11 x11 y11 b12 x12 y12)),QT (2*((max ((max K 1)+(max K 1)+1) 1)+(max ((max K 1)+(max K 1)+1) 1))+1) ((q3 - q1)*((q4') - (q3')) - ((q3') - (q1'))*(q4 - q3)),IsV ((aP b9 x9 y9 b10 x10 y10)),IsV ((aP b11 x11 y11 b12 x12 y12)),QT (2*((max ((max K 1)+(max K 1)+1) 1)+(max ((max K 1)+(max K 1)+1) 1))+1) ((q2 - q1)*((q4') - (q3')) - ((q2') - (q1'))*(q4 - q3)),QE ((max (2*((max ((max K 1)+(max K 1)+1) 1)+(max ((max K 1)+(max K 1)+1) 1))+1) 1)+(max (2*((max ((max K 1)+(max K 1)+1) 1)+(max ((max K 1)+(max K 1)+1) 1))+1) 1)) (((q3 - q1)*((q4') - (q3')) - ((q3') - (q1'))*(q4 - q3))/((q2 - q1)*((q4') - (q3')) - ((q2') - (q1'))*(q4 - q3))) (erq ((q2 - q1)*((q4') - (q3')) - ((q2') - (q1'))*(q4 - q3))),QE ((max (2*((max ((max K 1)+(max K 1)+1) 1)+(max ((max K 1)+(max K 1)+1) 1))+1) 1)+(max (2*((max ((max K 1)+(max K 1)+1) 1)+(max ((max K 1)+(max K 1)+1) 1))+1) 1)) (((q3 - q1)*((q4') - (q3')) - ((q3') - (q1'))*(q4 - q3))/((q2 - q1)*((q4') - (q3')) - ((q2') - (q1'))*(q4 - q3))) (erq ((q2 - q1)*((q4') - (q3')) - ((q2') - (q1'))*(q4 - q3))),QT ((max (2*((max ((max K 1)+(max K 1)+1) 1)+(max ((max K 1)+(max K 1)+1) 1))+1) 1)+(max (2*((max ((max K 1)+(max K 1)+1) 1)+(max ((max K 1)+(max K 1)+1) 1))+1) 1)) (((q3 - q1)*((q4') - (q3')) - ((q3') - (q1'))*(q4 - q3))/((q2 - q1)*((q4') - (q3')) - ((q2') - (q1'))*(q4 - q3))),iI ((erq ((q2 - q1)*((q4') - (q3')) - ((q2') - (q1'))*(q4 - q3)))),zeV,zeV,iI ((erq ((q2 - q1)*((q4') - (q3')) - ((q2') - (q1'))*(q4 - q3))))] [⟨12,12,27,lZ⟩] [⟨13,12,27,QT ((max (2*((max ((max K 1)+(max K 1)+1) 1)+(max ((max K 1)+(max K 1)+1) 1))+1) 1)+(max (2*((max ((max K 1)+(max K 1)+1) 1)+(max ((max K 1)+(max K 1)+1) 1))+1) 1)) (((q3 - q1)*((q4') - (q3')) - ((q3') - (q1'))*(q4 - q3))/((q2 - q1)*((q4') - (q3')) - ((q2') - (q1'))*(q4 - q3)))⟩] [] (lb:=[⟨g1,29,(lP b1 x1 y1 b2 x2 y2)⟩,⟨g2,29,(lP b3 x3 y3 b4 x4 y4)⟩,⟨g3,29,(lP b5 x5 y5 b6 x6 y6)⟩,⟨g4,29,(lP b7 x7 y7 b8 x8 y8)⟩,⟨g5,29,lY⟩,⟨g6,29,(lP b9 x9 y9 b10 x10 y10)⟩,⟨g7,29,(lP b11 x11 y11 b12 x12 y12)⟩]) S (all_cons (zfF 0 rfl rfl) zaH) ?_ (all_cons ⟨rfl,_,rfl,rfl,rfl,fun _ _ _=>(zam rfl (Tryz.zeroValue27 _) rfl)⟩ zaH) (all_cons ⟨_,3,rfl,rfl,rfl,List.mem_of_getElem? (i:=0) rfl,(all_cons (fun h=>⟨rfl,rfl⟩) zaH),zaH,fun _ _ _ _ hg hd=>zeR (hd.r 10 rfl rfl) (hd.r 10 rfl rfl).parts rfl hg rfl zak⟩ zaH) zaH ?_
  ·refine va (fun _ _ S _ _ _=>sv rfl (za5 rfl (S.at 5 rfl) (S.bx 2 rfl) rfl)) ?_
   refine va (fun _ _ S _ _ _=>sv rfl (za5 rfl (S.at 7 rfl) (S.bx 0 rfl) rfl)) ?_
   refine va (fun _ _ S _ hd _=>sl rfl (rc2 Tryz.func45 (hd.v 0 rfl rfl) (hd.v 1 rfl rfl)) (zrQ (T.keep S.below) (p4 S 12 hp2) (p4 S 20 hp0))) ?_
   refine va (fun _ _ S _ _ _=>sv rfl (za5 rfl (S.at 0 rfl) (S.bx 6 rfl) rfl)) ?_
   refine va (fun _ _ S _ hd _=>sl rfl (rc2 Tryz.func46 rfl (hd.v 3 rfl rfl)) (zj4 (T.keep S.below) ((hd.r 2 rfl rfl)).any (zcz S 0 hq11 hq12 hk21 hk22 hk23 hk24).any (by omega) (by omega))) ?_
   refine va (fun _ _ S _ _ _=>sv rfl (za5 rfl (S.at 1 rfl) (S.bx 5 rfl) rfl)) ?_
   refine va (fun _ _ S _ _ _=>sv rfl (za5 rfl (S.at 0 rfl) (S.bx 6 rfl) rfl)) ?_
   refine va (fun _ _ S _ hd _=>sl rfl (rc2 Tryz.func46 (hd.v 5 rfl rfl) (hd.v 6 rfl rfl)) (zj4 (T.keep S.below) (zcz S 4 hq9 hq10 hk17 hk18 hk19 hk20).any (zcz S 0 hq11 hq12 hk21 hk22 hk23 hk24).any (by omega) (by omega))) ?_
   refine va (fun _ _ S _ hd _=>sl rfl (rc2 Tryz.func36 rfl rfl) (ztu (T.keep S.below) ((hd.r 4 rfl rfl)).any ((hd.r 7 rfl rfl)).any)) ?_
   refine va (fun _ _ _ _ hd _=>sv rfl (zan rfl rfl) (hd.r 8 rfl rfl)) ?_
   refine va (fun _ _ _ _ hd _=>by
    obtain⟨b,x,y,hv,hq,k1,k2,o1,o2⟩:=(hd.r 9 rfl rfl)
    exact sv rfl (zaL rfl hv rfl) ⟨b,x,y,rfl,hq,k1,k2,o1,o2⟩) ?_
   refine va (fun _ _ _ _ hd _=>by
    obtain⟨b,x,y,hv,hq,k1,k2,o1,o2⟩:=(hd.r 9 rfl rfl)
    exact sv rfl (zaL rfl hv rfl)) ?_
   refine vb ?_
   refine vs ?_
   refine va (fun _ _ _ _ hd _=>sv rfl (zaj rfl (hd.v 11 rfl rfl))) ?_
   exact vn
  ·intro a2 V7 S hB hf hl hdis hs hp
   obtain⟨g8,csg8,hvg8,hgg8,hbg8,hlg8,hng8,hkg8⟩:=hl _ (List.mem_of_getElem? (i:=0) rfl)
   obtain⟨gs3,vsgs3,hvgs3,-,hbgs3,hngs3,hPgs3⟩:=hs _ (List.mem_of_getElem? (i:=0) rfl)
   have hegs3:=zdK ((hvg8).symm.trans hvgs3)
   subst hegs3
   obtain⟨b13,x13,y13,hv3,hq13,hk25,hk26,ok25,ok26⟩:=(show QT ((max (2*((max ((max K 1)+(max K 1)+1) 1)+(max ((max K 1)+(max K 1)+1) 1))+1) 1)+(max (2*((max ((max K 1)+(max K 1)+1) 1)+(max ((max K 1)+(max K 1)+1) 1))+1) 1)) (((q3 - q1)*((q4') - (q3')) - ((q3') - (q1'))*(q4 - q3))/((q2 - q1)*((q4') - (q3')) - ((q2') - (q1'))*(q4 - q3))) (.agg vsgs3.toArray) V7 from hPgs3)
   have hvsgs3:=zdL (ws:=(aL b13 x13 y13)) hv3
   subst hvsgs3
   have S:=S.know ok25
   have S:=S.know ok26
   have S:=Frm.readd (S.add hvg8) (zv8 S0.below.size hgg8) hbgs3 rfl (zaU (zax (S0.lt 0 rfl) hgg8) (zaU (zax (S0.lt 1 rfl) hgg8) (zaU (zax (S0.lt 2 rfl) hgg8) (zaU (zax (S0.lt 3 rfl) hgg8) (zaU (zax (S0.lt 4 rfl) hgg8) (zaU (zax (S0.lt 5 rfl) hgg8) (zaU (zax (S0.lt 6 rfl) hgg8) zeQ)))))))
   have S:=S.add (hf.v 14 rfl rfl)
   have S:Frm 40 [(13,.int .i64 (erq ((q2 - q1)*((q4') - (q3')) - ((q2') - (q1'))*(q4 - q3)))),(12,pT g8 0),(11,pT g7 0),(10,pT g6 0),(9,.bool false),(8,pT g5 0),(7,pT g4 0),(6,pT g3 0),(5,pT g2 0),(4,pT g1 0),(0,(aP b1 x1 y1 b2 x2 y2)),(1,(aP b3 x3 y3 b4 x4 y4)),(2,(aP b5 x5 y5 b6 x6 y6)),(3,(aP b7 x7 y7 b8 x8 y8))] [⟨g1,29,(lP b1 x1 y1 b2 x2 y2)⟩,⟨g2,29,(lP b3 x3 y3 b4 x4 y4)⟩,⟨g3,29,(lP b5 x5 y5 b6 x6 y6)⟩,⟨g4,29,(lP b7 x7 y7 b8 x8 y8)⟩,⟨g5,29,lY⟩,⟨g6,29,(lP b9 x9 y9 b10 x10 y10)⟩,⟨g7,29,(lP b11 x11 y11 b12 x12 y12)⟩,⟨g8,27,(aL b13 x13 y13)⟩] V _ _ _:=S
   clear hf hl hdis hs hp S0
   refine hK3 _ _ ?_
   refine wp_seq_k fun K4 hK4=>?_
   refine wsp fun K5 hK5=>?_
   refine mv S 0 fun a S=>?_
   refine tv S (zgC _ (by decide) rfl (S.at 0 rfl) rfl) fun a S=>?_
   refine hK5 _ _ ?_
   rcases zwf (!decide (erq ((q2 - q1)*((q4') - (q3')) - ((q2') - (q1'))*(q4 - q3))=0))with hc33|hc33
   ·refine wp_cond_true ((S.at 0 rfl).trans (congrArg Value.bool hc33)) ?_
    refine wp_seq_k fun K6 hK6=>?_
    have S:=S.keep [9,8] (ls':=[(9,.bool false),(8,pT g5 0)]) rfl
    refine zaA ?_
    refine tc S (F:=PT 2 (((0:Int):Rat)) (((0:Int):Rat))) (zcZ Tryz.func47) (vOf (n:=0) (m:=0) (by decide)) fun v a V8 hF hb S=>?_
    obtain⟨b14,x14,y14,b15,x15,y15,rfl,hq14,hq15,⟨hk27,hk28⟩,⟨hk29,hk30⟩,⟨ok27,ok28⟩,ok29,ok30⟩:=hF
    have S:=S.know ok27
    have S:=S.know ok28
    have S:=S.know ok29
    have S:=S.know ok30
    refine sto S 4 (fun ht=>zai rfl (S.at 2 rfl) (S.at 0 rfl) zbb rfl (zv5 rfl) ht) fun V9 S=>?_
    refine av S (zb5 rfl) fun a S=>?_
    refine hK6 _ _ ?_
    refine wp_ret ?_
    exact zdp rfl S (S.at 2 rfl) (i:=4) rfl Tryz.underlying29 rfl zbb (S.at 0 rfl) ⟨_,rfl,⟨b14,x14,y14,b15,x15,y15,congrArg (fun u=>Value.tuple #[(aP b14 x14 y14 b15 x15 y15),.bool u]) (zjp hc33).2,PtTo.to (q:=((0:Int):Rat)) (q':=((0:Int):Rat)) (V:=V9) ⟨hq14,hq15,hk27,hk28,hk29,hk30,(S.num 3 rfl),(S.num 2 rfl),(S.num 1 rfl),(S.num 0 rfl)⟩ (congrArg Prod.fst (zjp hc33).1) (congrArg Prod.snd (zjp hc33).1) (by omega)⟩,S.below⟩
   ·refine wp_cond_false ((S.at 0 rfl).trans (congrArg Value.bool hc33)) ?_
    refine wp_skip ?_
    refine hK4 _ _ ?_
    refine wp_seq_k fun K7 hK7=>?_
    have S:=S.keep [12,10,9,8,4] (ls':=[(12,pT g8 0),(10,pT g6 0),(9,.bool false),(8,pT g5 0),(4,pT g1 0)]) rfl
    obtain⟨W3,hW3⟩:∃W,W=V7:=⟨_,rfl⟩
    rw[<-hW3]at S ⊢
    have S0:=S
    refine fr 5 [35,36,37,38,39] [IsV ((aP b1 x1 y1 b2 x2 y2)),IsV ((aP b9 x9 y9 b10 x10 y10)),IsV ((aG b13 x13 y13)),PT ((max ((max K 1)+(max K 1)+1) 1)+(max ((max (2*((max ((max K 1)+(max K 1)+1) 1)+(max ((max K 1)+(max K 1)+1) 1))+1) 1)+(max (2*((max ((max K 1)+(max K 1)+1) 1)+(max ((max K 1)+(max K 1)+1) 1))+1) 1)) 1)) ((q2 - q1)*(((q3 - q1)*((q4') - (q3')) - ((q3') - (q1'))*(q4 - q3))/((q2 - q1)*((q4') - (q3')) - ((q2') - (q1'))*(q4 - q3)))) (((q2') - (q1'))*(((q3 - q1)*((q4') - (q3')) - ((q3') - (q1'))*(q4 - q3))/((q2 - q1)*((q4') - (q3')) - ((q2') - (q1'))*(q4 - q3)))),PT ((max K 1)+(max ((max ((max K 1)+(max K 1)+1) 1)+(max ((max (2*((max ((max K 1)+(max K 1)+1) 1)+(max ((max K 1)+(max K 1)+1) 1))+1) 1)+(max (2*((max ((max K 1)+(max K 1)+1) 1)+(max ((max K 1)+(max K 1)+1) 1))+1) 1)) 1)) 1)+1) (q1+((q2 - q1)*(((q3 - q1)*((q4') - (q3')) - ((q3') - (q1'))*(q4 - q3))/((q2 - q1)*((q4') - (q3')) - ((q2') - (q1'))*(q4 - q3))))) ((q1')+(((q2') - (q1'))*(((q3 - q1)*((q4') - (q3')) - ((q3') - (q1'))*(q4 - q3))/((q2 - q1)*((q4') - (q3')) - ((q2') - (q1'))*(q4 - q3)))))] S ?_ ?_
    ·refine sc (fun _ _ S _ _=>sv rfl (za5 rfl (S.at 4 rfl) (S.bx 0 rfl) rfl)) ?_
     refine sc (fun _ _ S _ _=>sv rfl (za5 rfl (S.at 1 rfl) (S.bx 5 rfl) rfl)) ?_
     refine sc (fun _ _ S _ _=>sv rfl (zca rfl (S.at 0 rfl) (S.bx 7 rfl) rfl)) ?_
     refine sc (fun _ _ S _ hd=>sl rfl (rc2 Tryz.func49 (hd.v 1 rfl rfl) (hd.v 2 rfl rfl)) (zta (T.keep S.below) (zcz S 6 hq9 hq10 hk17 hk18 hk19 hk20).any (show QT ((max (2*((max ((max K 1)+(max K 1)+1) 1)+(max ((max K 1)+(max K 1)+1) 1))+1) 1)+(max (2*((max ((max K 1)+(max K 1)+1) 1)+(max ((max K 1)+(max K 1)+1) 1))+1) 1)) (((q3 - q1)*((q4') - (q3')) - ((q3') - (q1'))*(q4 - q3))/((q2 - q1)*((q4') - (q3')) - ((q2') - (q1'))*(q4 - q3))) ((aG b13 x13 y13)) _ from⟨b13,x13,y13,rfl,hq13,hk25,hk26,(S.num 1 rfl),(S.num 0 rfl)⟩).any (by omega) (by omega))) ?_
     refine sc (fun _ _ S _ hd=>sl rfl (rc2 Tryz.func48 (hd.v 0 rfl rfl) rfl) (zvJ (T.keep S.below) (p4 S 22 hp0) ((hd.r 3 rfl rfl)).any (by omega) (by omega))) ?_
     exact sn
    ·intro a3 V10 S hB hf
     obtain⟨b16,x16,y16,b17,x17,y17,hv4,hq16,hq17,⟨hk31,hk32⟩,⟨hk33,hk34⟩,⟨ok31,ok32⟩,ok33,ok34⟩:=hf.r 4 rfl rfl
     have S:=S.add hv4
     have S:=S.know ok31
     have S:=S.know ok32
     have S:=S.know ok33
     have S:=S.know ok34
     clear hf S0
     show wpList _ _ _ [_,_] _ _
     refine sto S 4 (fun ht=>zai rfl (S.at 4 rfl) (S.at 0 rfl) zbb rfl (zv5 rfl) ht) fun V11 S=>?_
     refine av S (zb5 rfl) fun a S=>?_
     refine hK7 _ _ ?_
     refine wp_ret ?_
     exact zdp rfl S (S.at 4 rfl) (i:=4) rfl Tryz.underlying29 rfl zbb (S.at 0 rfl) ⟨_,rfl,⟨b16,x16,y16,b17,x17,y17,congrArg (fun u=>Value.tuple #[(aP b16 x16 y16 b17 x17 y17),.bool u]) (zjq hc33).2,PtTo.to (q:=q1+((q2 - q1)*(((q3 - q1)*((q4') - (q3')) - ((q3') - (q1'))*(q4 - q3))/((q2 - q1)*((q4') - (q3')) - ((q2') - (q1'))*(q4 - q3))))) (q':=(q1')+(((q2') - (q1'))*(((q3 - q1)*((q4') - (q3')) - ((q3') - (q1'))*(q4 - q3))/((q2 - q1)*((q4') - (q3')) - ((q2') - (q1'))*(q4 - q3))))) (V:=V11) ⟨hq16,hq17,hk31,hk32,hk33,hk34,(S.num 3 rfl),(S.num 2 rfl),(S.num 1 rfl),(S.num 0 rfl)⟩ (congrArg Prod.fst (zjq hc33).1) (congrArg Prod.snd (zjq hc33).1) (by omega)⟩,S.below⟩
theorem zp1 {K:Nat}{u1 u2 u3 u4:QQ}{v1 v2:Value}{V:World}(T:TT V)(h1:S1 K (u1) (u2) v1 V)(h2:S1 K (u3) (u4) v2 V)(h1K:1<=K)(hK0:K<=10):
  Calls Tryz.prog 54 #[v1,v2] V (zag V (MT (19*K+12) (zcI u1 u2 u3 u4))):=by
 obtain⟨b1,x1,y1,b2,x2,y2,b3,x3,y3,b4,x4,y4,rfl,⟨hq1,hq2,hk1,hk2,hk3,hk4,ok1,ok2,ok3,ok4⟩,⟨hq3,hq4,hk5,hk6,hk7,hk8,ok5,ok6,ok7,ok8⟩⟩:=h1
 obtain⟨b5,x5,y5,b6,x6,y6,b7,x7,y7,b8,x8,y8,rfl,⟨hq5,hq6,hk9,hk10,hk11,hk12,ok9,ok10,ok11,ok12⟩,⟨hq7,hq8,hk13,hk14,hk15,hk16,ok13,ok14,ok15,ok16⟩⟩:=h2
 refine fb Tryz.func54 Tryz.ntmps54 (zaa ok9 (zaa ok10 (zaa ok11 (zaa ok12 (zaa ok13 (zaa ok14 (zaa ok15 (zaa ok16 (zaa ok1 (zaa ok2 (zaa ok3 (zaa ok4 (zaa ok5 (zaa ok6 (zaa ok7 (zaa ok8 zav)))))))))))))))) (fun a S=>?_)
 refine wsp fun K1 hK1=>?_
 refine tb S 0 (lT b1 x1 y1 b2 x2 y2 b3 x3 y3 b4 x4 y4) fun g1 a V1 hgg1 S=>?_
 refine tb S 2 (lT b5 x5 y5 b6 x6 y6 b7 x7 y7 b8 x8 y8) fun g2 a V2 hgg2 S=>?_
 refine ti S (cs:=[.int .i8 0,.bool false,.slice none 0 0,.slice none 0 0,.bool false,.slice none 0 0,.slice none 0 0,.bool false,.slice none 0 0,.slice none 0 0,.bool false,.slice none 0 0,.slice none 0 0]) (zam rfl (Tryz.zeroValue42 _) rfl) (fun g3=>[⟨g1,70,(lT b1 x1 y1 b2 x2 y2 b3 x3 y3 b4 x4 y4)⟩,⟨g2,70,(lT b5 x5 y5 b6 x6 y6 b7 x7 y7 b8 x8 y8)⟩,⟨g3,42,[.int .i8 0,.bool false,.slice none 0 0,.slice none 0 0,.bool false,.slice none 0 0,.slice none 0 0,.bool false,.slice none 0 0,.slice none 0 0,.bool false,.slice none 0 0,.slice none 0 0]⟩]) fun g3 a V3 hgg3 S=>?_
 refine hK1 _ _ ?_
 refine wp_seq_k fun K2 hK2=>?_
 refine wsp fun K3 hK3=>?_
 refine tv S (zad rfl (S.at 2 rfl) (S.bx 0 rfl) Tryz.underlying70 rfl (vs:=(lT b1 x1 y1 b2 x2 y2 b3 x3 y3 b4 x4 y4)) zau rfl) fun a S=>?_
 refine tv S (zad rfl (S.at 2 rfl) (S.bx 1 rfl) Tryz.underlying70 rfl (vs:=(lT b5 x5 y5 b6 x6 y6 b7 x7 y7 b8 x8 y8)) zau rfl) fun a S=>?_
 refine tc S (rc2 Tryz.func57 (S.at 1 rfl) (S.at 0 rfl)) (zp0 (T.keep S.below) (show S1 K (u1) (u2) _ _ from s1m (zbh S 8 hq1 hq2 hk1 hk2 hk3 hk4) (zbh S 12 hq3 hq4 hk5 hk6 hk7 hk8)) (show S1 K (u3) (u4) _ _ from s1m (zbh S 0 hq5 hq6 hk9 hk10 hk11 hk12) (zbh S 4 hq7 hq8 hk13 hk14 hk15 hk16))) fun v a V4 hF hb S=>?_
 subst hF
 refine tv S (zbS rfl (S.at 0 rfl)) fun a S=>?_
 refine hK3 _ _ ?_
 rcases zwf (!(zbA u1 u2 u3 u4))with hc10|hc10
 ·refine wp_cond_true ((S.at 0 rfl).trans (congrArg Value.bool hc10)) ?_
  refine wsp fun K4 hK4=>?_
  refine tc S (F:=PT 2 (((0:Int):Rat)) (((0:Int):Rat))) (zcZ Tryz.func47) (vOf (n:=0) (m:=0) (by decide)) fun v a V5 hF hb S=>?_
  obtain⟨b9,x9,y9,b10,x10,y10,rfl,hq9,hq10,⟨hk17,hk18⟩,⟨hk19,hk20⟩,⟨ok17,ok18⟩,ok19,ok20⟩:=hF
  have S:=S.know ok17
  have S:=S.know ok18
  have S:=S.know ok19
  have S:=S.know ok20
  refine tc S (F:=PT 2 (((0:Int):Rat)) (((0:Int):Rat))) (zcZ Tryz.func47) (vOf (n:=0) (m:=0) (by decide)) fun v a V6 hF hb S=>?_
  obtain⟨b11,x11,y11,b12,x12,y12,rfl,hq11,hq12,⟨hk21,hk22⟩,⟨hk23,hk24⟩,⟨ok21,ok22⟩,ok23,ok24⟩:=hF
  have S:=S.know ok21
  have S:=S.know ok22
  have S:=S.know ok23
  have S:=S.know ok24
  refine tv S (zuU (p:=(b9,x9,y9,b10,x10,y10)) (s:=(b11,x11,y11,b12,x12,y12)) rfl rfl (S.at 1 rfl) (S.at 0 rfl)) fun a S=>?_
  refine sto S 2 (fun ht=>zai rfl (S.at 7 rfl) (S.at 0 rfl) zaQ rfl (zv5 rfl) ht) fun V7 S=>?_
  refine hK4 _ _ ?_
  refine wp_ret ?_
  exact zas rfl S (S.at 7 rfl) (i:=2) rfl Tryz.underlying42 rfl zaQ ⟨_,rfl,(zuV (m:=zcI u1 u2 u3 u4) (zdw hc10).1 (zdw hc10).2.1 (zdw hc10).2.2.1 (zdw hc10).2.2.2.1 (zdw hc10).2.2.2.2 ⟨hq9,hq10,(zv8 hk17 (by omega)),(zv8 hk18 (by omega)),(zv8 hk19 (by omega)),(zv8 hk20 (by omega)),(S.num 7 rfl),(S.num 6 rfl),(S.num 5 rfl),(S.num 4 rfl)⟩ ⟨hq11,hq12,(zv8 hk21 (by omega)),(zv8 hk22 (by omega)),(zv8 hk23 (by omega)),(zv8 hk24 (by omega)),(S.num 3 rfl),(S.num 2 rfl),(S.num 1 rfl),(S.num 0 rfl)⟩),S.below⟩
 ·refine wp_cond_false ((S.at 0 rfl).trans (congrArg Value.bool hc10)) ?_
  refine wp_skip ?_
  refine hK2 _ _ ?_
  refine wp_seq_k fun K5 hK5=>?_
  refine wsp fun K6 hK6=>?_
  refine tv S (zab rfl (S.at 6 rfl) (zbv _)) fun a S=>?_
  refine lp S 0 0 fun a S=>?_
  refine tv S (zab rfl (S.at 8 rfl) (zbw _)) fun a S=>?_
  refine lp S 0 0 fun a S=>?_
  refine tv S (zab rfl (S.at 9 rfl) (zbv _)) fun a S=>?_
  refine lp S 0 1 fun a S=>?_
  refine tv S (zab rfl (S.at 11 rfl) (zbw _)) fun a S=>?_
  refine lp S 0 1 fun a S=>?_
  refine tc S (F:=PB (19*K+12) ((zc4 u1 u2 u3 u4).1) ((zc4 u1 u2 u3 u4).2) (.bool (decide (den u1 u2 u3 u4≠0)))) (rc4 Tryz.func12 (S.at 6 rfl) (S.at 4 rfl) (S.at 2 rfl) (S.at 0 rfl)) (ztT (T.keep S.below) (zdC S 8 hq1 hq2 hk1 hk2 hk3 hk4) (zdC S 12 hq3 hq4 hk5 hk6 hk7 hk8) (zdC S 0 hq5 hq6 hk9 hk10 hk11 hk12) (zdC S 4 hq7 hq8 hk13 hk14 hk15 hk16) (by omega) (by omega)) fun v a V8 hF hb S=>?_
  obtain⟨b13,x13,y13,b14,x14,y14,rfl,hq13,hq14,hk25,hk26,hk27,hk28,ok25,ok26,ok27,ok28⟩:=hF
  have S:=S.know ok25
  have S:=S.know ok26
  have S:=S.know ok27
  have S:=S.know ok28
  refine mv S 0 fun a S=>?_
  refine tv S (zaL rfl (S.at 0 rfl) rfl) fun a S=>?_
  refine tv S (zaL rfl (S.at 1 rfl) rfl) fun a S=>?_
  refine ti S (cs:=lY) (zam rfl (Tryz.zeroValue29 _) rfl) (fun g4=>[⟨g1,70,(lT b1 x1 y1 b2 x2 y2 b3 x3 y3 b4 x4 y4)⟩,⟨g2,70,(lT b5 x5 y5 b6 x6 y6 b7 x7 y7 b8 x8 y8)⟩,⟨g3,42,[.int .i8 0,.bool false,.slice none 0 0,.slice none 0 0,.bool false,.slice none 0 0,.slice none 0 0,.bool false,.slice none 0 0,.slice none 0 0,.bool false,.slice none 0 0,.slice none 0 0]⟩,⟨g4,29,lY⟩]) fun g4 a V9 hgg4 S=>?_
  refine sto S 3 (fun ht=>zai rfl (S.at 0 rfl) (S.at 2 rfl) zbb rfl (zv5 rfl) ht) fun V10 S=>?_
  refine tv S (zaj rfl (S.at 1 rfl)) fun a S=>?_
  refine hK6 _ _ ?_
  refine wp_seq_k fun K7 hK7=>?_
  have S:=S.keep [6,5,4,3,2] (ls':=[(6,.bool (decide (den u1 u2 u3 u4≠0))),(5,pT g4 0),(4,pT g3 0),(3,pT g2 0),(2,pT g1 0)]) rfl
  refine zaA ?_
  refine mv S 0 fun a S=>?_
  refine hK7 _ _ ?_
  rcases zwf (decide (den u1 u2 u3 u4≠0))with hc26|hc26
  ·refine wp_cond_true ((S.at 0 rfl).trans (congrArg Value.bool hc26)) ?_
   refine wsp fun K8 hK8=>?_
   refine lp S 2 3 fun a S=>?_
   refine lp S 3 3 fun a S=>?_
   refine tc S (F:=MT (max (19*K+12) 1) (zbI (zc4 u1 u2 u3 u4) (zc4 u1 u2 u3 u4))) (rc2 Tryz.func95 (S.at 1 rfl) (S.at 0 rfl)) (zkF (T.keep S.below) (zcz S 0 hq13 hq14 hk25 hk26 hk27 hk28).any (zcz S 0 hq13 hq14 hk25 hk26 hk27 hk28).any) fun v a V11 hF hb S=>?_
   obtain⟨b15,x15,y15,b16,x16,y16,b17,x17,y17,b18,x18,y18,rfl,⟨hq15,hq16,hk29,hk30,hk31,hk32,ok29,ok30,ok31,ok32⟩,⟨hq17,hq18,hk33,hk34,hk35,hk36,ok33,ok34,ok35,ok36⟩⟩:=hF
   have S:=S.know ok29
   have S:=S.know ok30
   have S:=S.know ok31
   have S:=S.know ok32
   have S:=S.know ok33
   have S:=S.know ok34
   have S:=S.know ok35
   have S:=S.know ok36
   refine sto S 2 (fun ht=>zai rfl (S.at 6 rfl) (S.at 0 rfl) zaQ rfl (zv5 rfl) ht) fun V12 S=>?_
   refine hK8 _ _ ?_
   refine wp_ret ?_
   exact zas rfl S (S.at 6 rfl) (i:=2) rfl Tryz.underlying42 rfl zaQ ⟨_,rfl,((MT.of (show MT (max (19*K+12) 1) (zbI (zc4 u1 u2 u3 u4) (zc4 u1 u2 u3 u4)) _ _ from mtm (zew S 4 hq15 hq16 hk29 hk30 hk31 hk32) (zew S 0 hq17 hq18 hk33 hk34 hk35 hk36)) (zl0 hc10 hc26)).to (by omega)),S.below⟩
  ·refine wp_cond_false ((S.at 0 rfl).trans (congrArg Value.bool hc26)) ?_
   refine wp_skip ?_
   refine hK5 _ _ ?_
   refine wp_seq_k fun K9 hK9=>?_
   obtain⟨W1,hW1⟩:∃W,W=V10:=⟨_,rfl⟩
   rw[<-hW1]at S ⊢
   have S0:=S
   refine fr 11 [30,31,32,33,34,35,36,37,38,39,40] [IsV (pT g1 0),IsV ((aP b1 x1 y1 b2 x2 y2)),IsV (pT g2 0),IsV ((aP b5 x5 y5 b6 x6 y6)),P1 K ((zbZ u1 u3).1) ((zbZ u1 u3).2),IsV (pT g1 6),IsV ((aP b3 x3 y3 b4 x4 y4)),IsV (pT g2 6),IsV ((aP b7 x7 y7 b8 x8 y8)),P1 K ((zbf u2 u4).1) ((zbf u2 u4).2),MT (max K 1) (zbI (zbZ u1 u3) (zbf u2 u4))] S ?_ ?_
   ·refine sc (fun _ _ S _ _=>sv rfl (zab rfl (S.at 5 rfl) (zbv _))) ?_
    refine sc (fun _ _ S _ hd=>sv rfl (za5 rfl (hd.v 0 rfl rfl) (S.bx 0 rfl) rfl)) ?_
    refine sc (fun _ _ S _ _=>sv rfl (zab rfl (S.at 4 rfl) (zbv _))) ?_
    refine sc (fun _ _ S _ hd=>sv rfl (za5 rfl (hd.v 2 rfl rfl) (S.bx 1 rfl) rfl)) ?_
    refine sc (fun _ _ S _ hd=>sl rfl (rc2 Tryz.func96 (hd.v 1 rfl rfl) (hd.v 3 rfl rfl)) (ztS (T.keep S.below) (zdC S 12 hq1 hq2 hk1 hk2 hk3 hk4) (zdC S 4 hq5 hq6 hk9 hk10 hk11 hk12) (by omega))) ?_
    refine sc (fun _ _ S _ _=>sv rfl (zab rfl (S.at 5 rfl) (zbw _))) ?_
    refine sc (fun _ _ S _ hd=>sv rfl (za5 rfl (hd.v 5 rfl rfl) (S.bx 0 rfl) rfl)) ?_
    refine sc (fun _ _ S _ _=>sv rfl (zab rfl (S.at 4 rfl) (zbw _))) ?_
    refine sc (fun _ _ S _ hd=>sv rfl (za5 rfl (hd.v 7 rfl rfl) (S.bx 1 rfl) rfl)) ?_
    refine sc (fun _ _ S _ hd=>sl rfl (rc2 Tryz.func97 (hd.v 6 rfl rfl) (hd.v 8 rfl rfl)) (zpZ (T.keep S.below) (zdC S 16 hq3 hq4 hk5 hk6 hk7 hk8) (zdC S 8 hq7 hq8 hk13 hk14 hk15 hk16) (by omega))) ?_
    refine sc (fun _ _ S _ hd=>sl rfl (rc2 Tryz.func95 rfl rfl) (zkF (T.keep S.below) (hd.r 4 rfl rfl) (hd.r 9 rfl rfl))) ?_
    exact sn
   ·intro a1 V13 S hB hf
    obtain⟨b19,x19,y19,b20,x20,y20,b21,x21,y21,b22,x22,y22,hv1,⟨hq19,hq20,hk37,hk38,hk39,hk40,ok37,ok38,ok39,ok40⟩,⟨hq21,hq22,hk41,hk42,hk43,hk44,ok41,ok42,ok43,ok44⟩⟩:=hf.r 10 rfl rfl
    have S:=S.add hv1
    have S:=S.know ok37
    have S:=S.know ok38
    have S:=S.know ok39
    have S:=S.know ok40
    have S:=S.know ok41
    have S:=S.know ok42
    have S:=S.know ok43
    have S:=S.know ok44
    clear hf S0
    show wpList _ _ _ [_] _ _
    refine sto S 2 (fun ht=>zai rfl (S.at 4 rfl) (S.at 0 rfl) zaQ rfl (zv5 rfl) ht) fun V14 S=>?_
    refine hK9 _ _ ?_
    refine wp_ret ?_
    exact zas rfl S (S.at 4 rfl) (i:=2) rfl Tryz.underlying42 rfl zaQ ⟨_,rfl,((MT.of (show MT (max K 1) (zbI (zbZ u1 u3) (zbf u2 u4)) _ _ from mtm (zew S 4 hq19 hq20 hk37 hk38 hk39 hk40) (zew S 0 hq21 hq22 hk41 hk42 hk43 hk44)) (zkE hc10 hc26)).to (by omega)),S.below⟩
theorem zgU {K:Nat}{q1 q1' q2 q2' q3 q3' q4 q4':Rat}{v1 v2 v3 v4:Value}{V:World}(T:TT V)(h1:P1 K (q1) (q1') v1 V)(h2:P1 K (q2) (q2') v2 V)(h3:P1 K (q3) (q3') v3 V)(h4:P1 K (q4) (q4') v4 V)(h1K:1<=K)(hK0:K<=10:=by omega):
  Calls Tryz.prog 17 #[v1,v2,v3,v4] V (zag V (MT (19*K+12) (zaB (q1,q1') (q2,q2') (q3,q3') (q4,q4')))):=by
 obtain⟨b1,x1,y1,b2,x2,y2,rfl,hq1,hq2,⟨hk1,hk2⟩,⟨hk3,hk4⟩,⟨ok1,ok2⟩,ok3,ok4⟩:=h1
 obtain⟨b3,x3,y3,b4,x4,y4,rfl,hq3,hq4,⟨hk5,hk6⟩,⟨hk7,hk8⟩,⟨ok5,ok6⟩,ok7,ok8⟩:=h2
 obtain⟨b5,x5,y5,b6,x6,y6,rfl,hq5,hq6,⟨hk9,hk10⟩,⟨hk11,hk12⟩,⟨ok9,ok10⟩,ok11,ok12⟩:=h3
 obtain⟨b7,x7,y7,b8,x8,y8,rfl,hq7,hq8,⟨hk13,hk14⟩,⟨hk15,hk16⟩,⟨ok13,ok14⟩,ok15,ok16⟩:=h4
 have hp0:=fun {V':World}=>p1m (V:=V') hq1 hq2 hk1 hk2 hk3 hk4
 have hp1:=fun {V':World}=>p1m (V:=V') hq3 hq4 hk5 hk6 hk7 hk8
 have hp2:=fun {V':World}=>p1m (V:=V') hq5 hq6 hk9 hk10 hk11 hk12
 have hp3:=fun {V':World}=>p1m (V:=V') hq7 hq8 hk13 hk14 hk15 hk16
 refine fb Tryz.func17 Tryz.ntmps17 (zaa ok13 (zaa ok14 (zaa ok15 (zaa ok16 (zaa ok9 (zaa ok10 (zaa ok11 (zaa ok12 (zaa ok5 (zaa ok6 (zaa ok7 (zaa ok8 (zaa ok1 (zaa ok2 (zaa ok3 (zaa ok4 zav)))))))))))))))) (fun a S=>?_)
 refine wsp fun K1 hK1=>?_
 refine tb S 0 (lP b1 x1 y1 b2 x2 y2) fun g1 a V1 hgg1 S=>?_
 refine tb S 2 (lP b3 x3 y3 b4 x4 y4) fun g2 a V2 hgg2 S=>?_
 refine tb S 4 (lP b5 x5 y5 b6 x6 y6) fun g3 a V3 hgg3 S=>?_
 refine tb S 6 (lP b7 x7 y7 b8 x8 y8) fun g4 a V4 hgg4 S=>?_
 refine ti S (cs:=[.int .i8 0,.bool false,.slice none 0 0,.slice none 0 0,.bool false,.slice none 0 0,.slice none 0 0,.bool false,.slice none 0 0,.slice none 0 0,.bool false,.slice none 0 0,.slice none 0 0]) (zam rfl (Tryz.zeroValue42 _) rfl) (fun g5=>[⟨g1,29,(lP b1 x1 y1 b2 x2 y2)⟩,⟨g2,29,(lP b3 x3 y3 b4 x4 y4)⟩,⟨g3,29,(lP b5 x5 y5 b6 x6 y6)⟩,⟨g4,29,(lP b7 x7 y7 b8 x8 y8)⟩,⟨g5,42,[.int .i8 0,.bool false,.slice none 0 0,.slice none 0 0,.bool false,.slice none 0 0,.slice none 0 0,.bool false,.slice none 0 0,.slice none 0 0,.bool false,.slice none 0 0,.slice none 0 0]⟩]) fun g5 a V5 hgg5 S=>?_
 refine hK1 _ _ ?_
 refine wp_seq_k fun K2 hK2=>?_
 obtain⟨W1,hW1⟩:∃W,W=V5:=⟨_,rfl⟩
 rw[<-hW1]at S ⊢
 have S0:=S
 refine fr 7 [9,10,11,12,13,14,15] [IsV ((aP b1 x1 y1 b2 x2 y2)),IsV ((aP b3 x3 y3 b4 x4 y4)),S1 K ((spL (q1,q1') (q2,q2'))) ((spH (q1,q1') (q2,q2'))),IsV ((aP b5 x5 y5 b6 x6 y6)),IsV ((aP b7 x7 y7 b8 x8 y8)),S1 K ((spL (q3,q3') (q4,q4'))) ((spH (q3,q3') (q4,q4'))),MT (19*K+12) (zcI (spL (q1,q1') (q2,q2')) (spH (q1,q1') (q2,q2')) (spL (q3,q3') (q4,q4')) (spH (q3,q3') (q4,q4')))] S ?_ ?_
 ·refine sc (fun _ _ S _ _=>sv rfl (za5 rfl (S.at 4 rfl) (S.bx 0 rfl) rfl)) ?_
  refine sc (fun _ _ S _ _=>sv rfl (za5 rfl (S.at 3 rfl) (S.bx 1 rfl) rfl)) ?_
  refine sc (fun _ _ S _ hd=>sl rfl (rc2 Tryz.func53 (hd.v 0 rfl rfl) (hd.v 1 rfl rfl)) (zm5 (T.keep S.below) (p4 S 12 hp0) (p4 S 8 hp1))) ?_
  refine sc (fun _ _ S _ _=>sv rfl (za5 rfl (S.at 2 rfl) (S.bx 2 rfl) rfl)) ?_
  refine sc (fun _ _ S _ _=>sv rfl (za5 rfl (S.at 1 rfl) (S.bx 3 rfl) rfl)) ?_
  refine sc (fun _ _ S _ hd=>sl rfl (rc2 Tryz.func53 (hd.v 3 rfl rfl) (hd.v 4 rfl rfl)) (zm5 (T.keep S.below) (p4 S 4 hp2) (p4 S 0 hp3))) ?_
  refine sc (fun _ _ S _ hd=>sl rfl (rc2 Tryz.func54 rfl rfl) (zp1 (T.keep S.below) (hd.r 2 rfl rfl) (hd.r 5 rfl rfl) (by omega) (by omega))) ?_
  exact sn
 ·intro a1 V6 S hB hf
  obtain⟨b9,x9,y9,b10,x10,y10,b11,x11,y11,b12,x12,y12,hv1,⟨hq9,hq10,hk17,hk18,hk19,hk20,ok17,ok18,ok19,ok20⟩,⟨hq11,hq12,hk21,hk22,hk23,hk24,ok21,ok22,ok23,ok24⟩⟩:=hf.r 6 rfl rfl
  have S:=S.add hv1
  have S:=S.know ok17
  have S:=S.know ok18
  have S:=S.know ok19
  have S:=S.know ok20
  have S:=S.know ok21
  have S:=S.know ok22
  have S:=S.know ok23
  have S:=S.know ok24
  clear hf S0
  show wpList _ _ _ [_] _ _
  refine sto S 4 (fun ht=>zai rfl (S.at 1 rfl) (S.at 0 rfl) zaQ rfl (zv5 rfl) ht) fun V7 S=>?_
  refine hK2 _ _ ?_
  refine wp_ret ?_
  exact zas rfl S (S.at 1 rfl) (i:=4) rfl Tryz.underlying42 rfl zaQ ⟨_,rfl,(MT.of (show MT (19*K+12) (zcI (spL (q1,q1') (q2,q2')) (spH (q1,q1') (q2,q2')) (spL (q3,q3') (q4,q4')) (spH (q3,q3') (q4,q4'))) _ _ from mtm (zew S 4 hq9 hq10 hk17 hk18 hk19 hk20) (zew S 0 hq11 hq12 hk21 hk22 hk23 hk24)) (zkB (q1,q1') (q2,q2') (q3,q3') (q4,q4'))),S.below⟩
theorem zm6 {K:Nat}{q1 q1' q2 q2' q3 q3' q4 q4':Rat}{v1 v2 v3 v4:Value}{V:World}(T:TT V)(h1:P1 K (q1) (q1') v1 V)(h2:P1 K (q2) (q2') v2 V)(h3:P1 K (q3) (q3') v3 V)(h4:P1 K (q4) (q4') v4 V)(h1K:1<=K)(hK0:K<=10:=by omega):
  Calls Tryz.prog 19 #[v1,v2,v3,v4] V (zag V (fun v _=>v= .bool ((zaB (q1,q1') (q2,q2') (q3,q3') (q4,q4')).has))):=by
 obtain⟨b1,x1,y1,b2,x2,y2,rfl,hq1,hq2,⟨hk1,hk2⟩,⟨hk3,hk4⟩,⟨ok1,ok2⟩,ok3,ok4⟩:=h1
 obtain⟨b3,x3,y3,b4,x4,y4,rfl,hq3,hq4,⟨hk5,hk6⟩,⟨hk7,hk8⟩,⟨ok5,ok6⟩,ok7,ok8⟩:=h2
 obtain⟨b5,x5,y5,b6,x6,y6,rfl,hq5,hq6,⟨hk9,hk10⟩,⟨hk11,hk12⟩,⟨ok9,ok10⟩,ok11,ok12⟩:=h3
 obtain⟨b7,x7,y7,b8,x8,y8,rfl,hq7,hq8,⟨hk13,hk14⟩,⟨hk15,hk16⟩,⟨ok13,ok14⟩,ok15,ok16⟩:=h4
 have hp0:=fun {V':World}=>p1m (V:=V') hq1 hq2 hk1 hk2 hk3 hk4
 have hp1:=fun {V':World}=>p1m (V:=V') hq3 hq4 hk5 hk6 hk7 hk8
 have hp2:=fun {V':World}=>p1m (V:=V') hq5 hq6 hk9 hk10 hk11 hk12
 have hp3:=fun {V':World}=>p1m (V:=V') hq7 hq8 hk13 hk14 hk15 hk16
 refine fb Tryz.func19 Tryz.ntmps19 (zaa ok13 (zaa ok14 (zaa ok15 (zaa ok16 (zaa ok9 (zaa ok10 (zaa ok11 (zaa ok12 (zaa ok5 (zaa ok6 (zaa ok7 (zaa ok8 (zaa ok1 (zaa ok2 (zaa ok3 (zaa ok4 zav)))))))))))))))) (fun a S=>?_)
 refine wsp fun K1 hK1=>?_
 refine tb S 0 (lP b1 x1 y1 b2 x2 y2) fun g1 a V1 hgg1 S=>?_
 refine tb S 2 (lP b3 x3 y3 b4 x4 y4) fun g2 a V2 hgg2 S=>?_
 refine tb S 4 (lP b5 x5 y5 b6 x6 y6) fun g3 a V3 hgg3 S=>?_
 refine tb S 6 (lP b7 x7 y7 b8 x8 y8) fun g4 a V4 hgg4 S=>?_
 refine ac S fun a S=>?_
 refine hK1 _ _ ?_
 refine wp_seq_k fun K2 hK2=>?_
 have S:=S.keep [8,7,6,5,4] (ls':=[(8,.bool false),(7,pT g4 0),(6,pT g3 0),(5,pT g2 0),(4,pT g1 0)]) rfl
 obtain⟨W1,hW1⟩:∃W,W=V4:=⟨_,rfl⟩
 rw[<-hW1]at S ⊢
 have S0:=S
 refine fr 7 [9,10,11,12,13,14,15] [IsV ((aP b1 x1 y1 b2 x2 y2)),IsV ((aP b3 x3 y3 b4 x4 y4)),S1 K ((spL (q1,q1') (q2,q2'))) ((spH (q1,q1') (q2,q2'))),IsV ((aP b5 x5 y5 b6 x6 y6)),IsV ((aP b7 x7 y7 b8 x8 y8)),S1 K ((spL (q3,q3') (q4,q4'))) ((spH (q3,q3') (q4,q4'))),IsV (.bool (zbA (spL (q1,q1') (q2,q2')) (spH (q1,q1') (q2,q2')) (spL (q3,q3') (q4,q4')) (spH (q3,q3') (q4,q4'))))] S ?_ ?_
 ·refine sc (fun _ _ S _ _=>sv rfl (za5 rfl (S.at 4 rfl) (S.bx 0 rfl) rfl)) ?_
  refine sc (fun _ _ S _ _=>sv rfl (za5 rfl (S.at 3 rfl) (S.bx 1 rfl) rfl)) ?_
  refine sc (fun _ _ S _ hd=>sl rfl (rc2 Tryz.func53 (hd.v 0 rfl rfl) (hd.v 1 rfl rfl)) (zm5 (T.keep S.below) (p4 S 12 hp0) (p4 S 8 hp1))) ?_
  refine sc (fun _ _ S _ _=>sv rfl (za5 rfl (S.at 2 rfl) (S.bx 2 rfl) rfl)) ?_
  refine sc (fun _ _ S _ _=>sv rfl (za5 rfl (S.at 1 rfl) (S.bx 3 rfl) rfl)) ?_
  refine sc (fun _ _ S _ hd=>sl rfl (rc2 Tryz.func53 (hd.v 3 rfl rfl) (hd.v 4 rfl rfl)) (zm5 (T.keep S.below) (p4 S 4 hp2) (p4 S 0 hp3))) ?_
  refine sc (fun _ _ S _ hd=>sl rfl (rc2 Tryz.func57 rfl rfl) (zp0 (T.keep S.below) (hd.r 2 rfl rfl) (hd.r 5 rfl rfl))) ?_
  exact sn
 ·intro a1 V5 S hB hf
  have S:=S.add (hf.v 6 rfl rfl)
  clear hf S0
  show wpList _ _ _ [_] _ _
  refine av S (zaj rfl (S.at 0 rfl)) fun a S=>?_
  refine hK2 _ _ ?_
  refine wp_ret ?_
  exact zaC rfl S (S.at 0 rfl) ⟨_,rfl,congrArg Value.bool ((zlZ _ _ _ _).trans (congrArg Mt.has (zkB (q1,q1') (q2,q2') (q3,q3') (q4,q4')))),S.below⟩
theorem zjs {K:Nat}{q1 q1' q2 q2' x:Rat}{v1 v2 v3:Value}{V:World}(T:TT V)(h1:P1 K (q1) (q1') v1 V)(h2:P1 K (q2) (q2') v2 V)(h3:Q1 K (x) v3 V)(h1K:1<=K)(hK0:K<=10:=by omega):
  Calls Tryz.prog 10 #[v1,v2,v3] V (zag V (QV (20*K+20) (za1 (q1,q1') (q2,q2') x) (.bool (decide (q2 - q1≠0))))):=by
 obtain⟨b1,x1,y1,b2,x2,y2,rfl,hq1,hq2,⟨hk1,hk2⟩,⟨hk3,hk4⟩,⟨ok1,ok2⟩,ok3,ok4⟩:=h1
 obtain⟨b3,x3,y3,b4,x4,y4,rfl,hq3,hq4,⟨hk5,hk6⟩,⟨hk7,hk8⟩,⟨ok5,ok6⟩,ok7,ok8⟩:=h2
 obtain⟨b5,x5,y5,rfl,hq5,hk9,hk10,ok9,ok10⟩:=h3
 have hp0:=fun {V':World}=>p1m (V:=V') hq1 hq2 hk1 hk2 hk3 hk4
 have hp1:=fun {V':World}=>p1m (V:=V') hq3 hq4 hk5 hk6 hk7 hk8
 refine fb Tryz.func10 Tryz.ntmps10 (zaa ok9 (zaa ok10 (zaa ok5 (zaa ok6 (zaa ok7 (zaa ok8 (zaa ok1 (zaa ok2 (zaa ok3 (zaa ok4 zav)))))))))) (fun a S=>?_)
 refine wsp fun K1 hK1=>?_
 refine tb S 0 (lP b1 x1 y1 b2 x2 y2) fun g1 a V1 hgg1 S=>?_
 refine tb S 2 (lP b3 x3 y3 b4 x4 y4) fun g2 a V2 hgg2 S=>?_
 refine tb S 4 (aL b5 x5 y5) fun g3 a V3 hgg3 S=>?_
 refine ti S (cs:=lZ) (zam rfl (Tryz.zeroValue27 _) rfl) (fun g4=>[⟨g1,29,(lP b1 x1 y1 b2 x2 y2)⟩,⟨g2,29,(lP b3 x3 y3 b4 x4 y4)⟩,⟨g3,27,(aL b5 x5 y5)⟩,⟨g4,27,lZ⟩]) fun g4 a V4 hgg4 S=>?_
 refine ac S fun a S=>?_
 refine hK1 _ _ ?_
 refine wp_seq_k fun K2 hK2=>?_
 obtain⟨W1,hW1⟩:∃W,W=V4:=⟨_,rfl⟩
 rw[<-hW1]at S ⊢
 have S0:=S
 refine frs [(27,3)] [some 11,some 12,some 13,some 14,some 15,some 16,some 17,some 18,some 19,some 20,some 10,some 21,some 22,some 8,none,some 9] [IsV ((aG b5 x5 y5)),IsV (pT g1 0),IsV ((aG b1 x1 y1)),QT ((max K 1)+(max K 1)+1) (x - q1),IsV (pT g2 0),IsV ((aG b3 x3 y3)),IsV (pT g1 0),IsV ((aG b1 x1 y1)),QT ((max K 1)+(max K 1)+1) (q2 - q1),QE ((max ((max K 1)+(max K 1)+1) 1)+(max ((max K 1)+(max K 1)+1) 1)) ((x - q1)/(q2 - q1)) (erq (q2 - q1)),QE ((max ((max K 1)+(max K 1)+1) 1)+(max ((max K 1)+(max K 1)+1) 1)) ((x - q1)/(q2 - q1)) (erq (q2 - q1)),QT ((max ((max K 1)+(max K 1)+1) 1)+(max ((max K 1)+(max K 1)+1) 1)) ((x - q1)/(q2 - q1)),iI ((erq (q2 - q1))),zeV,zeV,iI ((erq (q2 - q1)))] [⟨13,8,27,lZ⟩] [⟨14,8,27,QT ((max ((max K 1)+(max K 1)+1) 1)+(max ((max K 1)+(max K 1)+1) 1)) ((x - q1)/(q2 - q1))⟩] [] (lb:=[⟨g1,29,(lP b1 x1 y1 b2 x2 y2)⟩,⟨g2,29,(lP b3 x3 y3 b4 x4 y4)⟩,⟨g3,27,(aL b5 x5 y5)⟩,⟨g4,27,lZ⟩]) S (all_cons (zfF 0 rfl rfl) zaH) ?_ (all_cons ⟨rfl,_,rfl,rfl,rfl,fun _ _ _=>(zam rfl (Tryz.zeroValue27 _) rfl)⟩ zaH) (all_cons ⟨_,3,rfl,rfl,rfl,List.mem_of_getElem? (i:=0) rfl,(all_cons (fun h=>⟨rfl,rfl⟩) zaH),zaH,fun _ _ _ _ hg hd=>zeR (hd.r 11 rfl rfl) (hd.r 11 rfl rfl).parts rfl hg rfl zak⟩ zaH) zaH ?_
 ·refine va (fun _ _ S _ _ _=>sv rfl (zca rfl (S.at 2 rfl) (S.bx 2 rfl) rfl)) ?_
  refine va (fun _ _ S _ _ _=>sv rfl (zab rfl (S.at 4 rfl) (zaS _))) ?_
  refine va (fun _ _ S _ hd _=>sv rfl (zca rfl (hd.v 1 rfl rfl) (S.bx 0 rfl) rfl)) ?_
  refine va (fun _ _ S _ hd _=>sl rfl (rc2 Tryz.func37 (hd.v 0 rfl rfl) (hd.v 2 rfl rfl)) (zkW (T.keep S.below) (q2m S 0 hq5 hk9 hk10) (q2m S 6 hq1 hk1 hk2))) ?_
  refine va (fun _ _ S _ _ _=>sv rfl (zab rfl (S.at 3 rfl) (zaS _))) ?_
  refine va (fun _ _ S _ hd _=>sv rfl (zca rfl (hd.v 4 rfl rfl) (S.bx 1 rfl) rfl)) ?_
  refine va (fun _ _ S _ _ _=>sv rfl (zab rfl (S.at 4 rfl) (zaS _))) ?_
  refine va (fun _ _ S _ hd _=>sv rfl (zca rfl (hd.v 6 rfl rfl) (S.bx 0 rfl) rfl)) ?_
  refine va (fun _ _ S _ hd _=>sl rfl (rc2 Tryz.func37 (hd.v 5 rfl rfl) (hd.v 7 rfl rfl)) (zkW (T.keep S.below) (q2m S 2 hq3 hk5 hk6) (q2m S 6 hq1 hk1 hk2))) ?_
  refine va (fun _ _ S _ hd _=>sl rfl (rc2 Tryz.func36 rfl rfl) (ztu (T.keep S.below) ((hd.r 3 rfl rfl)).any ((hd.r 8 rfl rfl)).any)) ?_
  refine va (fun _ _ _ _ hd _=>sv rfl (zan rfl rfl) (hd.r 9 rfl rfl)) ?_
  refine va (fun _ _ _ _ hd _=>by
   obtain⟨b,x,y,hv,hq,k1,k2,o1,o2⟩:=(hd.r 10 rfl rfl)
   exact sv rfl (zaL rfl hv rfl) ⟨b,x,y,rfl,hq,k1,k2,o1,o2⟩) ?_
  refine va (fun _ _ _ _ hd _=>by
   obtain⟨b,x,y,hv,hq,k1,k2,o1,o2⟩:=(hd.r 10 rfl rfl)
   exact sv rfl (zaL rfl hv rfl)) ?_
  refine vb ?_
  refine vs ?_
  refine va (fun _ _ _ _ hd _=>sv rfl (zaj rfl (hd.v 12 rfl rfl))) ?_
  exact vn
 ·intro a1 V5 S hB hf hl hdis hs hp
  obtain⟨g5,csg5,hvg5,hgg5,hbg5,hlg5,hng5,hkg5⟩:=hl _ (List.mem_of_getElem? (i:=0) rfl)
  obtain⟨gs1,vsgs1,hvgs1,-,hbgs1,hngs1,hPgs1⟩:=hs _ (List.mem_of_getElem? (i:=0) rfl)
  have hegs1:=zdK ((hvg5).symm.trans hvgs1)
  subst hegs1
  obtain⟨b6,x6,y6,hv1,hq6,hk11,hk12,ok11,ok12⟩:=(show QT ((max ((max K 1)+(max K 1)+1) 1)+(max ((max K 1)+(max K 1)+1) 1)) ((x - q1)/(q2 - q1)) (.agg vsgs1.toArray) V5 from hPgs1)
  have hvsgs1:=zdL (ws:=(aL b6 x6 y6)) hv1
  subst hvsgs1
  have S:=S.know ok11
  have S:=S.know ok12
  have S:=Frm.readd (S.add hvg5) (zv8 S0.below.size hgg5) hbgs1 rfl (zaU (zax (S0.lt 0 rfl) hgg5) (zaU (zax (S0.lt 1 rfl) hgg5) (zaU (zax (S0.lt 2 rfl) hgg5) (zaU (zax (S0.lt 3 rfl) hgg5) zeQ))))
  have S:=S.add (hf.v 15 rfl rfl)
  have S:Frm 38 [(9,.int .i64 (erq (q2 - q1))),(8,pT g5 0),(7,.bool false),(6,pT g4 0),(5,pT g3 0),(4,pT g2 0),(3,pT g1 0),(0,(aP b1 x1 y1 b2 x2 y2)),(1,(aP b3 x3 y3 b4 x4 y4)),(2,(aG b5 x5 y5))] [⟨g1,29,(lP b1 x1 y1 b2 x2 y2)⟩,⟨g2,29,(lP b3 x3 y3 b4 x4 y4)⟩,⟨g3,27,(aL b5 x5 y5)⟩,⟨g4,27,lZ⟩,⟨g5,27,(aL b6 x6 y6)⟩] V _ _ _:=S
  clear hf hl hdis hs hp S0
  refine hK2 _ _ ?_
  refine wp_seq_k fun K3 hK3=>?_
  refine wsp fun K4 hK4=>?_
  refine mv S 0 fun a S=>?_
  refine tv S (zgC _ (by decide) rfl (S.at 0 rfl) rfl) fun a S=>?_
  refine hK4 _ _ ?_
  rcases zwf (!decide (erq (q2 - q1)=0))with hc24|hc24
  ·refine wp_cond_true ((S.at 0 rfl).trans (congrArg Value.bool hc24)) ?_
   refine wsp fun K5 hK5=>?_
   refine tc S (F:=QT 1 ((0:Rat))) (rcc Tryz.func38) ztt fun v a V6 hF hb S=>?_
   obtain⟨b7,x7,y7,rfl,hq7,hk13,hk14,ok13,ok14⟩:=hF
   have S:=S.know ok13
   have S:=S.know ok14
   refine sto S 3 (fun ht=>zai rfl (S.at 6 rfl) (S.at 0 rfl) zak rfl (zv5 rfl) ht) fun V7 S=>?_
   refine av S (zb5 rfl) fun a S=>?_
   refine hK5 _ _ ?_
   refine wp_ret ?_
   exact zdp rfl S (S.at 6 rfl) (i:=3) rfl Tryz.underlying27 rfl zak (S.at 0 rfl) ⟨_,rfl,⟨b7,x7,y7,congrArg (fun u=>Value.tuple #[(aG b7 x7 y7),.bool u]) (ziG (q1':=q1') (q2':=q2') (x:=x) hc24).2,(ziG (q1':=q1') (q2':=q2') (x:=x) hc24).1▸hq7,zv8 hk13 (by omega),zv8 hk14 (by omega),(S.num 1 rfl),(S.num 0 rfl)⟩,S.below⟩
  ·refine wp_cond_false ((S.at 0 rfl).trans (congrArg Value.bool hc24)) ?_
   refine wp_skip ?_
   refine hK3 _ _ ?_
   refine wp_seq_k fun K6 hK6=>?_
   have S:=S.keep [8,7,6,4,3] (ls':=[(8,pT g5 0),(7,.bool false),(6,pT g4 0),(4,pT g2 0),(3,pT g1 0)]) rfl
   obtain⟨W2,hW2⟩:∃W,W=V5:=⟨_,rfl⟩
   rw[<-hW2]at S ⊢
   have S0:=S
   refine fr 12 [26,27,28,29,30,31,32,33,34,35,36,37] [IsV (pT g1 3),IsV ((aG b2 x2 y2)),IsV (pT g2 3),IsV ((aG b4 x4 y4)),IsV (pT g1 3),IsV ((aG b2 x2 y2)),QT ((max K 1)+(max K 1)+1) ((q2') - (q1')),IsV ((aG b6 x6 y6)),QL (max ((max K 1)+(max K 1)+1) ((max ((max K 1)+(max K 1)+1) 1)+(max ((max K 1)+(max K 1)+1) 1))) 6 ([(q2') - (q1'),(x - q1)/(q2 - q1)]),QT (2*(max (max ((max K 1)+(max K 1)+1) ((max ((max K 1)+(max K 1)+1) 1)+(max ((max K 1)+(max K 1)+1) 1))) 1)) (((q2') - (q1'))*((x - q1)/(q2 - q1))),QL (max K (2*(max (max ((max K 1)+(max K 1)+1) ((max ((max K 1)+(max K 1)+1) 1)+(max ((max K 1)+(max K 1)+1) 1))) 1))) 6 ([q1',((q2') - (q1'))*((x - q1)/(q2 - q1))]),QT (2*(max (max K (2*(max (max ((max K 1)+(max K 1)+1) ((max ((max K 1)+(max K 1)+1) 1)+(max ((max K 1)+(max K 1)+1) 1))) 1))) 1)+1) ((q1')+(((q2') - (q1'))*((x - q1)/(q2 - q1))))] S ?_ ?_
   ·refine sc (fun _ _ S _ _=>sv rfl (zab rfl (S.at 4 rfl) (za0 _))) ?_
    refine sc (fun _ _ S _ hd=>sv rfl (zca rfl (hd.v 0 rfl rfl) (S.bx 0 rfl) rfl)) ?_
    refine sc (fun _ _ S _ _=>sv rfl (zab rfl (S.at 3 rfl) (za0 _))) ?_
    refine sc (fun _ _ S _ hd=>sv rfl (zca rfl (hd.v 2 rfl rfl) (S.bx 1 rfl) rfl)) ?_
    refine sc (fun _ _ S _ _=>sv rfl (zab rfl (S.at 4 rfl) (za0 _))) ?_
    refine sc (fun _ _ S _ hd=>sv rfl (zca rfl (hd.v 4 rfl rfl) (S.bx 0 rfl) rfl)) ?_
    refine sc (fun _ _ S _ hd=>sl rfl (rc2 Tryz.func37 (hd.v 3 rfl rfl) (hd.v 5 rfl rfl)) (zkW (T.keep S.below) (q2m S 6 hq4 hk7 hk8) (q2m S 10 hq2 hk3 hk4))) ?_
    refine sc (fun _ _ S _ _=>sv rfl (zca rfl (S.at 0 rfl) (S.bx 4 rfl) rfl)) ?_
    refine sc (fun _ _ S _ hd=>sy rfl (zcq rfl rfl (hd.v 7 rfl rfl) ((((hd.r 6 rfl rfl)).any).to rfl (by omega)) (((show QT ((max ((max K 1)+(max K 1)+1) 1)+(max ((max K 1)+(max K 1)+1) 1)) ((x - q1)/(q2 - q1)) ((aG b6 x6 y6)) _ from⟨b6,x6,y6,rfl,hq6,hk11,hk12,(S.num 1 rfl),(S.num 0 rfl)⟩).any).to rfl (by omega)))) ?_
    refine sc (fun _ _ S _ hd=>sl rfl (rc1 Tryz.func40 rfl) (znB (T.keep S.below) ((hd.r 8 rfl rfl)).row)) ?_
    refine sc (fun _ _ S _ hd=>sy rfl (zcq rfl (hd.v 1 rfl rfl) rfl (((q2m S 10 hq2 hk3 hk4)).to rfl (by omega)) ((((hd.r 9 rfl rfl)).any).to rfl (by omega)))) ?_
    refine sc (fun _ _ S _ hd=>sl rfl (rc1 Tryz.func39 rfl) (ztH (T.keep S.below) ((hd.r 10 rfl rfl)).row)) ?_
    exact sn
   ·intro a2 V8 S hB hf
    obtain⟨b8,x8,y8,hv2,hq8,hk15,hk16,ok15,ok16⟩:=hf.r 11 rfl rfl
    have S:=S.add hv2
    have S:=S.know ok15
    have S:=S.know ok16
    clear hf S0
    show wpList _ _ _ [_,_] _ _
    refine sto S 3 (fun ht=>zai rfl (S.at 3 rfl) (S.at 0 rfl) zak rfl (zv5 rfl) ht) fun V9 S=>?_
    refine av S (zb5 rfl) fun a S=>?_
    refine hK6 _ _ ?_
    refine wp_ret ?_
    exact zdp rfl S (S.at 3 rfl) (i:=3) rfl Tryz.underlying27 rfl zak (S.at 0 rfl) ⟨_,rfl,⟨b8,x8,y8,congrArg (fun u=>Value.tuple #[(aG b8 x8 y8),.bool u]) (ziH (q1':=q1') (q2':=q2') (x:=x) hc24).2,(ziH (q1':=q1') (q2':=q2') (x:=x) hc24).1▸hq8,zv8 hk15 (by omega),zv8 hk16 (by omega),(S.num 1 rfl),(S.num 0 rfl)⟩,S.below⟩
end Go.Proofs.YtipckjmgdghkiaaGreatDoor
