/- A part. -/
import Derived.Test.YtipckjmgdghkiaaGreatDoorGMtM
set_option maxHeartbeats 4000000
set_option maxRecDepth 100000
namespace Go.Proofs.YtipckjmgdghkiaaGreatDoor
open Go Go.RowKit
def Mt.kind:Mt->Int
 | .none=>0
 | .point _=>1
 | .over _ _=>2
def Mt.fst:Mt->QQ
 | .none=>(((0:Int):Rat),((0:Int):Rat))
 | .point A=>A
 | .over A _=>A
def Mt.snd:Mt->QQ
 | .none=>(((0:Int):Rat),((0:Int):Rat))
 | .point A=>A
 | .over _ B=>B
structure PtOf (V:World) (K:Nat) (q q':Rat) (b:Bool) (x y:Num) (d:Bool) (z w:Num):Prop where
 hq:qOf b x.N y.N=q
 hq':qOf d z.N w.N=q'
 kx:x.n<=K
 ky:y.n<=K
 kz:z.n<=K
 kw:w.n<=K
 ox:x.ok V V.heap.size
 oy:y.ok V V.heap.size
 oz:z.ok V V.heap.size
 ow:w.ok V V.heap.size
structure PtTo (V:World) (K:Nat) (q q':Rat) (b:Bool) (x y:Num) (d:Bool) (z w:Num):Prop where
 hq:IsQ q b x y
 hq':IsQ q' d z w
 kx:x.n<=K
 ky:y.n<=K
 kz:z.n<=K
 kw:w.n<=K
 ox:x.ok V V.heap.size
 oy:y.ok V V.heap.size
 oz:z.ok V V.heap.size
 ow:w.ok V V.heap.size
def S1 (K:Nat)(a b:QQ)(v:Value)(V:World):Prop:=∃(b1:Bool) (x1 y1:Num) (d1:Bool) (z1 w1:Num) (b2:Bool) (x2 y2:Num) (d2:Bool) (z2 w2:Num),
 v= .agg #[.bool b1,.slice x1.A x1.n x1.c,.slice y1.A y1.n y1.c,.bool d1,.slice z1.A z1.n z1.c,.slice w1.A w1.n w1.c,.bool b2,.slice x2.A x2.n x2.c,.slice y2.A y2.n y2.c,.bool d2,.slice z2.A z2.n z2.c,.slice w2.A w2.n w2.c]/\PtOf V K a.1 a.2 b1 x1 y1 d1 z1 w1/\PtOf V K b.1 b.2 b2 x2 y2 d2 z2 w2
def MT (K:Nat)(m:Mt)(v:Value)(V:World):Prop:=∃(b1:Bool) (x1 y1:Num) (d1:Bool) (z1 w1:Num) (b2:Bool) (x2 y2:Num) (d2:Bool) (z2 w2:Num),
 v= .agg #[.int .i8 m.kind,.bool b1,.slice x1.A x1.n x1.c,.slice y1.A y1.n y1.c,.bool d1,.slice z1.A z1.n z1.c,.slice w1.A w1.n w1.c,.bool b2,.slice x2.A x2.n x2.c,.slice y2.A y2.n y2.c,.bool d2,.slice z2.A z2.n z2.c,.slice w2.A w2.n w2.c]/\PtTo V K m.fst.1 m.fst.2 b1 x1 y1 d1 z1 w1/\PtTo V K m.snd.1 m.snd.2 b2 x2 y2 d2 z2 w2
def PB (K:Nat)(q q':Rat)(u:Value)(v:Value)(V:World):Prop:=∃(b:Bool) (x y:Num) (d:Bool) (z w:Num),v= .tuple #[.agg #[.bool b,.slice x.A x.n x.c,.slice y.A y.n y.c,.bool d,.slice z.A z.n z.c,.slice w.A w.n w.c],u]/\PtTo V K q q' b x y d z w
theorem zvT {n:Nat}{ls:List (Tmp×Value)}{lb:List Bx}{w V:World}{e:List Num}{a:Act}{b d:Bool}{x y z u:Num}{q q':Rat}{K:Nat}(S:Frm n ls lb w e a V)(i:Nat)(h:IsQ q b x y)(h':IsQ q' d z u)(h1:x.n<=K)(h2:y.n<=K)(h3:z.n<=K)(h4:u.n<=K)(hi:(e.drop i).take 4=[x,y,z,u]:=by exact rfl):PtTo V K q q' b x y d z u:=
 have h5:∀z'∈[x,y,z,u],z'.ok V V.heap.size:=fun z' hz=>S.env.2 z' (List.mem_of_mem_drop (List.mem_of_mem_take (hi▸hz)))
 ⟨h,h',h1,h2,h3,h4,h5 _ (by simp),h5 _ (by simp),h5 _ (by simp),h5 _ (by simp)⟩
theorem zgS {n:Nat}{ls:List (Tmp×Value)}{lb:List Bx}{w V:World}{e:List Num}{a:Act}{b d:Bool}{x y z u:Num}{q q':Rat}{K:Nat}(S:Frm n ls lb w e a V)(i:Nat)(h:IsQ q b x y)(h':IsQ q' d z u)(h1:x.n<=K)(h2:y.n<=K)(h3:z.n<=K)(h4:u.n<=K)(hi:(e.drop i).take 4=[u,z,y,x]:=by exact rfl):PtTo V K q q' b x y d z u:=
 have h5:∀z'∈[u,z,y,x],z'.ok V V.heap.size:=fun z' hz=>S.env.2 z' (List.mem_of_mem_drop (List.mem_of_mem_take (hi▸hz)))
 ⟨h,h',h1,h2,h3,h4,h5 _ (by simp),h5 _ (by simp),h5 _ (by simp),h5 _ (by simp)⟩
theorem zbg {n:Nat}{ls:List (Tmp×Value)}{lb:List Bx}{w V:World}{e:List Num}{a:Act}{b d:Bool}{x y z u:Num}{q q':Rat}{K:Nat}(S:Frm n ls lb w e a V)(i:Nat)(h:qOf b x.N y.N=q)(h':qOf d z.N u.N=q')(h1:x.n<=K)(h2:y.n<=K)(h3:z.n<=K)(h4:u.n<=K)(hi:(e.drop i).take 4=[x,y,z,u]:=by exact rfl):PtOf V K q q' b x y d z u:=
 have h5:∀z'∈[x,y,z,u],z'.ok V V.heap.size:=fun z' hz=>S.env.2 z' (List.mem_of_mem_drop (List.mem_of_mem_take (hi▸hz)))
 ⟨h,h',h1,h2,h3,h4,h5 _ (by simp),h5 _ (by simp),h5 _ (by simp),h5 _ (by simp)⟩
theorem zvU {n:Nat}{ls:List (Tmp×Value)}{lb:List Bx}{w V:World}{e:List Num}{a:Act}{b d:Bool}{x y z u:Num}{q q':Rat}{K:Nat}(S:Frm n ls lb w e a V)(i:Nat)(h:qOf b x.N y.N=q)(h':qOf d z.N u.N=q')(h1:x.n<=K)(h2:y.n<=K)(h3:z.n<=K)(h4:u.n<=K)(hi:(e.drop i).take 4=[u,z,y,x]:=by exact rfl):PtOf V K q q' b x y d z u:=
 have h5:∀z'∈[u,z,y,x],z'.ok V V.heap.size:=fun z' hz=>S.env.2 z' (List.mem_of_mem_drop (List.mem_of_mem_take (hi▸hz)))
 ⟨h,h',h1,h2,h3,h4,h5 _ (by simp),h5 _ (by simp),h5 _ (by simp),h5 _ (by simp)⟩
theorem s1m {V:World}{K:Nat}{a c:QQ}{b1 d1 b2 d2:Bool}{x1 y1 z1 w1 x2 y2 z2 w2:Num}(h1:PtOf V K a.1 a.2 b1 x1 y1 d1 z1 w1)(h2:PtOf V K c.1 c.2 b2 x2 y2 d2 z2 w2):S1 K a c (aT b1 x1 y1 d1 z1 w1 b2 x2 y2 d2 z2 w2) V:=⟨_,_,_,_,_,_,_,_,_,_,_,_,rfl,h1,h2⟩
theorem mtm {V:World}{K:Nat}{m:Mt}{b1 d1 b2 d2:Bool}{x1 y1 z1 w1 x2 y2 z2 w2:Num}(h1:PtTo V K m.fst.1 m.fst.2 b1 x1 y1 d1 z1 w1)(h2:PtTo V K m.snd.1 m.snd.2 b2 x2 y2 d2 z2 w2):MT K m (aM m.kind b1 x1 y1 d1 z1 w1 b2 x2 y2 d2 z2 w2) V:=⟨_,_,_,_,_,_,_,_,_,_,_,_,rfl,h1,h2⟩
section
variable {K K':Nat}{q q' r r':Rat}{b:Bool}{x y:Num}{d:Bool}{z w:Num}{V V':World}{v u v1 v2:Value}{a c:QQ}{m:Mt}
theorem PtOf.keep (h:PtOf V K q q' b x y d z w)(hb:Below V.heap.size V V'):PtOf V' K q q' b x y d z w:=⟨h.hq,h.hq',h.kx,h.ky,h.kz,h.kw,h.ox.later hb,h.oy.later hb,h.oz.later hb,h.ow.later hb⟩
theorem PtTo.keep (h:PtTo V K q q' b x y d z w)(hb:Below V.heap.size V V'):PtTo V' K q q' b x y d z w:=⟨h.hq,h.hq',h.kx,h.ky,h.kz,h.kw,h.ox.later hb,h.oy.later hb,h.oz.later hb,h.ow.later hb⟩
theorem PtTo.to (h:PtTo V K q q' b x y d z w)(e:q=r)(e':q'=r')(hk:K<=K'):PtTo V K' r r' b x y d z w:=by subst e e';exact⟨h.hq,h.hq',zv2 h.kx hk,zv2 h.ky hk,zv2 h.kz hk,zv2 h.kw hk,h.ox,h.oy,h.oz,h.ow⟩
theorem PtOf.to (h:PtOf V K q q' b x y d z w)(e:q=r)(e':q'=r')(hk:K<=K'):PtOf V K' r r' b x y d z w:=by subst e e';exact⟨h.hq,h.hq',zv2 h.kx hk,zv2 h.ky hk,zv2 h.kz hk,zv2 h.kw hk,h.ox,h.oy,h.oz,h.ow⟩
theorem PtTo.lim (h:PtTo V K q q' b x y d z w)(h1:Sm K' q)(h2:Sm K' q'):PtTo V K' q q' b x y d z w:=⟨h.hq,h.hq',(zb0 h.hq h1).1,(zb0 h.hq h1).2,(zb0 h.hq' h2).1,(zb0 h.hq' h2).2,h.ox,h.oy,h.oz,h.ow⟩
theorem PtTo.pt (h:PtTo V K q q' b x y d z w):PT K q q' (.agg #[.bool b,.slice x.A x.n x.c,.slice y.A y.n y.c,.bool d,.slice z.A z.n z.c,.slice w.A w.n w.c]) V:=⟨b,x,y,d,z,w,rfl,h.hq,h.hq',⟨h.kx,h.ky⟩,⟨h.kz,h.kw⟩,⟨h.ox,h.oy⟩,h.oz,h.ow⟩
theorem PtOf.pt (h:PtOf V K q q' b x y d z w):P1 K q q' (.agg #[.bool b,.slice x.A x.n x.c,.slice y.A y.n y.c,.bool d,.slice z.A z.n z.c,.slice w.A w.n w.c]) V:=⟨b,x,y,d,z,w,rfl,h.hq,h.hq',⟨h.kx,h.ky⟩,⟨h.kz,h.kw⟩,⟨h.ox,h.oy⟩,h.oz,h.ow⟩
theorem PT.parts6 (h:PT K q q' v V):∃b x y d z w,v= .agg #[.bool b,.slice x.A x.n x.c,.slice y.A y.n y.c,.bool d,.slice z.A z.n z.c,.slice w.A w.n w.c]/\PtTo V K q q' b x y d z w:=by
 obtain⟨b,x,y,d,z,w,e,h1,h2,⟨h3,h4⟩,⟨h5,h6⟩,⟨h7,h8⟩,h9,h10⟩:=h
 exact⟨b,x,y,d,z,w,e,h1,h2,h3,h4,h5,h6,h7,h8,h9,h10⟩
theorem S1.keep (h:S1 K a c v V)(hb:Below V.heap.size V V'):S1 K a c v V':=by
 obtain⟨b1,x1,y1,d1,z1,w1,b2,x2,y2,d2,z2,w2,e,h1,h2⟩:=h
 exact⟨b1,x1,y1,d1,z1,w1,b2,x2,y2,d2,z2,w2,e,h1.keep hb,h2.keep hb⟩
theorem MT.keep (h:MT K m v V)(hb:Below V.heap.size V V'):MT K m v V':=by
 obtain⟨b1,x1,y1,d1,z1,w1,b2,x2,y2,d2,z2,w2,e,h1,h2⟩:=h
 exact⟨b1,x1,y1,d1,z1,w1,b2,x2,y2,d2,z2,w2,e,h1.keep hb,h2.keep hb⟩
theorem PB.keep (h:PB K q q' u v V)(hb:Below V.heap.size V V'):PB K q q' u v V':=by
 obtain⟨b1,x1,y1,d1,z1,w1,e,h1⟩:=h
 exact⟨b1,x1,y1,d1,z1,w1,e,h1.keep hb⟩
instance:Keeps (S1 K a c):=⟨fun h hb=>S1.keep h hb⟩
instance:Keeps (MT K m):=⟨fun h hb=>MT.keep h hb⟩
instance:Keeps (PB K q q' u):=⟨fun h hb=>PB.keep h hb⟩
theorem MT.to (h:MT K m v V)(hk:K<=K'):MT K' m v V:=by
 obtain⟨b1,x1,y1,d1,z1,w1,b2,x2,y2,d2,z2,w2,e,h1,h2⟩:=h
 exact⟨b1,x1,y1,d1,z1,w1,b2,x2,y2,d2,z2,w2,e,h1.to rfl rfl hk,h2.to rfl rfl hk⟩
theorem S1.to (h:S1 K a c v V)(hk:K<=K'):S1 K' a c v V:=by
 obtain⟨b1,x1,y1,d1,z1,w1,b2,x2,y2,d2,z2,w2,e,h1,h2⟩:=h
 exact⟨b1,x1,y1,d1,z1,w1,b2,x2,y2,d2,z2,w2,e,h1.to rfl rfl hk,h2.to rfl rfl hk⟩
theorem MT.of {m':Mt}(h:MT K m v V)(e:m=m'):MT K m' v V:=e▸h
theorem MT.lim (h:MT K m v V)(h1:Sm K' m.fst.1)(h2:Sm K' m.fst.2)(h3:Sm K' m.snd.1)(h4:Sm K' m.snd.2):MT K' m v V:=by
 obtain⟨b1,x1,y1,d1,z1,w1,b2,x2,y2,d2,z2,w2,e,g1,g2⟩:=h
 exact⟨b1,x1,y1,d1,z1,w1,b2,x2,y2,d2,z2,w2,e,g1.lim h1 h2,g2.lim h3 h4⟩
theorem PtOf.sm (h:PtOf V K q q' b x y d z w):Sm (max K 1) q/\Sm (max K 1) q':=h.pt.sm
theorem PtTo.sm (h:PtTo V K q q' b x y d z w):Sm (max K 1) q/\Sm (max K 1) q':=h.pt.any.sm
theorem S1.sm (h:S1 K a c v V):(Sm (max K 1) a.1/\Sm (max K 1) a.2)/\Sm (max K 1) c.1/\Sm (max K 1) c.2:=by
 obtain⟨b1,x1,y1,d1,z1,w1,b2,x2,y2,d2,z2,w2,e,h1,h2⟩:=h
 exact⟨h1.sm,h2.sm⟩
theorem MT.sm (h:MT K m v V):(Sm (max K 1) m.fst.1/\Sm (max K 1) m.fst.2)/\Sm (max K 1) m.snd.1/\Sm (max K 1) m.snd.2:=by
 obtain⟨b1,x1,y1,d1,z1,w1,b2,x2,y2,d2,z2,w2,e,h1,h2⟩:=h
 exact⟨h1.sm,h2.sm⟩
theorem zaw:(Tryz.prog.info? 70).map (·.size)=some 12:=by kernel_rfl
theorem zaZ:(Tryz.prog.info? 42).map (·.size)=some 13:=by kernel_rfl
theorem zbv (g:Nat):(Instr.fieldAt 70 (.pointer (some ⟨g,0,none⟩)) 0).run Tryz.prog V= .ok (.pointer (some ⟨g,0,none⟩)) V:=by go_simp
theorem zbw (g:Nat):(Instr.fieldAt 70 (.pointer (some ⟨g,0,none⟩)) 1).run Tryz.prog V= .ok (.pointer (some ⟨g,6,none⟩)) V:=by go_simp
theorem zb5 (g:Nat):(Instr.fieldAt 42 (.pointer (some ⟨g,0,none⟩)) 0).run Tryz.prog V= .ok (.pointer (some ⟨g,0,none⟩)) V:=by go_simp
theorem zbi (g:Nat):(Instr.fieldAt 42 (.pointer (some ⟨g,0,none⟩)) 1).run Tryz.prog V= .ok (.pointer (some ⟨g,1,none⟩)) V:=by go_simp
theorem zbj (g:Nat):(Instr.fieldAt 42 (.pointer (some ⟨g,0,none⟩)) 2).run Tryz.prog V= .ok (.pointer (some ⟨g,7,none⟩)) V:=by go_simp
end
def zjh (p s:PEl):List Value:=za9 p++za9 s
def zfL (k:Int)(p s:PEl):List Value:= .int .i8 k::(za9 p++za9 s)
section
variable {a:Act}{V:World}{o:Oper}{t0 t1 t2:Tmp}{p s:PEl}{k:Int}{X Y:Operand}{v v1 v2:Value}
theorem ztC (p s:PEl):(Instr.build 70 #[(0,.agg (za9 p).toArray),(1,.agg (za9 s).toArray)]).run Tryz.prog V= .ok (.agg (zjh p s).toArray) V:=by
 obtain⟨b0,x0,y0,d0,z0,w0⟩:=p
 obtain⟨b1,x1,y1,d1,z1,w1⟩:=s
 simp only[zjh,za9,List.cons_append,List.nil_append]
 go_simp
theorem zpE (p s:PEl):(Instr.build 42 #[(0,.int .i8 k),(1,.agg (za9 p).toArray),(2,.agg (za9 s).toArray)]).run Tryz.prog V= .ok (.agg (zfL k p s).toArray) V:=by
 obtain⟨b0,x0,y0,d0,z0,w0⟩:=p
 obtain⟨b1,x1,y1,d1,z1,w1⟩:=s
 simp only[zfL,za9,List.cons_append,List.nil_append]
 go_simp
theorem zrQ (p s:PEl):(Instr.build 42 #[(1,.agg (za9 p).toArray),(2,.agg (za9 s).toArray)]).run Tryz.prog V= .ok (.agg (zfL 0 p s).toArray) V:=by
 obtain⟨b0,x0,y0,d0,z0,w0⟩:=p
 obtain⟨b1,x1,y1,d1,z1,w1⟩:=s
 simp only[zfL,za9,List.cons_append,List.nil_append]
 go_simp
theorem zta (ho:o.op= .build 70 #[(0,.tmp t1),(1,.tmp t2)]) (h1:a.tmps.getD t1 undef= .agg (za9 p).toArray) (h2:a.tmps.getD t2 undef= .agg (za9 s).toArray):(execOp a.eval o).run Tryz.prog V= .ok (.value (.agg (zjh p s).toArray)) V:=
 zaU ho h1 h2 (ztC p s)
theorem zdZ {T:TypeId}{i j l:Nat}{v3:Value}(ho:o.op= .build T #[(i,X),(j,.tmp t1),(l,.tmp t2)])(h0:a.eval X=v3)(h1:a.tmps.getD t1 undef=v1)(h2:a.tmps.getD t2 undef=v2)(hr:(Instr.build T #[(i,v3),(j,v1),(l,v2)]).run Tryz.prog V= .ok v V):(execOp a.eval o).run Tryz.prog V= .ok (.value v) V:=by
 have e1:a.eval (.tmp t1)=v1:=h1
 have e2:a.eval (.tmp t2)=v2:=h2
 unfold execOp;simp only[ho,List.map_toArray,List.map_cons,List.map_nil,h0,e1,e2,Sem.run_bind,hr]
 rfl
theorem zuI (ho:o.op= .build 42 #[(0,X),(1,.tmp t1),(2,.tmp t2)]) (h0:a.eval X= .int .i8 k) (h1:a.tmps.getD t1 undef= .agg (za9 p).toArray) (h2:a.tmps.getD t2 undef= .agg (za9 s).toArray):(execOp a.eval o).run Tryz.prog V= .ok (.value (.agg (zfL k p s).toArray)) V:=
 zdZ ho h0 h1 h2 (zpE p s)
theorem zmO {K:Nat}{q q' r r':Rat}{m:Mt}(hk:k=m.kind)(f1:q=m.fst.1)(f2:q'=m.fst.2)(s1:r=m.snd.1)(s2:r'=m.snd.2)(h:PT K q q' v1 V)(h':PT K r r' v2 V):
  ∃v,(Instr.build 42 #[(0,.int .i8 k),(1,v1),(2,v2)]).run Tryz.prog V= .ok v V/\MT K m v V:=by
 subst hk f1 f2 s1 s2
 obtain⟨b,x,y,d,z,w,rfl,h1⟩:=h.parts6
 obtain⟨b2,x2,y2,d2,z2,w2,rfl,h2⟩:=h'.parts6
 exact⟨_,zpE (b,x,y,d,z,w) (b2,x2,y2,d2,z2,w2),b,x,y,d,z,w,b2,x2,y2,d2,z2,w2,rfl,h1,h2⟩
theorem zuJ {K:Nat}{q q' r r':Rat}{m:Mt}{b1:Bool}{x1 y1:Num}{d1:Bool}{z1 w1:Num}{b2:Bool}{x2 y2:Num}{d2:Bool}{z2 w2:Num}(hk:k=m.kind)(f1:q=m.fst.1)(f2:q'=m.fst.2)(s1:r=m.snd.1)(s2:r'=m.snd.2)(h1:PtTo V K q q' b1 x1 y1 d1 z1 w1)(h2:PtTo V K r r' b2 x2 y2 d2 z2 w2):
  MT K m (.agg #[.int .i8 k,.bool b1,.slice x1.A x1.n x1.c,.slice y1.A y1.n y1.c,.bool d1,.slice z1.A z1.n z1.c,.slice w1.A w1.n w1.c,.bool b2,.slice x2.A x2.n x2.c,.slice y2.A y2.n y2.c,.bool d2,.slice z2.A z2.n z2.c,.slice w2.A w2.n w2.c]) V:=by
 subst hk f1 f2 s1 s2
 exact⟨_,_,_,_,_,_,_,_,_,_,_,_,rfl,h1,h2⟩
theorem zmP {x y:Int}(ho:o.op= .binOp .eql 40 X Y 40) (h:a.eval X= .int .i8 x) (h':a.eval Y= .int .i8 y):(execOp a.eval o).run Tryz.prog V= .ok (.value (.bool (decide (x=y)))) V:=by
 obtain⟨dst,op,ty,pos,after,guard⟩:=o;simp only at ho;subst ho
 unfold execOp;simp only[h,h'];go_simp;rfl
theorem zji {x y:Int}(ho:o.op= .binOp .neq 40 X Y 40) (h:a.eval X= .int .i8 x) (h':a.eval Y= .int .i8 y):(execOp a.eval o).run Tryz.prog V= .ok (.value (.bool (!decide (x=y)))) V:=by
 obtain⟨dst,op,ty,pos,after,guard⟩:=o;simp only at ho;subst ho
 unfold execOp;simp only[h,h'];go_simp;rfl
theorem zpF {f:FuncId}{t3 t4:Tmp}{v3 v4:Value}(hop:∃ts,o.op= .call { callee:= .value (.func f),args:= #[.tmp t1,.tmp t2,.tmp t3,.tmp t4],argTypes:=ts })(h1:a.tmps.getD t1 undef=v1)(h2:a.tmps.getD t2 undef=v2)(h3:a.tmps.getD t3 undef=v3)(h4:a.tmps.getD t4 undef=v4)(en:∀args w,(callFunc f args).run Tryz.prog w= .ok (.enter f args) w):(execOp a.eval o).run Tryz.prog V= .ok (.enter f #[v1,v2,v3,v4]) V:=by
 rw[zae]at h1 h2 h3 h4
 obtain⟨dst,op,ty,pos,after,guard⟩:=o
 obtain⟨ts,hop⟩:=hop
 simp only at hop
 subst hop
 have:=en #[v1,v2,v3,v4] V
 go_simp
theorem rc4 {f : FuncId} {fn : Func} {cd : Code} {t3 t4 : Tmp} {v3 v4 : Value} (hf : Tryz.prog.funcs[f]? = some fn) (h1 : a.tmps.getD t1 undef = v1) (h2 : a.tmps.getD t2 undef = v2) (h3 : a.tmps.getD t3 undef = v3) (h4 : a.tmps.getD t4 undef = v4) (hop : ∃ ts, o.op = .call { callee := .value (.func f), args := #[.tmp t1, .tmp t2, .tmp t3, .tmp t4], argTypes := ts } := by exact ⟨_, rfl⟩) (hn : (fn.name == "runtime.NumGoroutine") = false := by kernel_rfl) (hb : fn.body = some cd := by exact rfl) : (execOp a.eval o).run Tryz.prog V = .ok (.enter f #[v1, v2, v3, v4]) V := zpF hop h1 h2 h3 h4 (enters_of hf hn hb)
end
section
variable {a b c d:QQ}{q1 q1' q2 q2':Rat}
theorem zhu (h:decide (za0 q1 q1' q2 q2'=0)=true):1=(zbM (q1,q1') (q2,q2')).kind/\q1=(zbM (q1,q1') (q2,q2')).fst.1/\q1'=(zbM (q1,q1') (q2,q2')).fst.2/\q2=(zbM (q1,q1') (q2,q2')).snd.1/\q2'=(zbM (q1,q1') (q2,q2')).snd.2:=by
 have e:=of_decide_eq_true h
 unfold zbM
 rw[if_pos e]
 obtain⟨e1,e2⟩:=zeP.1 e
 exact⟨rfl,rfl,rfl,e1.symm,e2.symm⟩
theorem zhv (h:decide (za0 q1 q1' q2 q2'=0)=false):2=(zbM (q1,q1') (q2,q2')).kind/\q1=(zbM (q1,q1') (q2,q2')).fst.1/\q1'=(zbM (q1,q1') (q2,q2')).fst.2/\q2=(zbM (q1,q1') (q2,q2')).snd.1/\q2'=(zbM (q1,q1') (q2,q2')).snd.2:=by
 unfold zbM
 rw[if_neg (of_decide_eq_false h)]
 exact⟨rfl,rfl,rfl,rfl,rfl⟩
theorem zdt (h:(!zbC a b c d)=true):0=(zcJ a b c d).kind/\((0:Int):Rat)=(zcJ a b c d).fst.1/\((0:Int):Rat)=(zcJ a b c d).fst.2/\((0:Int):Rat)=(zcJ a b c d).snd.1/\((0:Int):Rat)=(zcJ a b c d).snd.2:=by
 unfold zcJ
 rw[if_neg (show¬zbC a b c d=true by simpa using h)]
 exact⟨rfl,rfl,rfl,rfl,rfl⟩
theorem zlN (h:(!zbC a b c d)=false)(h2:decide (den a b c d≠0)=true):zbM (zcx a b c d) (zcx a b c d)=zcJ a b c d:=by
 have e:=of_decide_eq_true h2
 unfold zcJ zcx
 rw[if_pos (show zbC a b c d=true by simpa using h),if_pos e,if_neg e]
theorem zkr (h:(!zbC a b c d)=false)(h2:decide (den a b c d≠0)=false):zbM (zb4 a c) (zbe b d)=zcJ a b c d:=by
 have e:=of_decide_eq_false h2
 unfold zcJ
 rw[if_pos (show zbC a b c d=true by simpa using h),if_neg e]
end
theorem zmQ {K:Nat}{q1 q1' q2 q2':Rat}{v1 v2:Value}{V:World}(T:TT V)(h1:P1 K (q1) (q1') v1 V)(h2:P1 K (q2) (q2') v2 V)(hK0:K<=400:=by omega):
  Calls Tryz.prog 53 #[v1,v2] V (zaf V (S1 K (spL (q1,q1') (q2,q2')) (spH (q1,q1') (q2,q2')))):=by
 obtain⟨b1,x1,y1,b2,x2,y2,rfl,hq1,hq2,⟨hk1,hk2⟩,⟨hk3,hk4⟩,⟨ok1,ok2⟩,ok3,ok4⟩:=h1
 obtain⟨b3,x3,y3,b4,x4,y4,rfl,hq3,hq4,⟨hk5,hk6⟩,⟨hk7,hk8⟩,⟨ok5,ok6⟩,ok7,ok8⟩:=h2
 have hp0:=fun {V':World}=>p1m (V:=V') hq1 hq2 hk1 hk2 hk3 hk4
 have hp1:=fun {V':World}=>p1m (V:=V') hq3 hq4 hk5 hk6 hk7 hk8
 refine fb Tryz.func53 Tryz.ntmps53 (zaa ok5 (zaa ok6 (zaa ok7 (zaa ok8 (zaa ok1 (zaa ok2 (zaa ok3 (zaa ok4 zau)))))))) (fun a S=>?_)
 refine wsp fun K1 hK1=>?_
 refine tb S 0 (lP b1 x1 y1 b2 x2 y2) fun g1 a V1 hgg1 S=>?_
 refine tb S 2 (lP b3 x3 y3 b4 x4 y4) fun g2 a V2 hgg2 S=>?_
 refine ti S (cs:=[.bool false,.slice none 0 0,.slice none 0 0,.bool false,.slice none 0 0,.slice none 0 0,.bool false,.slice none 0 0,.slice none 0 0,.bool false,.slice none 0 0,.slice none 0 0]) (zam rfl (Tryz.zeroValue70 _) rfl) (fun g3=>[⟨g1,29,(lP b1 x1 y1 b2 x2 y2)⟩,⟨g2,29,(lP b3 x3 y3 b4 x4 y4)⟩,⟨g3,70,[.bool false,.slice none 0 0,.slice none 0 0,.bool false,.slice none 0 0,.slice none 0 0,.bool false,.slice none 0 0,.slice none 0 0,.bool false,.slice none 0 0,.slice none 0 0]⟩]) fun g3 a V3 hgg3 S=>?_
 refine hK1 _ _ ?_
 refine wp_seq_k fun K2 hK2=>?_
 refine wsp fun K3 hK3=>?_
 refine lp S 2 0 fun a S=>?_
 refine lp S 2 1 fun a S=>?_
 refine tc S (rc2 Tryz.func63 (S.at 1 rfl) (S.at 0 rfl)) (zsW (T.keep S.below) (p4 S 4 hp0) (p4 S 0 hp1)) fun v a V4 hF hb S=>?_
 subst hF
 refine tv S (zcp rfl (S.at 0 rfl) rfl) fun a S=>?_
 refine hK3 _ _ ?_
 rcases zv9 (decide (0<za0 q1 (q1') q2 (q2')))with hc8|hc8
 ·refine wp_cond_true ((S.at 0 rfl).trans (congrArg Value.bool hc8)) ?_
  refine zaD ?_
  refine lp S 5 1 fun a S=>?_
  refine lp S 7 0 fun a S=>?_
  refine sto S 0 (fun ht=>zaj rfl (S.at 8 rfl) (S.at 1 rfl) zaR rfl (zvZ rfl) ht) fun V5 S=>?_
  refine sto S 1 (fun ht=>zaj rfl (S.at 7 rfl) (S.at 0 rfl) zaR rfl (zvZ rfl) ht) fun V6 S=>?_
  refine hK2 _ _ ?_
  refine wsp fun K4 hK4=>?_
  refine lp S 8 0 fun a S=>?_
  refine lp S 8 1 fun a S=>?_
  refine tv S (zta (p:=(b3,x3,y3,b4,x4,y4)) (s:=(b1,x1,y1,b2,x2,y2)) rfl (S.at 1 rfl) (S.at 0 rfl)) fun a S=>?_
  refine sto S 2 (fun ht=>zaj rfl (S.at 9 rfl) (S.at 0 rfl) zaw rfl (zvZ rfl) ht) fun V7 S=>?_
  refine hK4 _ _ ?_
  refine wp_ret ?_
  exact zar rfl S (S.at 9 rfl) (i:=2) rfl Tryz.underlying70 rfl zaw ⟨_,rfl,⟨b3,x3,y3,b4,x4,y4,b1,x1,y1,b2,x2,y2,rfl,(PtOf.to (q:=q2) (q':=q2') (V:=V7) ⟨hq3,hq4,hk5,hk6,hk7,hk8,(S.num 0 rfl),(S.num 1 rfl),(S.num 2 rfl),(S.num 3 rfl)⟩ (zs6 hc8).1 (zs6 hc8).2 zv0),(PtOf.to (q:=q1) (q':=q1') (V:=V7) ⟨hq1,hq2,hk1,hk2,hk3,hk4,(S.num 4 rfl),(S.num 5 rfl),(S.num 6 rfl),(S.num 7 rfl)⟩ (zs8 hc8).1 (zs8 hc8).2 zv0)⟩,S.below⟩
 ·refine wp_cond_false ((S.at 0 rfl).trans (congrArg Value.bool hc8)) ?_
  refine wp_skip ?_
  refine hK2 _ _ ?_
  refine wsp fun K5 hK5=>?_
  refine lp S 6 0 fun a S=>?_
  refine lp S 6 1 fun a S=>?_
  refine tv S (zta (p:=(b1,x1,y1,b2,x2,y2)) (s:=(b3,x3,y3,b4,x4,y4)) rfl (S.at 1 rfl) (S.at 0 rfl)) fun a S=>?_
  refine sto S 2 (fun ht=>zaj rfl (S.at 7 rfl) (S.at 0 rfl) zaw rfl (zvZ rfl) ht) fun V8 S=>?_
  refine hK5 _ _ ?_
  refine wp_ret ?_
  exact zar rfl S (S.at 7 rfl) (i:=2) rfl Tryz.underlying70 rfl zaw ⟨_,rfl,⟨b1,x1,y1,b2,x2,y2,b3,x3,y3,b4,x4,y4,rfl,(PtOf.to (q:=q1) (q':=q1') (V:=V8) ⟨hq1,hq2,hk1,hk2,hk3,hk4,(S.num 4 rfl),(S.num 5 rfl),(S.num 6 rfl),(S.num 7 rfl)⟩ (zs7 hc8).1 (zs7 hc8).2 zv0),(PtOf.to (q:=q2) (q':=q2') (V:=V8) ⟨hq3,hq4,hk5,hk6,hk7,hk8,(S.num 0 rfl),(S.num 1 rfl),(S.num 2 rfl),(S.num 3 rfl)⟩ (zs9 hc8).1 (zs9 hc8).2 zv0)⟩,S.below⟩
theorem ztD {K:Nat}{q1 q1' q2 q2':Rat}{v1 v2:Value}{V:World}(T:TT V)(h1:P1 K (q1) (q1') v1 V)(h2:P1 K (q2) (q2') v2 V)(hK0:K<=400):
  Calls Tryz.prog 96 #[v1,v2] V (zaf V (P1 K (zb4 (q1,q1') (q2,q2')).1 (zb4 (q1,q1') (q2,q2')).2)):=by
 obtain⟨b1,x1,y1,b2,x2,y2,rfl,hq1,hq2,⟨hk1,hk2⟩,⟨hk3,hk4⟩,⟨ok1,ok2⟩,ok3,ok4⟩:=h1
 obtain⟨b3,x3,y3,b4,x4,y4,rfl,hq3,hq4,⟨hk5,hk6⟩,⟨hk7,hk8⟩,⟨ok5,ok6⟩,ok7,ok8⟩:=h2
 have hp0:=fun {V':World}=>p1m (V:=V') hq1 hq2 hk1 hk2 hk3 hk4
 have hp1:=fun {V':World}=>p1m (V:=V') hq3 hq4 hk5 hk6 hk7 hk8
 refine fb Tryz.func96 Tryz.ntmps96 (zaa ok5 (zaa ok6 (zaa ok7 (zaa ok8 (zaa ok1 (zaa ok2 (zaa ok3 (zaa ok4 zau)))))))) (fun a S=>?_)
 refine wsp fun K1 hK1=>?_
 refine tb S 0 (lP b1 x1 y1 b2 x2 y2) fun g1 a V1 hgg1 S=>?_
 refine tb S 2 (lP b3 x3 y3 b4 x4 y4) fun g2 a V2 hgg2 S=>?_
 refine ti S (cs:=lY) (zam rfl (Tryz.zeroValue29 _) rfl) (fun g3=>[⟨g1,29,(lP b1 x1 y1 b2 x2 y2)⟩,⟨g2,29,(lP b3 x3 y3 b4 x4 y4)⟩,⟨g3,29,lY⟩]) fun g3 a V3 hgg3 S=>?_
 refine hK1 _ _ ?_
 refine wp_seq_k fun K2 hK2=>?_
 refine wsp fun K3 hK3=>?_
 refine lp S 2 0 fun a S=>?_
 refine lp S 2 1 fun a S=>?_
 refine tc S (rc2 Tryz.func63 (S.at 1 rfl) (S.at 0 rfl)) (zsW (T.keep S.below) (p4 S 4 hp0) (p4 S 0 hp1)) fun v a V4 hF hb S=>?_
 subst hF
 refine tv S (zc9 rfl (S.at 0 rfl) rfl) fun a S=>?_
 refine hK3 _ _ ?_
 rcases zv9 (decide (za0 q1 (q1') q2 (q2')<0))with hc8|hc8
 ·refine wp_cond_true ((S.at 0 rfl).trans (congrArg Value.bool hc8)) ?_
  refine wsp fun K4 hK4=>?_
  refine lp S 5 1 fun a S=>?_
  refine sto S 2 (fun ht=>zaj rfl (S.at 5 rfl) (S.at 0 rfl) zaR rfl (zvZ rfl) ht) fun V5 S=>?_
  refine hK4 _ _ ?_
  refine wp_ret ?_
  exact zar rfl S (S.at 5 rfl) (i:=2) rfl Tryz.underlying29 rfl zaR ⟨_,rfl,(P1.to (q:=q2) (q':=q2') (p4 S 0 hp1) (zkp hc8).1 (zkp hc8).2 (by omega)),S.below⟩
 ·refine wp_cond_false ((S.at 0 rfl).trans (congrArg Value.bool hc8)) ?_
  refine wp_skip ?_
  refine hK2 _ _ ?_
  refine wsp fun K5 hK5=>?_
  refine lp S 6 0 fun a S=>?_
  refine sto S 2 (fun ht=>zaj rfl (S.at 5 rfl) (S.at 0 rfl) zaR rfl (zvZ rfl) ht) fun V6 S=>?_
  refine hK5 _ _ ?_
  refine wp_ret ?_
  exact zar rfl S (S.at 5 rfl) (i:=2) rfl Tryz.underlying29 rfl zaR ⟨_,rfl,(P1.to (q:=q1) (q':=q1') (p4 S 4 hp0) (zkq hc8).1 (zkq hc8).2 (by omega)),S.below⟩
theorem zpG {K:Nat}{q1 q1' q2 q2':Rat}{v1 v2:Value}{V:World}(T:TT V)(h1:P1 K (q1) (q1') v1 V)(h2:P1 K (q2) (q2') v2 V)(hK0:K<=400):
  Calls Tryz.prog 97 #[v1,v2] V (zaf V (P1 K (zbe (q1,q1') (q2,q2')).1 (zbe (q1,q1') (q2,q2')).2)):=by
 obtain⟨b1,x1,y1,b2,x2,y2,rfl,hq1,hq2,⟨hk1,hk2⟩,⟨hk3,hk4⟩,⟨ok1,ok2⟩,ok3,ok4⟩:=h1
 obtain⟨b3,x3,y3,b4,x4,y4,rfl,hq3,hq4,⟨hk5,hk6⟩,⟨hk7,hk8⟩,⟨ok5,ok6⟩,ok7,ok8⟩:=h2
 have hp0:=fun {V':World}=>p1m (V:=V') hq1 hq2 hk1 hk2 hk3 hk4
 have hp1:=fun {V':World}=>p1m (V:=V') hq3 hq4 hk5 hk6 hk7 hk8
 refine fb Tryz.func97 Tryz.ntmps97 (zaa ok5 (zaa ok6 (zaa ok7 (zaa ok8 (zaa ok1 (zaa ok2 (zaa ok3 (zaa ok4 zau)))))))) (fun a S=>?_)
 refine wsp fun K1 hK1=>?_
 refine tb S 0 (lP b1 x1 y1 b2 x2 y2) fun g1 a V1 hgg1 S=>?_
 refine tb S 2 (lP b3 x3 y3 b4 x4 y4) fun g2 a V2 hgg2 S=>?_
 refine ti S (cs:=lY) (zam rfl (Tryz.zeroValue29 _) rfl) (fun g3=>[⟨g1,29,(lP b1 x1 y1 b2 x2 y2)⟩,⟨g2,29,(lP b3 x3 y3 b4 x4 y4)⟩,⟨g3,29,lY⟩]) fun g3 a V3 hgg3 S=>?_
 refine hK1 _ _ ?_
 refine wp_seq_k fun K2 hK2=>?_
 refine wsp fun K3 hK3=>?_
 refine lp S 2 0 fun a S=>?_
 refine lp S 2 1 fun a S=>?_
 refine tc S (rc2 Tryz.func63 (S.at 1 rfl) (S.at 0 rfl)) (zsW (T.keep S.below) (p4 S 4 hp0) (p4 S 0 hp1)) fun v a V4 hF hb S=>?_
 subst hF
 refine tv S (zcp rfl (S.at 0 rfl) rfl) fun a S=>?_
 refine hK3 _ _ ?_
 rcases zv9 (decide (0<za0 q1 (q1') q2 (q2')))with hc8|hc8
 ·refine wp_cond_true ((S.at 0 rfl).trans (congrArg Value.bool hc8)) ?_
  refine wsp fun K4 hK4=>?_
  refine lp S 5 1 fun a S=>?_
  refine sto S 2 (fun ht=>zaj rfl (S.at 5 rfl) (S.at 0 rfl) zaR rfl (zvZ rfl) ht) fun V5 S=>?_
  refine hK4 _ _ ?_
  refine wp_ret ?_
  exact zar rfl S (S.at 5 rfl) (i:=2) rfl Tryz.underlying29 rfl zaR ⟨_,rfl,(P1.to (q:=q2) (q':=q2') (p4 S 0 hp1) (zhs hc8).1 (zhs hc8).2 (by omega)),S.below⟩
 ·refine wp_cond_false ((S.at 0 rfl).trans (congrArg Value.bool hc8)) ?_
  refine wp_skip ?_
  refine hK2 _ _ ?_
  refine wsp fun K5 hK5=>?_
  refine lp S 6 0 fun a S=>?_
  refine sto S 2 (fun ht=>zaj rfl (S.at 5 rfl) (S.at 0 rfl) zaR rfl (zvZ rfl) ht) fun V6 S=>?_
  refine hK5 _ _ ?_
  refine wp_ret ?_
  exact zar rfl S (S.at 5 rfl) (i:=2) rfl Tryz.underlying29 rfl zaR ⟨_,rfl,(P1.to (q:=q1) (q':=q1') (p4 S 4 hp0) (zht hc8).1 (zht hc8).2 (by omega)),S.below⟩
theorem zeb {K K':Nat}{u1 u2 u3 u4:QQ}{v1 v2:Value}{V:World}(T:TT V)(h1:S1 K (u1) (u2) v1 V)(h2:S1 K' (u3) (u4) v2 V)(hK0:K<=400:=by omega)(hK1:K'<=400:=by omega):
  Calls Tryz.prog 61 #[v1,v2] V (zaf V (fun v _=>v= .bool (zge u2 u3))):=by
 obtain⟨b1,x1,y1,b2,x2,y2,b3,x3,y3,b4,x4,y4,rfl,⟨hq1,hq2,hk1,hk2,hk3,hk4,ok1,ok2,ok3,ok4⟩,⟨hq3,hq4,hk5,hk6,hk7,hk8,ok5,ok6,ok7,ok8⟩⟩:=h1
 obtain⟨b5,x5,y5,b6,x6,y6,b7,x7,y7,b8,x8,y8,rfl,⟨hq5,hq6,hk9,hk10,hk11,hk12,ok9,ok10,ok11,ok12⟩,⟨hq7,hq8,hk13,hk14,hk15,hk16,ok13,ok14,ok15,ok16⟩⟩:=h2
 refine fb Tryz.func61 Tryz.ntmps61 (zaa ok9 (zaa ok10 (zaa ok11 (zaa ok12 (zaa ok13 (zaa ok14 (zaa ok15 (zaa ok16 (zaa ok1 (zaa ok2 (zaa ok3 (zaa ok4 (zaa ok5 (zaa ok6 (zaa ok7 (zaa ok8 zau)))))))))))))))) (fun a S=>?_)
 refine wsp fun K1 hK1=>?_
 refine tb S 0 (lT b1 x1 y1 b2 x2 y2 b3 x3 y3 b4 x4 y4) fun g1 a V1 hgg1 S=>?_
 refine tb S 2 (lT b5 x5 y5 b6 x6 y6 b7 x7 y7 b8 x8 y8) fun g2 a V2 hgg2 S=>?_
 refine ac S fun a S=>?_
 refine hK1 _ _ ?_
 refine wsp fun K2 hK2=>?_
 refine tv S (zab rfl (S.at 2 rfl) (zbw _)) fun a S=>?_
 refine lp S 0 0 fun a S=>?_
 refine tv S (zab rfl (S.at 3 rfl) (zbv _)) fun a S=>?_
 refine lp S 0 1 fun a S=>?_
 refine tc S (rc2 Tryz.func63 (S.at 2 rfl) (S.at 0 rfl)) (zsW (T.keep S.below) (zcS S 12 hq3 hq4 hk5 hk6 hk7 hk8) (zcS S 0 hq5 hq6 hk9 hk10 hk11 hk12)) fun v a V3 hF hb S=>?_
 subst hF
 refine tv S (zc9 rfl (S.at 0 rfl) rfl) fun a S=>?_
 refine av S (zak rfl (S.at 0 rfl)) fun a S=>?_
 refine hK2 _ _ ?_
 refine wp_ret ?_
 exact zay rfl S (S.at 0 rfl) ⟨_,rfl,rfl,S.below⟩
theorem zfM {K K':Nat}{u1 u2 u3 u4:QQ}{v1 v2:Value}{V:World}(T:TT V)(h1:S1 K (u1) (u2) v1 V)(h2:S1 K' (u3) (u4) v2 V)(hK0:K<=10:=by omega)(hK1:K'<=10:=by omega):
  Calls Tryz.prog 99 #[v1,v2] V (zaf V (fun v _=>v= .bool (zea u1 u2 u3 u4))):=by
 obtain⟨⟨mu1,mu12⟩,mu2,mu22⟩:=h1.sm
 obtain⟨⟨mu3,mu32⟩,mu4,mu42⟩:=h2.sm
 have du2u1:Sm 250 (u2.1 - u1.1):=(mu2.sub mu1).mono (by omega)
 have du2u12:Sm 250 (u2.2 - u1.2):=(mu22.sub mu12).mono (by omega)
 have du3u1:Sm 250 (u3.1 - u1.1):=(mu3.sub mu1).mono (by omega)
 have du3u12:Sm 250 (u3.2 - u1.2):=(mu32.sub mu12).mono (by omega)
 have du4u1:Sm 250 (u4.1 - u1.1):=(mu4.sub mu1).mono (by omega)
 have du4u12:Sm 250 (u4.2 - u1.2):=(mu42.sub mu12).mono (by omega)
 obtain⟨b1,x1,y1,b2,x2,y2,b3,x3,y3,b4,x4,y4,rfl,⟨hq1,hq2,hk1,hk2,hk3,hk4,ok1,ok2,ok3,ok4⟩,⟨hq3,hq4,hk5,hk6,hk7,hk8,ok5,ok6,ok7,ok8⟩⟩:=h1
 obtain⟨b5,x5,y5,b6,x6,y6,b7,x7,y7,b8,x8,y8,rfl,⟨hq5,hq6,hk9,hk10,hk11,hk12,ok9,ok10,ok11,ok12⟩,⟨hq7,hq8,hk13,hk14,hk15,hk16,ok13,ok14,ok15,ok16⟩⟩:=h2
 refine fb Tryz.func99 Tryz.ntmps99 (zaa ok9 (zaa ok10 (zaa ok11 (zaa ok12 (zaa ok13 (zaa ok14 (zaa ok15 (zaa ok16 (zaa ok1 (zaa ok2 (zaa ok3 (zaa ok4 (zaa ok5 (zaa ok6 (zaa ok7 (zaa ok8 zau)))))))))))))))) (fun a S=>?_)
 refine wsp fun K1 hK1=>?_
 refine tb S 0 (lT b1 x1 y1 b2 x2 y2 b3 x3 y3 b4 x4 y4) fun g1 a V1 hgg1 S=>?_
 refine tb S 2 (lT b5 x5 y5 b6 x6 y6 b7 x7 y7 b8 x8 y8) fun g2 a V2 hgg2 S=>?_
 refine ac S fun a S=>?_
 refine hK1 _ _ ?_
 refine wp_seq_k fun K2 hK2=>?_
 have S:=S.keep [4,3,2] (ls':=[(4,.bool false),(3,pT g2 0),(2,pT g1 0)]) rfl
 obtain⟨W1,hW1⟩:∃W,W=V2:=⟨_,rfl⟩
 rw[<-hW1]at S ⊢
 have S0:=S
 refine fr 16 [5,6,7,8,9,10,11,12,13,14,15,16,17,18,19,20] [IsV (pT g1 0),IsV ((aP b1 x1 y1 b2 x2 y2)),IsV (pT g1 6),IsV ((aP b3 x3 y3 b4 x4 y4)),IsV (pT g2 0),IsV ((aP b5 x5 y5 b6 x6 y6)),iI ((zan (crs u1.1 u1.2 u2.1 u2.2 u3.1 u3.2) 0)),IsV (pT g1 0),IsV ((aP b1 x1 y1 b2 x2 y2)),IsV (pT g1 6),IsV ((aP b3 x3 y3 b4 x4 y4)),IsV (pT g2 6),IsV ((aP b7 x7 y7 b8 x8 y8)),iI ((zan (crs u1.1 u1.2 u2.1 u2.2 u4.1 u4.2) 0)),iI (((zan (crs u1.1 u1.2 u2.1 u2.2 u3.1 u3.2) 0)*(zan (crs u1.1 u1.2 u2.1 u2.2 u4.1 u4.2) 0))),IsV (.bool (decide (0<(zan (crs u1.1 u1.2 u2.1 u2.2 u3.1 u3.2) 0)*(zan (crs u1.1 u1.2 u2.1 u2.2 u4.1 u4.2) 0))))] S ?_ ?_
 ·refine sc (fun _ _ S _ _=>sv rfl (zab rfl (S.at 2 rfl) (zbv _))) ?_
  refine sc (fun _ _ S _ hd=>sv rfl (zaL rfl (hd.v 0 rfl rfl) (S.bx 0 rfl) rfl)) ?_
  refine sc (fun _ _ S _ _=>sv rfl (zab rfl (S.at 2 rfl) (zbw _))) ?_
  refine sc (fun _ _ S _ hd=>sv rfl (zaL rfl (hd.v 2 rfl rfl) (S.bx 0 rfl) rfl)) ?_
  refine sc (fun _ _ S _ _=>sv rfl (zab rfl (S.at 1 rfl) (zbv _))) ?_
  refine sc (fun _ _ S _ hd=>sv rfl (zaL rfl (hd.v 4 rfl rfl) (S.bx 1 rfl) rfl)) ?_
  refine sc (fun _ _ S _ hd=>sl rfl (rc3 Tryz.func131 (hd.v 1 rfl rfl) (hd.v 3 rfl rfl) (hd.v 5 rfl rfl)) (zrh (T.keep S.below) (zcS S 8 hq1 hq2 hk1 hk2 hk3 hk4) (zcS S 12 hq3 hq4 hk5 hk6 hk7 hk8) (zcS S 0 hq5 hq6 hk9 hk10 hk11 hk12) (by omega) (by omega) (by omega) (by assumption) (by assumption) (by assumption) (by assumption))) ?_
  refine sc (fun _ _ S _ _=>sv rfl (zab rfl (S.at 2 rfl) (zbv _))) ?_
  refine sc (fun _ _ S _ hd=>sv rfl (zaL rfl (hd.v 7 rfl rfl) (S.bx 0 rfl) rfl)) ?_
  refine sc (fun _ _ S _ _=>sv rfl (zab rfl (S.at 2 rfl) (zbw _))) ?_
  refine sc (fun _ _ S _ hd=>sv rfl (zaL rfl (hd.v 9 rfl rfl) (S.bx 0 rfl) rfl)) ?_
  refine sc (fun _ _ S _ _=>sv rfl (zab rfl (S.at 1 rfl) (zbw _))) ?_
  refine sc (fun _ _ S _ hd=>sv rfl (zaL rfl (hd.v 11 rfl rfl) (S.bx 1 rfl) rfl)) ?_
  refine sc (fun _ _ S _ hd=>sl rfl (rc3 Tryz.func131 (hd.v 8 rfl rfl) (hd.v 10 rfl rfl) (hd.v 12 rfl rfl)) (zrh (T.keep S.below) (zcS S 8 hq1 hq2 hk1 hk2 hk3 hk4) (zcS S 12 hq3 hq4 hk5 hk6 hk7 hk8) (zcS S 4 hq7 hq8 hk13 hk14 hk15 hk16) (by omega) (by omega) (by omega) (by assumption) (by assumption) (by assumption) (by assumption))) ?_
  refine sc (fun _ _ _ _ hd=>sv rfl (zdO rfl (hd.v 6 rfl rfl) (hd.v 13 rfl rfl) (zdP _ _ _ _))) ?_
  refine sc (fun _ _ _ _ hd=>sv rfl (zcp rfl (hd.v 14 rfl rfl) rfl)) ?_
  exact sn
 ·intro a1 V3 S hB hf
  have S:=S.add (hf.v 15 rfl rfl)
  clear hf S0
  show wpList _ _ _ [_] _ _
  refine av S (zak rfl (S.at 0 rfl)) fun a S=>?_
  refine hK2 _ _ ?_
  refine wp_ret ?_
  exact zay rfl S (S.at 0 rfl) ⟨_,rfl,rfl,S.below⟩
theorem zpH {K K':Nat}{u1 u2 u3 u4:QQ}{v1 v2:Value}{V:World}(T:TT V)(h1:S1 K (u1) (u2) v1 V)(h2:S1 K' (u3) (u4) v2 V)(hK0:K<=10:=by omega)(hK1:K'<=10:=by omega):
  Calls Tryz.prog 57 #[v1,v2] V (zaf V (fun v _=>v= .bool (zbC u1 u2 u3 u4))):=by
 obtain⟨b1,x1,y1,b2,x2,y2,b3,x3,y3,b4,x4,y4,rfl,⟨hq1,hq2,hk1,hk2,hk3,hk4,ok1,ok2,ok3,ok4⟩,⟨hq3,hq4,hk5,hk6,hk7,hk8,ok5,ok6,ok7,ok8⟩⟩:=h1
 obtain⟨b5,x5,y5,b6,x6,y6,b7,x7,y7,b8,x8,y8,rfl,⟨hq5,hq6,hk9,hk10,hk11,hk12,ok9,ok10,ok11,ok12⟩,⟨hq7,hq8,hk13,hk14,hk15,hk16,ok13,ok14,ok15,ok16⟩⟩:=h2
 refine fb Tryz.func57 Tryz.ntmps57 (zaa ok9 (zaa ok10 (zaa ok11 (zaa ok12 (zaa ok13 (zaa ok14 (zaa ok15 (zaa ok16 (zaa ok1 (zaa ok2 (zaa ok3 (zaa ok4 (zaa ok5 (zaa ok6 (zaa ok7 (zaa ok8 zau)))))))))))))))) (fun a S=>?_)
 refine wsp fun K1 hK1=>?_
 refine tb S 0 (lT b1 x1 y1 b2 x2 y2 b3 x3 y3 b4 x4 y4) fun g1 a V1 hgg1 S=>?_
 refine tb S 2 (lT b5 x5 y5 b6 x6 y6 b7 x7 y7 b8 x8 y8) fun g2 a V2 hgg2 S=>?_
 refine ac S fun a S=>?_
 refine hK1 _ _ ?_
 refine wp_seq_k fun K2 hK2=>?_
 rcases zv9 (zge u2 u3)with hs1_|hs1_
 ·skip
  refine zaD ?_
  refine tv S (zad rfl (S.at 2 rfl) (S.bx 0 rfl) Tryz.underlying70 rfl (vs:=(lT b1 x1 y1 b2 x2 y2 b3 x3 y3 b4 x4 y4)) zaw rfl) fun a S=>?_
  refine tv S (zad rfl (S.at 2 rfl) (S.bx 1 rfl) Tryz.underlying70 rfl (vs:=(lT b5 x5 y5 b6 x6 y6 b7 x7 y7 b8 x8 y8)) zaw rfl) fun a S=>?_
  refine tc S (rc2 Tryz.func61 (S.at 1 rfl) (S.at 0 rfl)) (gtr (zeb (T.keep S.below) (show S1 K (u1) (u2) _ _ from s1m (zbg S 8 hq1 hq2 hk1 hk2 hk3 hk4) (zbg S 12 hq3 hq4 hk5 hk6 hk7 hk8)) (show S1 K' (u3) (u4) _ _ from s1m (zbg S 0 hq5 hq6 hk9 hk10 hk11 hk12) (zbg S 4 hq7 hq8 hk13 hk14 hk15 hk16))) hs1_) fun v a V3 hF hb S=>?_
  subst hF
  refine tv S (zbl (b:=true) rfl (S.at 0 rfl)) fun a S=>?_
  refine mv S 0 fun a S=>?_
  refine tk S (S.at 0 rfl) fun a S=>?_
  refine tk S (S.at 1 rfl) fun a S=>?_
  refine tk S (S.at 2 rfl) fun a S=>?_
  refine tk S (S.at 3 rfl) fun a S=>?_
  refine tv S (zas false rfl (S.at 4 rfl) rfl) fun a S=>?_
  refine mv S 0 fun a S=>?_
  refine tk S (S.at 0 rfl) fun a S=>?_
  refine tk S (S.at 1 rfl) fun a S=>?_
  refine tk S (S.at 2 rfl) fun a S=>?_
  refine tk S (S.at 3 rfl) fun a S=>?_
  refine tv S (zas false rfl (S.at 4 rfl) rfl) fun a S=>?_
  refine mv S 0 fun a S=>?_
  refine tk S (S.at 0 rfl) fun a S=>?_
  refine tk S (S.at 1 rfl) fun a S=>?_
  refine tk S (S.at 2 rfl) fun a S=>?_
  refine tk S (S.at 3 rfl) fun a S=>?_
  refine tv S (zas false rfl (S.at 4 rfl) rfl) fun a S=>?_
  refine av S (zak rfl (S.at 0 rfl)) fun a S=>?_
  refine hK2 _ _ ?_
  refine wp_ret ?_
  exact zay rfl S (S.at 0 rfl) ⟨_,rfl,congrArg Value.bool (show _=zbC u1 u2 u3 u4 by unfold zbC;rw[hs1_];simp),S.below⟩
 ·skip
  rcases zv9 (zge u4 u1)with hs2_|hs2_
  ·skip
   refine zaD ?_
   refine tv S (zad rfl (S.at 2 rfl) (S.bx 0 rfl) Tryz.underlying70 rfl (vs:=(lT b1 x1 y1 b2 x2 y2 b3 x3 y3 b4 x4 y4)) zaw rfl) fun a S=>?_
   refine tv S (zad rfl (S.at 2 rfl) (S.bx 1 rfl) Tryz.underlying70 rfl (vs:=(lT b5 x5 y5 b6 x6 y6 b7 x7 y7 b8 x8 y8)) zaw rfl) fun a S=>?_
   refine tc S (rc2 Tryz.func61 (S.at 1 rfl) (S.at 0 rfl)) (gtr (zeb (T.keep S.below) (show S1 K (u1) (u2) _ _ from s1m (zbg S 8 hq1 hq2 hk1 hk2 hk3 hk4) (zbg S 12 hq3 hq4 hk5 hk6 hk7 hk8)) (show S1 K' (u3) (u4) _ _ from s1m (zbg S 0 hq5 hq6 hk9 hk10 hk11 hk12) (zbg S 4 hq7 hq8 hk13 hk14 hk15 hk16))) hs1_) fun v a V4 hF hb S=>?_
   subst hF
   refine tv S (zbl (b:=false) rfl (S.at 0 rfl)) fun a S=>?_
   refine mv S 0 fun a S=>?_
   refine tvg S (S.at 0 rfl) (zad rfl (S.at 6 rfl) (S.bx 1 rfl) Tryz.underlying70 rfl (vs:=(lT b5 x5 y5 b6 x6 y6 b7 x7 y7 b8 x8 y8)) zaw rfl) fun a S=>?_
   refine tvg S (S.at 1 rfl) (zad rfl (S.at 8 rfl) (S.bx 0 rfl) Tryz.underlying70 rfl (vs:=(lT b1 x1 y1 b2 x2 y2 b3 x3 y3 b4 x4 y4)) zaw rfl) fun a S=>?_
   refine tcg S (S.at 2 rfl) (rc2 Tryz.func61 (S.at 1 rfl) (S.at 0 rfl)) (gtr (zeb (T.keep S.below) (show S1 K' (u3) (u4) _ _ from s1m (zbg S 0 hq5 hq6 hk9 hk10 hk11 hk12) (zbg S 4 hq7 hq8 hk13 hk14 hk15 hk16)) (show S1 K (u1) (u2) _ _ from s1m (zbg S 8 hq1 hq2 hk1 hk2 hk3 hk4) (zbg S 12 hq3 hq4 hk5 hk6 hk7 hk8))) hs2_) fun v a V5 hF hb S=>?_
   subst hF
   refine tvg S (S.at 3 rfl) (zbl (b:=true) rfl (S.at 0 rfl)) fun a S=>?_
   refine tv S (zas true rfl (S.at 4 rfl) (S.at 0 rfl)) fun a S=>?_
   refine mv S 0 fun a S=>?_
   refine tk S (S.at 0 rfl) fun a S=>?_
   refine tk S (S.at 1 rfl) fun a S=>?_
   refine tk S (S.at 2 rfl) fun a S=>?_
   refine tk S (S.at 3 rfl) fun a S=>?_
   refine tv S (zas false rfl (S.at 4 rfl) rfl) fun a S=>?_
   refine mv S 0 fun a S=>?_
   refine tk S (S.at 0 rfl) fun a S=>?_
   refine tk S (S.at 1 rfl) fun a S=>?_
   refine tk S (S.at 2 rfl) fun a S=>?_
   refine tk S (S.at 3 rfl) fun a S=>?_
   refine tv S (zas false rfl (S.at 4 rfl) rfl) fun a S=>?_
   refine av S (zak rfl (S.at 0 rfl)) fun a S=>?_
   refine hK2 _ _ ?_
   refine wp_ret ?_
   exact zay rfl S (S.at 0 rfl) ⟨_,rfl,congrArg Value.bool (show _=zbC u1 u2 u3 u4 by unfold zbC;rw[hs1_,hs2_];simp),S.below⟩
  ·skip
   rcases zv9 (zea u1 u2 u3 u4)with hs3_|hs3_
   ·skip
    refine zaD ?_
    refine tv S (zad rfl (S.at 2 rfl) (S.bx 0 rfl) Tryz.underlying70 rfl (vs:=(lT b1 x1 y1 b2 x2 y2 b3 x3 y3 b4 x4 y4)) zaw rfl) fun a S=>?_
    refine tv S (zad rfl (S.at 2 rfl) (S.bx 1 rfl) Tryz.underlying70 rfl (vs:=(lT b5 x5 y5 b6 x6 y6 b7 x7 y7 b8 x8 y8)) zaw rfl) fun a S=>?_
    refine tc S (rc2 Tryz.func61 (S.at 1 rfl) (S.at 0 rfl)) (gtr (zeb (T.keep S.below) (show S1 K (u1) (u2) _ _ from s1m (zbg S 8 hq1 hq2 hk1 hk2 hk3 hk4) (zbg S 12 hq3 hq4 hk5 hk6 hk7 hk8)) (show S1 K' (u3) (u4) _ _ from s1m (zbg S 0 hq5 hq6 hk9 hk10 hk11 hk12) (zbg S 4 hq7 hq8 hk13 hk14 hk15 hk16))) hs1_) fun v a V6 hF hb S=>?_
    subst hF
    refine tv S (zbl (b:=false) rfl (S.at 0 rfl)) fun a S=>?_
    refine mv S 0 fun a S=>?_
    refine tvg S (S.at 0 rfl) (zad rfl (S.at 6 rfl) (S.bx 1 rfl) Tryz.underlying70 rfl (vs:=(lT b5 x5 y5 b6 x6 y6 b7 x7 y7 b8 x8 y8)) zaw rfl) fun a S=>?_
    refine tvg S (S.at 1 rfl) (zad rfl (S.at 8 rfl) (S.bx 0 rfl) Tryz.underlying70 rfl (vs:=(lT b1 x1 y1 b2 x2 y2 b3 x3 y3 b4 x4 y4)) zaw rfl) fun a S=>?_
    refine tcg S (S.at 2 rfl) (rc2 Tryz.func61 (S.at 1 rfl) (S.at 0 rfl)) (gtr (zeb (T.keep S.below) (show S1 K' (u3) (u4) _ _ from s1m (zbg S 0 hq5 hq6 hk9 hk10 hk11 hk12) (zbg S 4 hq7 hq8 hk13 hk14 hk15 hk16)) (show S1 K (u1) (u2) _ _ from s1m (zbg S 8 hq1 hq2 hk1 hk2 hk3 hk4) (zbg S 12 hq3 hq4 hk5 hk6 hk7 hk8))) hs2_) fun v a V7 hF hb S=>?_
    subst hF
    refine tvg S (S.at 3 rfl) (zbl (b:=false) rfl (S.at 0 rfl)) fun a S=>?_
    refine tv S (zas true rfl (S.at 4 rfl) (S.at 0 rfl)) fun a S=>?_
    refine mv S 0 fun a S=>?_
    refine tvg S (S.at 0 rfl) (zad rfl (S.at 13 rfl) (S.bx 0 rfl) Tryz.underlying70 rfl (vs:=(lT b1 x1 y1 b2 x2 y2 b3 x3 y3 b4 x4 y4)) zaw rfl) fun a S=>?_
    refine tvg S (S.at 1 rfl) (zad rfl (S.at 13 rfl) (S.bx 1 rfl) Tryz.underlying70 rfl (vs:=(lT b5 x5 y5 b6 x6 y6 b7 x7 y7 b8 x8 y8)) zaw rfl) fun a S=>?_
    refine tcg S (S.at 2 rfl) (rc2 Tryz.func99 (S.at 1 rfl) (S.at 0 rfl)) (gtr (zfM (T.keep S.below) (show S1 K (u1) (u2) _ _ from s1m (zbg S 8 hq1 hq2 hk1 hk2 hk3 hk4) (zbg S 12 hq3 hq4 hk5 hk6 hk7 hk8)) (show S1 K' (u3) (u4) _ _ from s1m (zbg S 0 hq5 hq6 hk9 hk10 hk11 hk12) (zbg S 4 hq7 hq8 hk13 hk14 hk15 hk16))) hs3_) fun v a V8 hF hb S=>?_
    subst hF
    refine tvg S (S.at 3 rfl) (zbl (b:=true) rfl (S.at 0 rfl)) fun a S=>?_
    refine tv S (zas true rfl (S.at 4 rfl) (S.at 0 rfl)) fun a S=>?_
    refine mv S 0 fun a S=>?_
    refine tk S (S.at 0 rfl) fun a S=>?_
    refine tk S (S.at 1 rfl) fun a S=>?_
    refine tk S (S.at 2 rfl) fun a S=>?_
    refine tk S (S.at 3 rfl) fun a S=>?_
    refine tv S (zas false rfl (S.at 4 rfl) rfl) fun a S=>?_
    refine av S (zak rfl (S.at 0 rfl)) fun a S=>?_
    refine hK2 _ _ ?_
    refine wp_ret ?_
    exact zay rfl S (S.at 0 rfl) ⟨_,rfl,congrArg Value.bool (show _=zbC u1 u2 u3 u4 by unfold zbC;rw[hs1_,hs2_,hs3_];simp),S.below⟩
   ·skip
    rcases zv9 (zea u3 u4 u1 u2)with hs4_|hs4_
    ·skip
     refine zaD ?_
     refine tv S (zad rfl (S.at 2 rfl) (S.bx 0 rfl) Tryz.underlying70 rfl (vs:=(lT b1 x1 y1 b2 x2 y2 b3 x3 y3 b4 x4 y4)) zaw rfl) fun a S=>?_
     refine tv S (zad rfl (S.at 2 rfl) (S.bx 1 rfl) Tryz.underlying70 rfl (vs:=(lT b5 x5 y5 b6 x6 y6 b7 x7 y7 b8 x8 y8)) zaw rfl) fun a S=>?_
     refine tc S (rc2 Tryz.func61 (S.at 1 rfl) (S.at 0 rfl)) (gtr (zeb (T.keep S.below) (show S1 K (u1) (u2) _ _ from s1m (zbg S 8 hq1 hq2 hk1 hk2 hk3 hk4) (zbg S 12 hq3 hq4 hk5 hk6 hk7 hk8)) (show S1 K' (u3) (u4) _ _ from s1m (zbg S 0 hq5 hq6 hk9 hk10 hk11 hk12) (zbg S 4 hq7 hq8 hk13 hk14 hk15 hk16))) hs1_) fun v a V9 hF hb S=>?_
     subst hF
     refine tv S (zbl (b:=false) rfl (S.at 0 rfl)) fun a S=>?_
     refine mv S 0 fun a S=>?_
     refine tvg S (S.at 0 rfl) (zad rfl (S.at 6 rfl) (S.bx 1 rfl) Tryz.underlying70 rfl (vs:=(lT b5 x5 y5 b6 x6 y6 b7 x7 y7 b8 x8 y8)) zaw rfl) fun a S=>?_
     refine tvg S (S.at 1 rfl) (zad rfl (S.at 8 rfl) (S.bx 0 rfl) Tryz.underlying70 rfl (vs:=(lT b1 x1 y1 b2 x2 y2 b3 x3 y3 b4 x4 y4)) zaw rfl) fun a S=>?_
     refine tcg S (S.at 2 rfl) (rc2 Tryz.func61 (S.at 1 rfl) (S.at 0 rfl)) (gtr (zeb (T.keep S.below) (show S1 K' (u3) (u4) _ _ from s1m (zbg S 0 hq5 hq6 hk9 hk10 hk11 hk12) (zbg S 4 hq7 hq8 hk13 hk14 hk15 hk16)) (show S1 K (u1) (u2) _ _ from s1m (zbg S 8 hq1 hq2 hk1 hk2 hk3 hk4) (zbg S 12 hq3 hq4 hk5 hk6 hk7 hk8))) hs2_) fun v a V10 hF hb S=>?_
     subst hF
     refine tvg S (S.at 3 rfl) (zbl (b:=false) rfl (S.at 0 rfl)) fun a S=>?_
     refine tv S (zas true rfl (S.at 4 rfl) (S.at 0 rfl)) fun a S=>?_
     refine mv S 0 fun a S=>?_
     refine tvg S (S.at 0 rfl) (zad rfl (S.at 13 rfl) (S.bx 0 rfl) Tryz.underlying70 rfl (vs:=(lT b1 x1 y1 b2 x2 y2 b3 x3 y3 b4 x4 y4)) zaw rfl) fun a S=>?_
     refine tvg S (S.at 1 rfl) (zad rfl (S.at 13 rfl) (S.bx 1 rfl) Tryz.underlying70 rfl (vs:=(lT b5 x5 y5 b6 x6 y6 b7 x7 y7 b8 x8 y8)) zaw rfl) fun a S=>?_
     refine tcg S (S.at 2 rfl) (rc2 Tryz.func99 (S.at 1 rfl) (S.at 0 rfl)) (gtr (zfM (T.keep S.below) (show S1 K (u1) (u2) _ _ from s1m (zbg S 8 hq1 hq2 hk1 hk2 hk3 hk4) (zbg S 12 hq3 hq4 hk5 hk6 hk7 hk8)) (show S1 K' (u3) (u4) _ _ from s1m (zbg S 0 hq5 hq6 hk9 hk10 hk11 hk12) (zbg S 4 hq7 hq8 hk13 hk14 hk15 hk16))) hs3_) fun v a V11 hF hb S=>?_
     subst hF
     refine tvg S (S.at 3 rfl) (zbl (b:=false) rfl (S.at 0 rfl)) fun a S=>?_
     refine tv S (zas true rfl (S.at 4 rfl) (S.at 0 rfl)) fun a S=>?_
     refine mv S 0 fun a S=>?_
     refine tvg S (S.at 0 rfl) (zad rfl (S.at 18 rfl) (S.bx 1 rfl) Tryz.underlying70 rfl (vs:=(lT b5 x5 y5 b6 x6 y6 b7 x7 y7 b8 x8 y8)) zaw rfl) fun a S=>?_
     refine tvg S (S.at 1 rfl) (zad rfl (S.at 20 rfl) (S.bx 0 rfl) Tryz.underlying70 rfl (vs:=(lT b1 x1 y1 b2 x2 y2 b3 x3 y3 b4 x4 y4)) zaw rfl) fun a S=>?_
     refine tcg S (S.at 2 rfl) (rc2 Tryz.func99 (S.at 1 rfl) (S.at 0 rfl)) (gtr (zfM (T.keep S.below) (show S1 K' (u3) (u4) _ _ from s1m (zbg S 0 hq5 hq6 hk9 hk10 hk11 hk12) (zbg S 4 hq7 hq8 hk13 hk14 hk15 hk16)) (show S1 K (u1) (u2) _ _ from s1m (zbg S 8 hq1 hq2 hk1 hk2 hk3 hk4) (zbg S 12 hq3 hq4 hk5 hk6 hk7 hk8))) hs4_) fun v a V12 hF hb S=>?_
     subst hF
     refine tvg S (S.at 3 rfl) (zbl (b:=true) rfl (S.at 0 rfl)) fun a S=>?_
     refine tv S (zas true rfl (S.at 4 rfl) (S.at 0 rfl)) fun a S=>?_
     refine av S (zak rfl (S.at 0 rfl)) fun a S=>?_
     refine hK2 _ _ ?_
     refine wp_ret ?_
     exact zay rfl S (S.at 0 rfl) ⟨_,rfl,congrArg Value.bool (show _=zbC u1 u2 u3 u4 by unfold zbC;rw[hs1_,hs2_,hs3_,hs4_];simp),S.below⟩
    ·skip
     refine zaD ?_
     refine tv S (zad rfl (S.at 2 rfl) (S.bx 0 rfl) Tryz.underlying70 rfl (vs:=(lT b1 x1 y1 b2 x2 y2 b3 x3 y3 b4 x4 y4)) zaw rfl) fun a S=>?_
     refine tv S (zad rfl (S.at 2 rfl) (S.bx 1 rfl) Tryz.underlying70 rfl (vs:=(lT b5 x5 y5 b6 x6 y6 b7 x7 y7 b8 x8 y8)) zaw rfl) fun a S=>?_
     refine tc S (rc2 Tryz.func61 (S.at 1 rfl) (S.at 0 rfl)) (gtr (zeb (T.keep S.below) (show S1 K (u1) (u2) _ _ from s1m (zbg S 8 hq1 hq2 hk1 hk2 hk3 hk4) (zbg S 12 hq3 hq4 hk5 hk6 hk7 hk8)) (show S1 K' (u3) (u4) _ _ from s1m (zbg S 0 hq5 hq6 hk9 hk10 hk11 hk12) (zbg S 4 hq7 hq8 hk13 hk14 hk15 hk16))) hs1_) fun v a V13 hF hb S=>?_
     subst hF
     refine tv S (zbl (b:=false) rfl (S.at 0 rfl)) fun a S=>?_
     refine mv S 0 fun a S=>?_
     refine tvg S (S.at 0 rfl) (zad rfl (S.at 6 rfl) (S.bx 1 rfl) Tryz.underlying70 rfl (vs:=(lT b5 x5 y5 b6 x6 y6 b7 x7 y7 b8 x8 y8)) zaw rfl) fun a S=>?_
     refine tvg S (S.at 1 rfl) (zad rfl (S.at 8 rfl) (S.bx 0 rfl) Tryz.underlying70 rfl (vs:=(lT b1 x1 y1 b2 x2 y2 b3 x3 y3 b4 x4 y4)) zaw rfl) fun a S=>?_
     refine tcg S (S.at 2 rfl) (rc2 Tryz.func61 (S.at 1 rfl) (S.at 0 rfl)) (gtr (zeb (T.keep S.below) (show S1 K' (u3) (u4) _ _ from s1m (zbg S 0 hq5 hq6 hk9 hk10 hk11 hk12) (zbg S 4 hq7 hq8 hk13 hk14 hk15 hk16)) (show S1 K (u1) (u2) _ _ from s1m (zbg S 8 hq1 hq2 hk1 hk2 hk3 hk4) (zbg S 12 hq3 hq4 hk5 hk6 hk7 hk8))) hs2_) fun v a V14 hF hb S=>?_
     subst hF
     refine tvg S (S.at 3 rfl) (zbl (b:=false) rfl (S.at 0 rfl)) fun a S=>?_
     refine tv S (zas true rfl (S.at 4 rfl) (S.at 0 rfl)) fun a S=>?_
     refine mv S 0 fun a S=>?_
     refine tvg S (S.at 0 rfl) (zad rfl (S.at 13 rfl) (S.bx 0 rfl) Tryz.underlying70 rfl (vs:=(lT b1 x1 y1 b2 x2 y2 b3 x3 y3 b4 x4 y4)) zaw rfl) fun a S=>?_
     refine tvg S (S.at 1 rfl) (zad rfl (S.at 13 rfl) (S.bx 1 rfl) Tryz.underlying70 rfl (vs:=(lT b5 x5 y5 b6 x6 y6 b7 x7 y7 b8 x8 y8)) zaw rfl) fun a S=>?_
     refine tcg S (S.at 2 rfl) (rc2 Tryz.func99 (S.at 1 rfl) (S.at 0 rfl)) (gtr (zfM (T.keep S.below) (show S1 K (u1) (u2) _ _ from s1m (zbg S 8 hq1 hq2 hk1 hk2 hk3 hk4) (zbg S 12 hq3 hq4 hk5 hk6 hk7 hk8)) (show S1 K' (u3) (u4) _ _ from s1m (zbg S 0 hq5 hq6 hk9 hk10 hk11 hk12) (zbg S 4 hq7 hq8 hk13 hk14 hk15 hk16))) hs3_) fun v a V15 hF hb S=>?_
     subst hF
     refine tvg S (S.at 3 rfl) (zbl (b:=false) rfl (S.at 0 rfl)) fun a S=>?_
     refine tv S (zas true rfl (S.at 4 rfl) (S.at 0 rfl)) fun a S=>?_
     refine mv S 0 fun a S=>?_
     refine tvg S (S.at 0 rfl) (zad rfl (S.at 18 rfl) (S.bx 1 rfl) Tryz.underlying70 rfl (vs:=(lT b5 x5 y5 b6 x6 y6 b7 x7 y7 b8 x8 y8)) zaw rfl) fun a S=>?_
     refine tvg S (S.at 1 rfl) (zad rfl (S.at 20 rfl) (S.bx 0 rfl) Tryz.underlying70 rfl (vs:=(lT b1 x1 y1 b2 x2 y2 b3 x3 y3 b4 x4 y4)) zaw rfl) fun a S=>?_
     refine tcg S (S.at 2 rfl) (rc2 Tryz.func99 (S.at 1 rfl) (S.at 0 rfl)) (gtr (zfM (T.keep S.below) (show S1 K' (u3) (u4) _ _ from s1m (zbg S 0 hq5 hq6 hk9 hk10 hk11 hk12) (zbg S 4 hq7 hq8 hk13 hk14 hk15 hk16)) (show S1 K (u1) (u2) _ _ from s1m (zbg S 8 hq1 hq2 hk1 hk2 hk3 hk4) (zbg S 12 hq3 hq4 hk5 hk6 hk7 hk8))) hs4_) fun v a V16 hF hb S=>?_
     subst hF
     refine tvg S (S.at 3 rfl) (zbl (b:=false) rfl (S.at 0 rfl)) fun a S=>?_
     refine tv S (zas true rfl (S.at 4 rfl) (S.at 0 rfl)) fun a S=>?_
     refine av S (zak rfl (S.at 0 rfl)) fun a S=>?_
     refine hK2 _ _ ?_
     refine wp_ret ?_
     exact zay rfl S (S.at 0 rfl) ⟨_,rfl,congrArg Value.bool (show _=zbC u1 u2 u3 u4 by unfold zbC;rw[hs1_,hs2_,hs3_,hs4_];simp),S.below⟩
theorem zks {K:Nat}{q1 q1' q2 q2':Rat}{v1 v2:Value}{V:World}(T:TT V)(h1:P1 K (q1) (q1') v1 V)(h2:P1 K (q2) (q2') v2 V)(hK0:K<=400:=by omega):
  Calls Tryz.prog 95 #[v1,v2] V (zaf V (MT (max K 1) (zbM (q1,q1') (q2,q2')))):=by
 obtain⟨b1,x1,y1,b2,x2,y2,rfl,hq1,hq2,⟨hk1,hk2⟩,⟨hk3,hk4⟩,⟨ok1,ok2⟩,ok3,ok4⟩:=h1
 obtain⟨b3,x3,y3,b4,x4,y4,rfl,hq3,hq4,⟨hk5,hk6⟩,⟨hk7,hk8⟩,⟨ok5,ok6⟩,ok7,ok8⟩:=h2
 have hp0:=fun {V':World}=>p1m (V:=V') hq1 hq2 hk1 hk2 hk3 hk4
 have hp1:=fun {V':World}=>p1m (V:=V') hq3 hq4 hk5 hk6 hk7 hk8
 have hN4:∀p∈([(b1,x1,y1,b2,x2,y2),(b3,x3,y3,b4,x4,y4)]:List PEl),zh0 K p:=by simp[zh0, *]
 have hNq:([(b1,x1,y1,b2,x2,y2),(b3,x3,y3,b4,x4,y4)]:List PEl).map pv=[(q1,q1'),(q2,q2')]:=by simp[pv,hq1,hq2,hq3,hq4]
 refine fb Tryz.func95 Tryz.ntmps95 (zaa ok5 (zaa ok6 (zaa ok7 (zaa ok8 (zaa ok1 (zaa ok2 (zaa ok3 (zaa ok4 zau)))))))) (fun a S=>?_)
 refine wsp fun K1 hK1=>?_
 refine tb S 0 (lP b1 x1 y1 b2 x2 y2) fun g1 a V1 hgg1 S=>?_
 refine tb S 2 (lP b3 x3 y3 b4 x4 y4) fun g2 a V2 hgg2 S=>?_
 refine ti S (cs:=[.int .i8 0,.bool false,.slice none 0 0,.slice none 0 0,.bool false,.slice none 0 0,.slice none 0 0,.bool false,.slice none 0 0,.slice none 0 0,.bool false,.slice none 0 0,.slice none 0 0]) (zam rfl (Tryz.zeroValue42 _) rfl) (fun g3=>[⟨g1,29,(lP b1 x1 y1 b2 x2 y2)⟩,⟨g2,29,(lP b3 x3 y3 b4 x4 y4)⟩,⟨g3,42,[.int .i8 0,.bool false,.slice none 0 0,.slice none 0 0,.bool false,.slice none 0 0,.slice none 0 0,.bool false,.slice none 0 0,.slice none 0 0,.bool false,.slice none 0 0,.slice none 0 0]⟩]) fun g3 a V3 hgg3 S=>?_
 refine hK1 _ _ ?_
 refine wsp fun K2 hK2=>?_
 refine lp S 2 0 fun a S=>?_
 refine lp S 2 1 fun a S=>?_
 refine ty S (F:=GP ([(b1,x1,y1,b2,x2,y2),(b3,x3,y3,b4,x4,y4)])) (zru rfl (S.at 1 rfl) (S.at 0 rfl) (S.num 4 rfl) (S.num 5 rfl) (S.num 6 rfl) (S.num 7 rfl) (S.num 0 rfl) (S.num 1 rfl) (S.num 2 rfl) (S.num 3 rfl)) fun v a V4 hF hb S=>?_
 obtain⟨ov1,hov1⟩:∃z,z=v:=⟨_,rfl⟩
 rw[<-hov1]at hF S
 have rov1:=hF
 refine tc S (F:=TRow (max K 1) ([(q1,q1'),(q2,q2')])) (rc1 Tryz.func130 (S.at 0 rfl)) (zvF (T.keep S.below) (GP.row (qs:=[(q1,q1'),(q2,q2')]) rov1 hN4 (by simp) hNq) (by omega)) fun v a V5 hF hb S=>?_
 replace rov1:=rov1.keep hb
 obtain⟨ov2,hov2⟩:∃z,z=v:=⟨_,rfl⟩
 rw[<-hov2]at hF S
 have rov2:=hF
 refine tv S (zak rfl (S.at 0 rfl)) fun a S=>?_
 refine hK2 _ _ ?_
 refine wp_seq_k fun K3 hK3=>?_
 have S:=S.keep [5,4,3,2] (ls':=[(5,ov2),(4,pT g3 0),(3,pT g2 0),(2,pT g1 0)]) rfl
 refine zaD ?_
 refine ac S fun a S=>?_
 refine hK3 _ _ ?_
 refine wp_seq_k fun K4 hK4=>?_
 refine wsp fun K5 hK5=>?_
 refine lp S 4 0 fun a S=>?_
 refine lp S 4 1 fun a S=>?_
 refine tc S (rc2 Tryz.func65 (S.at 1 rfl) (S.at 0 rfl)) (zvC (T.keep S.below) (p4 S 4 hp0) (p4 S 0 hp1) (by omega) (by omega)) fun v a V6 hF hb S=>?_
 replace rov2:=rov2.keep hb
 subst hF
 refine hK5 _ _ ?_
 rcases zv9 (decide (za0 q1 (q1') q2 (q2')=0))with hc13|hc13
 ·refine wp_cond_true ((S.at 0 rfl).trans (congrArg Value.bool hc13)) ?_
  refine zaD ?_
  refine av S (zcB rfl) fun a S=>?_
  refine hK4 _ _ ?_
  refine wp_seq_k fun K6 hK6=>?_
  obtain⟨W1,hW1⟩:∃W,W=V6:=⟨_,rfl⟩
  rw[<-hW1]at S ⊢
  have S0:=S
  rw[<-hW1]at rov2
  refine fr 8 [14,15,16,17,18,19,20,21] [IsV (.int .i8 1),IsV (ov2),ElP (max K 1) (q1) (q1'),PT (max K 1) (q1) (q1'),IsV (ov2),ElP (max K 1) (q2) (q2'),PT (max K 1) (q2) (q2'),MT (max K 1) (zbM (q1,q1') (q2,q2'))] S ?_ ?_
  ·refine sc (fun _ _ S _ _=>sv rfl (zao rfl (S.at 0 rfl))) ?_
   refine sc (fun _ _ S _ _=>sv rfl (zao rfl (S.at 4 rfl))) ?_
   refine sc (fun _ _ _ hB hd=>by
    obtain⟨A,n,c,hv,hA,hk,hq⟩:=zsZ (rov2.keep hB) (i:=0) (by simp)
    exact sv rfl (zeo (i:=0) hA hk rfl ((hd.v 1 rfl rfl).trans hv)) hq) ?_
   refine sc (fun _ _ _ _ hd=>by
    obtain⟨A,m,b,x,y,b',x',y',hv,-,E,hq⟩:=(hd.r 2 rfl rfl)
    exact sv rfl (zhZ E rfl hv) hq) ?_
   refine sc (fun _ _ S _ _=>sv rfl (zao rfl (S.at 4 rfl))) ?_
   refine sc (fun _ _ _ hB hd=>by
    obtain⟨A,n,c,hv,hA,hk,hq⟩:=zsZ (rov2.keep hB) (i:=1) (by simp)
    exact sv rfl (zeo (i:=1) hA hk rfl ((hd.v 4 rfl rfl).trans hv)) hq) ?_
   refine sc (fun _ _ _ _ hd=>by
    obtain⟨A,m,b,x,y,b',x',y',hv,-,E,hq⟩:=(hd.r 5 rfl rfl)
    exact sv rfl (zhZ E rfl hv) hq) ?_
   refine sc (fun _ _ _ _ hd=>by
    obtain⟨v,hv,hq⟩:=zmO (m:=zbM (q1,q1') (q2,q2')) (zhu hc13).1 (zhu hc13).2.1 (zhu hc13).2.2.1 (zhu hc13).2.2.2.1 (zhu hc13).2.2.2.2 (hd.r 3 rfl rfl) (hd.r 6 rfl rfl)
    exact sv rfl (zdZ rfl (hd.v 0 rfl rfl) rfl rfl hv) hq) ?_
   exact sn
  ·intro a1 V7 S hB hf
   replace rov2:=rov2.keep hB
   obtain⟨b5,x5,y5,b6,x6,y6,b7,x7,y7,b8,x8,y8,hv1,⟨hq5,hq6,hk9,hk10,hk11,hk12,ok9,ok10,ok11,ok12⟩,⟨hq7,hq8,hk13,hk14,hk15,hk16,ok13,ok14,ok15,ok16⟩⟩:=hf.r 7 rfl rfl
   have S:=S.add hv1
   have S:=S.know ok9
   have S:=S.know ok10
   have S:=S.know ok11
   have S:=S.know ok12
   have S:=S.know ok13
   have S:=S.know ok14
   have S:=S.know ok15
   have S:=S.know ok16
   clear hf S0
   show wpList _ _ _ [_] _ _
   refine sto S 2 (fun ht=>zaj rfl (S.at 6 rfl) (S.at 0 rfl) zaZ rfl (zvZ rfl) ht) fun V8 S=>?_
   refine hK6 _ _ ?_
   refine wp_ret ?_
   exact zar rfl S (S.at 6 rfl) (i:=2) rfl Tryz.underlying42 rfl zaZ ⟨_,rfl,⟨b5,x5,y5,b6,x6,y6,b7,x7,y7,b8,x8,y8,rfl,⟨hq5,hq6,hk9,hk10,hk11,hk12,(S.num 7 rfl),(S.num 6 rfl),(S.num 5 rfl),(S.num 4 rfl)⟩,⟨hq7,hq8,hk13,hk14,hk15,hk16,(S.num 3 rfl),(S.num 2 rfl),(S.num 1 rfl),(S.num 0 rfl)⟩⟩,S.below⟩
 ·refine wp_cond_false ((S.at 0 rfl).trans (congrArg Value.bool hc13)) ?_
  refine wp_skip ?_
  refine hK4 _ _ ?_
  refine wp_seq_k fun K7 hK7=>?_
  obtain⟨W2,hW2⟩:∃W,W=V6:=⟨_,rfl⟩
  rw[<-hW2]at S ⊢
  have S0:=S
  rw[<-hW2]at rov2
  refine fr 8 [14,15,16,17,18,19,20,21] [IsV (.int .i8 2),IsV (ov2),ElP (max K 1) (q1) (q1'),PT (max K 1) (q1) (q1'),IsV (ov2),ElP (max K 1) (q2) (q2'),PT (max K 1) (q2) (q2'),MT (max K 1) (zbM (q1,q1') (q2,q2'))] S ?_ ?_
  ·refine sc (fun _ _ S _ _=>sv rfl (zao rfl (S.at 3 rfl))) ?_
   refine sc (fun _ _ S _ _=>sv rfl (zao rfl (S.at 4 rfl))) ?_
   refine sc (fun _ _ _ hB hd=>by
    obtain⟨A,n,c,hv,hA,hk,hq⟩:=zsZ (rov2.keep hB) (i:=0) (by simp)
    exact sv rfl (zeo (i:=0) hA hk rfl ((hd.v 1 rfl rfl).trans hv)) hq) ?_
   refine sc (fun _ _ _ _ hd=>by
    obtain⟨A,m,b,x,y,b',x',y',hv,-,E,hq⟩:=(hd.r 2 rfl rfl)
    exact sv rfl (zhZ E rfl hv) hq) ?_
   refine sc (fun _ _ S _ _=>sv rfl (zao rfl (S.at 4 rfl))) ?_
   refine sc (fun _ _ _ hB hd=>by
    obtain⟨A,n,c,hv,hA,hk,hq⟩:=zsZ (rov2.keep hB) (i:=1) (by simp)
    exact sv rfl (zeo (i:=1) hA hk rfl ((hd.v 4 rfl rfl).trans hv)) hq) ?_
   refine sc (fun _ _ _ _ hd=>by
    obtain⟨A,m,b,x,y,b',x',y',hv,-,E,hq⟩:=(hd.r 5 rfl rfl)
    exact sv rfl (zhZ E rfl hv) hq) ?_
   refine sc (fun _ _ _ _ hd=>by
    obtain⟨v,hv,hq⟩:=zmO (m:=zbM (q1,q1') (q2,q2')) (zhv hc13).1 (zhv hc13).2.1 (zhv hc13).2.2.1 (zhv hc13).2.2.2.1 (zhv hc13).2.2.2.2 (hd.r 3 rfl rfl) (hd.r 6 rfl rfl)
    exact sv rfl (zdZ rfl (hd.v 0 rfl rfl) rfl rfl hv) hq) ?_
   exact sn
  ·intro a2 V9 S hB hf
   replace rov2:=rov2.keep hB
   obtain⟨b9,x9,y9,b10,x10,y10,b11,x11,y11,b12,x12,y12,hv2,⟨hq9,hq10,hk17,hk18,hk19,hk20,ok17,ok18,ok19,ok20⟩,⟨hq11,hq12,hk21,hk22,hk23,hk24,ok21,ok22,ok23,ok24⟩⟩:=hf.r 7 rfl rfl
   have S:=S.add hv2
   have S:=S.know ok17
   have S:=S.know ok18
   have S:=S.know ok19
   have S:=S.know ok20
   have S:=S.know ok21
   have S:=S.know ok22
   have S:=S.know ok23
   have S:=S.know ok24
   clear hf S0
   show wpList _ _ _ [_] _ _
   refine sto S 2 (fun ht=>zaj rfl (S.at 6 rfl) (S.at 0 rfl) zaZ rfl (zvZ rfl) ht) fun V10 S=>?_
   refine hK7 _ _ ?_
   refine wp_ret ?_
   exact zar rfl S (S.at 6 rfl) (i:=2) rfl Tryz.underlying42 rfl zaZ ⟨_,rfl,⟨b9,x9,y9,b10,x10,y10,b11,x11,y11,b12,x12,y12,rfl,⟨hq9,hq10,hk17,hk18,hk19,hk20,(S.num 7 rfl),(S.num 6 rfl),(S.num 5 rfl),(S.num 4 rfl)⟩,⟨hq11,hq12,hk21,hk22,hk23,hk24,(S.num 3 rfl),(S.num 2 rfl),(S.num 1 rfl),(S.num 0 rfl)⟩⟩,S.below⟩
theorem zpI {K:Nat}{q1 q1' q2 q2' q3 q3' q4 q4':Rat}{v1 v2 v3 v4:Value}{V:World}(T:TT V)(h1:P1 K (q1) (q1') v1 V)(h2:P1 K (q2) (q2') v2 V)(h3:P1 K (q3) (q3') v3 V)(h4:P1 K (q4) (q4') v4 V)(h1K:1<=K)(hK0:K<=10:=by omega):
  Calls Tryz.prog 12 #[v1,v2,v3,v4] V (zaf V (PB (19*K+12) (zcx (q1,q1') (q2,q2') (q3,q3') (q4,q4')).1 (zcx (q1,q1') (q2,q2') (q3,q3') (q4,q4')).2 (.bool (decide (den (q1,q1') (q2,q2') (q3,q3') (q4,q4')≠0))))):=by
 obtain⟨b1,x1,y1,b2,x2,y2,rfl,hq1,hq2,⟨hk1,hk2⟩,⟨hk3,hk4⟩,⟨ok1,ok2⟩,ok3,ok4⟩:=h1
 obtain⟨b3,x3,y3,b4,x4,y4,rfl,hq3,hq4,⟨hk5,hk6⟩,⟨hk7,hk8⟩,⟨ok5,ok6⟩,ok7,ok8⟩:=h2
 obtain⟨b5,x5,y5,b6,x6,y6,rfl,hq5,hq6,⟨hk9,hk10⟩,⟨hk11,hk12⟩,⟨ok9,ok10⟩,ok11,ok12⟩:=h3
 obtain⟨b7,x7,y7,b8,x8,y8,rfl,hq7,hq8,⟨hk13,hk14⟩,⟨hk15,hk16⟩,⟨ok13,ok14⟩,ok15,ok16⟩:=h4
 have hp0:=fun {V':World}=>p1m (V:=V') hq1 hq2 hk1 hk2 hk3 hk4
 have hp1:=fun {V':World}=>p1m (V:=V') hq3 hq4 hk5 hk6 hk7 hk8
 have hp2:=fun {V':World}=>p1m (V:=V') hq5 hq6 hk9 hk10 hk11 hk12
 have hp3:=fun {V':World}=>p1m (V:=V') hq7 hq8 hk13 hk14 hk15 hk16
 refine fb Tryz.func12 Tryz.ntmps12 (zaa ok13 (zaa ok14 (zaa ok15 (zaa ok16 (zaa ok9 (zaa ok10 (zaa ok11 (zaa ok12 (zaa ok5 (zaa ok6 (zaa ok7 (zaa ok8 (zaa ok1 (zaa ok2 (zaa ok3 (zaa ok4 zau)))))))))))))))) (fun a S=>?_)
 refine wsp fun K1 hK1=>?_
 refine tb S 0 (lP b1 x1 y1 b2 x2 y2) fun g1 a V1 hgg1 S=>?_
 refine tb S 2 (lP b3 x3 y3 b4 x4 y4) fun g2 a V2 hgg2 S=>?_
 refine tb S 4 (lP b5 x5 y5 b6 x6 y6) fun g3 a V3 hgg3 S=>?_
 refine tb S 6 (lP b7 x7 y7 b8 x8 y8) fun g4 a V4 hgg4 S=>?_
 refine ti S (cs:=lY) (zam rfl (Tryz.zeroValue29 _) rfl) (fun g5=>[⟨g1,29,(lP b1 x1 y1 b2 x2 y2)⟩,⟨g2,29,(lP b3 x3 y3 b4 x4 y4)⟩,⟨g3,29,(lP b5 x5 y5 b6 x6 y6)⟩,⟨g4,29,(lP b7 x7 y7 b8 x8 y8)⟩,⟨g5,29,lY⟩]) fun g5 a V5 hgg5 S=>?_
 refine ac S fun a S=>?_
 refine hK1 _ _ ?_
 refine wp_seq_k fun K2 hK2=>?_
 obtain⟨W1,hW1⟩:∃W,W=V5:=⟨_,rfl⟩
 rw[<-hW1]at S ⊢
 have S0:=S
 refine frs [(29,6)] [some 14,some 15,some 16,some 17,some 18,some 19,some 10,some 11,none,none] [IsV ((aP b3 x3 y3 b4 x4 y4)),IsV ((aP b1 x1 y1 b2 x2 y2)),PT ((max K 1)+(max K 1)+1) (q2 - q1) ((q2') - (q1')),IsV ((aP b7 x7 y7 b8 x8 y8)),IsV ((aP b5 x5 y5 b6 x6 y6)),PT ((max K 1)+(max K 1)+1) (q4 - q3) ((q4') - (q3')),zfx,zfx,zfx,zfx] [⟨6,10,29,lY⟩,⟨7,11,29,lY⟩] [⟨8,10,29,PT ((max K 1)+(max K 1)+1) (q2 - q1) ((q2') - (q1'))⟩,⟨9,11,29,PT ((max K 1)+(max K 1)+1) (q4 - q3) ((q4') - (q3'))⟩] [] (lb:=[⟨g1,29,(lP b1 x1 y1 b2 x2 y2)⟩,⟨g2,29,(lP b3 x3 y3 b4 x4 y4)⟩,⟨g3,29,(lP b5 x5 y5 b6 x6 y6)⟩,⟨g4,29,(lP b7 x7 y7 b8 x8 y8)⟩,⟨g5,29,lY⟩]) S (all_cons (zgt 0 rfl rfl) (all_cons (zgt 1 rfl rfl) zaO)) ?_ (all_cons ⟨rfl,_,rfl,rfl,rfl,fun _ _ _=>(zam rfl (Tryz.zeroValue29 _) rfl)⟩ (all_cons ⟨rfl,_,rfl,rfl,rfl,fun _ _ _=>(zam rfl (Tryz.zeroValue29 _) rfl)⟩ zaO)) (all_cons ⟨_,6,rfl,rfl,rfl,List.mem_of_getElem? (i:=0) rfl,(all_cons (fun h=>⟨rfl,rfl⟩) (all_cons (fun h=>by cases h) zaO)),zaO,fun _ _ _ _ hg hd=>zfw (hd.r 2 rfl rfl) (hd.r 2 rfl rfl).parts rfl hg rfl zaR⟩ (all_cons ⟨_,6,rfl,rfl,rfl,List.mem_of_getElem? (i:=0) rfl,(all_cons (fun h=>by cases h) (all_cons (fun h=>⟨rfl,rfl⟩) zaO)),zaO,fun _ _ _ _ hg hd=>zfw (hd.r 5 rfl rfl) (hd.r 5 rfl rfl).parts rfl hg rfl zaR⟩ zaO)) zaO ?_
 ·refine va (fun _ _ S _ _ _=>sv rfl (zaL rfl (S.at 4 rfl) (S.bx 1 rfl) rfl)) ?_
  refine va (fun _ _ S _ _ _=>sv rfl (zaL rfl (S.at 5 rfl) (S.bx 0 rfl) rfl)) ?_
  refine va (fun _ _ S _ hd _=>sl rfl (rc2 Tryz.func45 (hd.v 0 rfl rfl) (hd.v 1 rfl rfl)) (zrw (T.keep S.below) (p4 S 8 hp1) (p4 S 12 hp0))) ?_
  refine va (fun _ _ S _ _ _=>sv rfl (zaL rfl (S.at 2 rfl) (S.bx 3 rfl) rfl)) ?_
  refine va (fun _ _ S _ _ _=>sv rfl (zaL rfl (S.at 3 rfl) (S.bx 2 rfl) rfl)) ?_
  refine va (fun _ _ S _ hd _=>sl rfl (rc2 Tryz.func45 (hd.v 3 rfl rfl) (hd.v 4 rfl rfl)) (zrw (T.keep S.below) (p4 S 0 hp3) (p4 S 4 hp2))) ?_
  refine vb ?_
  refine vb ?_
  refine vs ?_
  refine vs ?_
  exact vn
 ·intro a1 V6 S hB hf hl hdis hs hp
  obtain⟨g6,csg6,hvg6,hgg6,hbg6,hlg6,hng6,hkg6⟩:=hl _ (List.mem_of_getElem? (i:=0) rfl)
  obtain⟨g7,csg7,hvg7,hgg7,hbg7,hlg7,hng7,hkg7⟩:=hl _ (List.mem_of_getElem? (i:=1) rfl)
  have hne_g6_g7:g6≠g7:=fun h=>hdis _ (List.mem_of_getElem? (i:=0) rfl) _ (List.mem_of_getElem? (i:=1) rfl) (by decide) (hvg6.trans (h▸hvg7.symm))
  obtain⟨gs1,vsgs1,hvgs1,-,hbgs1,hngs1,hPgs1⟩:=hs _ (List.mem_of_getElem? (i:=0) rfl)
  have hegs1:=zei ((hvg6).symm.trans hvgs1)
  subst hegs1
  obtain⟨b9,x9,y9,b10,x10,y10,hv1,hq9,hq10,⟨hk17,hk18⟩,⟨hk19,hk20⟩,⟨ok17,ok18⟩,ok19,ok20⟩:=(show PT ((max K 1)+(max K 1)+1) (q2 - q1) ((q2') - (q1')) (.agg vsgs1.toArray) V6 from hPgs1)
  have hvsgs1:=zej (ws:=(lP b9 x9 y9 b10 x10 y10)) hv1
  subst hvsgs1
  have S:=S.know ok17
  have S:=S.know ok18
  have S:=S.know ok19
  have S:=S.know ok20
  obtain⟨gs2,vsgs2,hvgs2,-,hbgs2,hngs2,hPgs2⟩:=hs _ (List.mem_of_getElem? (i:=1) rfl)
  have hegs2:=zei ((hvg7).symm.trans hvgs2)
  subst hegs2
  obtain⟨b11,x11,y11,b12,x12,y12,hv2,hq11,hq12,⟨hk21,hk22⟩,⟨hk23,hk24⟩,⟨ok21,ok22⟩,ok23,ok24⟩:=(show PT ((max K 1)+(max K 1)+1) (q4 - q3) ((q4') - (q3')) (.agg vsgs2.toArray) V6 from hPgs2)
  have hvsgs2:=zej (ws:=(lP b11 x11 y11 b12 x12 y12)) hv2
  subst hvsgs2
  have S:=S.know ok21
  have S:=S.know ok22
  have S:=S.know ok23
  have S:=S.know ok24
  have S:=Frm.readd (S.add hvg6) (zv2 S0.below.size hgg6) hbgs1 rfl (za1 (zaB (S0.lt 0 rfl) hgg6) (za1 (zaB (S0.lt 1 rfl) hgg6) (za1 (zaB (S0.lt 2 rfl) hgg6) (za1 (zaB (S0.lt 3 rfl) hgg6) (za1 (zaB (S0.lt 4 rfl) hgg6) zfv)))))
  have S:=Frm.readd (S.add hvg7) (zv2 S0.below.size hgg7) hbgs2 rfl (za1 (zaB (S0.lt 0 rfl) hgg7) (za1 (zaB (S0.lt 1 rfl) hgg7) (za1 (zaB (S0.lt 2 rfl) hgg7) (za1 (zaB (S0.lt 3 rfl) hgg7) (za1 (zaB (S0.lt 4 rfl) hgg7) (za1 hne_g6_g7 zfv))))))
  have S:Frm 40 [(11,pT g7 0),(10,pT g6 0),(9,.bool false),(8,pT g5 0),(7,pT g4 0),(6,pT g3 0),(5,pT g2 0),(4,pT g1 0),(0,(aP b1 x1 y1 b2 x2 y2)),(1,(aP b3 x3 y3 b4 x4 y4)),(2,(aP b5 x5 y5 b6 x6 y6)),(3,(aP b7 x7 y7 b8 x8 y8))] [⟨g1,29,(lP b1 x1 y1 b2 x2 y2)⟩,⟨g2,29,(lP b3 x3 y3 b4 x4 y4)⟩,⟨g3,29,(lP b5 x5 y5 b6 x6 y6)⟩,⟨g4,29,(lP b7 x7 y7 b8 x8 y8)⟩,⟨g5,29,lY⟩,⟨g6,29,(lP b9 x9 y9 b10 x10 y10)⟩,⟨g7,29,(lP b11 x11 y11 b12 x12 y12)⟩] V _ _ _:=S
  clear hf hl hdis hs hp S0
  refine hK2 _ _ ?_
  refine wp_seq_k fun K3 hK3=>?_
  obtain⟨W2,hW2⟩:∃W,W=V6:=⟨_,rfl⟩
  rw[<-hW2]at S ⊢
  have S0:=S
  refine frs [(27,3)] [some 21,some 22,some 23,some 24,some 25,some 26,some 27,some 28,some 29,some 20,some 30,some 31,some 12,none,some 13] [IsV ((aP b5 x5 y5 b6 x6 y6)),IsV ((aP b1 x1 y1 b2 x2 y2)),PT ((max K 1)+(max K 1)+1) (q3 - q1) ((q3') - (q1')),IsV ((aP b11 x11 y11 b12 x12 y12)),QT (2*((max ((max K 1)+(max K 1)+1) 1)+(max ((max K 1)+(max K 1)+1) 1))+1) ((q3 - q1)*((q4') - (q3')) - ((q3') - (q1'))*(q4 - q3)),IsV ((aP b9 x9 y9 b10 x10 y10)),IsV ((aP b11 x11 y11 b12 x12 y12)),QT (2*((max ((max K 1)+(max K 1)+1) 1)+(max ((max K 1)+(max K 1)+1) 1))+1) ((q2 - q1)*((q4') - (q3')) - ((q2') - (q1'))*(q4 - q3)),QE ((max (2*((max ((max K 1)+(max K 1)+1) 1)+(max ((max K 1)+(max K 1)+1) 1))+1) 1)+(max (2*((max ((max K 1)+(max K 1)+1) 1)+(max ((max K 1)+(max K 1)+1) 1))+1) 1)) (((q3 - q1)*((q4') - (q3')) - ((q3') - (q1'))*(q4 - q3))/((q2 - q1)*((q4') - (q3')) - ((q2') - (q1'))*(q4 - q3))) (erq ((q2 - q1)*((q4') - (q3')) - ((q2') - (q1'))*(q4 - q3))),QE ((max (2*((max ((max K 1)+(max K 1)+1) 1)+(max ((max K 1)+(max K 1)+1) 1))+1) 1)+(max (2*((max ((max K 1)+(max K 1)+1) 1)+(max ((max K 1)+(max K 1)+1) 1))+1) 1)) (((q3 - q1)*((q4') - (q3')) - ((q3') - (q1'))*(q4 - q3))/((q2 - q1)*((q4') - (q3')) - ((q2') - (q1'))*(q4 - q3))) (erq ((q2 - q1)*((q4') - (q3')) - ((q2') - (q1'))*(q4 - q3))),QT ((max (2*((max ((max K 1)+(max K 1)+1) 1)+(max ((max K 1)+(max K 1)+1) 1))+1) 1)+(max (2*((max ((max K 1)+(max K 1)+1) 1)+(max ((max K 1)+(max K 1)+1) 1))+1) 1)) (((q3 - q1)*((q4') - (q3')) - ((q3') - (q1'))*(q4 - q3))/((q2 - q1)*((q4') - (q3')) - ((q2') - (q1'))*(q4 - q3))),iI ((erq ((q2 - q1)*((q4') - (q3')) - ((q2') - (q1'))*(q4 - q3)))),zfx,zfx,iI ((erq ((q2 - q1)*((q4') - (q3')) - ((q2') - (q1'))*(q4 - q3))))] [⟨12,12,27,lZ⟩] [⟨13,12,27,QT ((max (2*((max ((max K 1)+(max K 1)+1) 1)+(max ((max K 1)+(max K 1)+1) 1))+1) 1)+(max (2*((max ((max K 1)+(max K 1)+1) 1)+(max ((max K 1)+(max K 1)+1) 1))+1) 1)) (((q3 - q1)*((q4') - (q3')) - ((q3') - (q1'))*(q4 - q3))/((q2 - q1)*((q4') - (q3')) - ((q2') - (q1'))*(q4 - q3)))⟩] [] (lb:=[⟨g1,29,(lP b1 x1 y1 b2 x2 y2)⟩,⟨g2,29,(lP b3 x3 y3 b4 x4 y4)⟩,⟨g3,29,(lP b5 x5 y5 b6 x6 y6)⟩,⟨g4,29,(lP b7 x7 y7 b8 x8 y8)⟩,⟨g5,29,lY⟩,⟨g6,29,(lP b9 x9 y9 b10 x10 y10)⟩,⟨g7,29,(lP b11 x11 y11 b12 x12 y12)⟩]) S (all_cons (zgt 0 rfl rfl) zaO) ?_ (all_cons ⟨rfl,_,rfl,rfl,rfl,fun _ _ _=>(zam rfl (Tryz.zeroValue27 _) rfl)⟩ zaO) (all_cons ⟨_,3,rfl,rfl,rfl,List.mem_of_getElem? (i:=0) rfl,(all_cons (fun h=>⟨rfl,rfl⟩) zaO),zaO,fun _ _ _ _ hg hd=>zfw (hd.r 10 rfl rfl) (hd.r 10 rfl rfl).parts rfl hg rfl zah⟩ zaO) zaO ?_
  ·refine va (fun _ _ S _ _ _=>sv rfl (zaL rfl (S.at 5 rfl) (S.bx 2 rfl) rfl)) ?_
   refine va (fun _ _ S _ _ _=>sv rfl (zaL rfl (S.at 7 rfl) (S.bx 0 rfl) rfl)) ?_
   refine va (fun _ _ S _ hd _=>sl rfl (rc2 Tryz.func45 (hd.v 0 rfl rfl) (hd.v 1 rfl rfl)) (zrw (T.keep S.below) (p4 S 12 hp2) (p4 S 20 hp0))) ?_
   refine va (fun _ _ S _ _ _=>sv rfl (zaL rfl (S.at 0 rfl) (S.bx 6 rfl) rfl)) ?_
   refine va (fun _ _ S _ hd _=>sl rfl (rc2 Tryz.func46 rfl (hd.v 3 rfl rfl)) (zjU (T.keep S.below) ((hd.r 2 rfl rfl)).any (zby S 0 hq11 hq12 hk21 hk22 hk23 hk24).any (by omega) (by omega))) ?_
   refine va (fun _ _ S _ _ _=>sv rfl (zaL rfl (S.at 1 rfl) (S.bx 5 rfl) rfl)) ?_
   refine va (fun _ _ S _ _ _=>sv rfl (zaL rfl (S.at 0 rfl) (S.bx 6 rfl) rfl)) ?_
   refine va (fun _ _ S _ hd _=>sl rfl (rc2 Tryz.func46 (hd.v 5 rfl rfl) (hd.v 6 rfl rfl)) (zjU (T.keep S.below) (zby S 4 hq9 hq10 hk17 hk18 hk19 hk20).any (zby S 0 hq11 hq12 hk21 hk22 hk23 hk24).any (by omega) (by omega))) ?_
   refine va (fun _ _ S _ hd _=>sl rfl (rc2 Tryz.func36 rfl rfl) (zuZ (T.keep S.below) ((hd.r 4 rfl rfl)).any ((hd.r 7 rfl rfl)).any (by omega) (by omega))) ?_
   refine va (fun _ _ _ _ hd _=>sv rfl (zao rfl rfl) (hd.r 8 rfl rfl)) ?_
   refine va (fun _ _ _ _ hd _=>by
    obtain⟨b,x,y,hv,hq,k1,k2,o1,o2⟩:=(hd.r 9 rfl rfl)
    exact sv rfl (zaT rfl hv rfl) ⟨b,x,y,rfl,hq,k1,k2,o1,o2⟩) ?_
   refine va (fun _ _ _ _ hd _=>by
    obtain⟨b,x,y,hv,hq,k1,k2,o1,o2⟩:=(hd.r 9 rfl rfl)
    exact sv rfl (zaT rfl hv rfl)) ?_
   refine vb ?_
   refine vs ?_
   refine va (fun _ _ _ _ hd _=>sv rfl (zak rfl (hd.v 11 rfl rfl))) ?_
   exact vn
  ·intro a2 V7 S hB hf hl hdis hs hp
   obtain⟨g8,csg8,hvg8,hgg8,hbg8,hlg8,hng8,hkg8⟩:=hl _ (List.mem_of_getElem? (i:=0) rfl)
   obtain⟨gs3,vsgs3,hvgs3,-,hbgs3,hngs3,hPgs3⟩:=hs _ (List.mem_of_getElem? (i:=0) rfl)
   have hegs3:=zei ((hvg8).symm.trans hvgs3)
   subst hegs3
   obtain⟨b13,x13,y13,hv3,hq13,hk25,hk26,ok25,ok26⟩:=(show QT ((max (2*((max ((max K 1)+(max K 1)+1) 1)+(max ((max K 1)+(max K 1)+1) 1))+1) 1)+(max (2*((max ((max K 1)+(max K 1)+1) 1)+(max ((max K 1)+(max K 1)+1) 1))+1) 1)) (((q3 - q1)*((q4') - (q3')) - ((q3') - (q1'))*(q4 - q3))/((q2 - q1)*((q4') - (q3')) - ((q2') - (q1'))*(q4 - q3))) (.agg vsgs3.toArray) V7 from hPgs3)
   have hvsgs3:=zej (ws:=(aL b13 x13 y13)) hv3
   subst hvsgs3
   have S:=S.know ok25
   have S:=S.know ok26
   have S:=Frm.readd (S.add hvg8) (zv2 S0.below.size hgg8) hbgs3 rfl (za1 (zaB (S0.lt 0 rfl) hgg8) (za1 (zaB (S0.lt 1 rfl) hgg8) (za1 (zaB (S0.lt 2 rfl) hgg8) (za1 (zaB (S0.lt 3 rfl) hgg8) (za1 (zaB (S0.lt 4 rfl) hgg8) (za1 (zaB (S0.lt 5 rfl) hgg8) (za1 (zaB (S0.lt 6 rfl) hgg8) zfv)))))))
   have S:=S.add (hf.v 14 rfl rfl)
   have S:Frm 40 [(13,.int .i64 (erq ((q2 - q1)*((q4') - (q3')) - ((q2') - (q1'))*(q4 - q3)))),(12,pT g8 0),(11,pT g7 0),(10,pT g6 0),(9,.bool false),(8,pT g5 0),(7,pT g4 0),(6,pT g3 0),(5,pT g2 0),(4,pT g1 0),(0,(aP b1 x1 y1 b2 x2 y2)),(1,(aP b3 x3 y3 b4 x4 y4)),(2,(aP b5 x5 y5 b6 x6 y6)),(3,(aP b7 x7 y7 b8 x8 y8))] [⟨g1,29,(lP b1 x1 y1 b2 x2 y2)⟩,⟨g2,29,(lP b3 x3 y3 b4 x4 y4)⟩,⟨g3,29,(lP b5 x5 y5 b6 x6 y6)⟩,⟨g4,29,(lP b7 x7 y7 b8 x8 y8)⟩,⟨g5,29,lY⟩,⟨g6,29,(lP b9 x9 y9 b10 x10 y10)⟩,⟨g7,29,(lP b11 x11 y11 b12 x12 y12)⟩,⟨g8,27,(aL b13 x13 y13)⟩] V _ _ _:=S
   clear hf hl hdis hs hp S0
   refine hK3 _ _ ?_
   refine wp_seq_k fun K4 hK4=>?_
   refine wsp fun K5 hK5=>?_
   refine mv S 0 fun a S=>?_
   refine tv S (zgp _ (by decide) rfl (S.at 0 rfl) rfl) fun a S=>?_
   refine hK5 _ _ ?_
   rcases zv9 (!decide (erq ((q2 - q1)*((q4') - (q3')) - ((q2') - (q1'))*(q4 - q3))=0))with hc33|hc33
   ·refine wp_cond_true ((S.at 0 rfl).trans (congrArg Value.bool hc33)) ?_
    refine wp_seq_k fun K6 hK6=>?_
    have S:=S.keep [9,8] (ls':=[(9,.bool false),(8,pT g5 0)]) rfl
    refine zaD ?_
    refine tc S (F:=PT 2 (((0:Int):Rat)) (((0:Int):Rat))) (zda Tryz.func47) (vOf (n:=0) (m:=0) (by decide)) fun v a V8 hF hb S=>?_
    obtain⟨b14,x14,y14,b15,x15,y15,rfl,hq14,hq15,⟨hk27,hk28⟩,⟨hk29,hk30⟩,⟨ok27,ok28⟩,ok29,ok30⟩:=hF
    have S:=S.know ok27
    have S:=S.know ok28
    have S:=S.know ok29
    have S:=S.know ok30
    refine sto S 4 (fun ht=>zaj rfl (S.at 2 rfl) (S.at 0 rfl) zaR rfl (zvZ rfl) ht) fun V9 S=>?_
    refine av S (zcB rfl) fun a S=>?_
    refine hK6 _ _ ?_
    refine wp_ret ?_
    exact ze4 rfl S (S.at 2 rfl) (i:=4) rfl Tryz.underlying29 rfl zaR (S.at 0 rfl) ⟨_,rfl,⟨b14,x14,y14,b15,x15,y15,congrArg (fun u=>Value.tuple #[(aP b14 x14 y14 b15 x15 y15),.bool u]) (zjf hc33).2,PtTo.to (q:=((0:Int):Rat)) (q':=((0:Int):Rat)) (V:=V9) ⟨hq14,hq15,hk27,hk28,hk29,hk30,(S.num 3 rfl),(S.num 2 rfl),(S.num 1 rfl),(S.num 0 rfl)⟩ (congrArg Prod.fst (zjf hc33).1) (congrArg Prod.snd (zjf hc33).1) (by omega)⟩,S.below⟩
   ·refine wp_cond_false ((S.at 0 rfl).trans (congrArg Value.bool hc33)) ?_
    refine wp_skip ?_
    refine hK4 _ _ ?_
    refine wp_seq_k fun K7 hK7=>?_
    have S:=S.keep [12,10,9,8,4] (ls':=[(12,pT g8 0),(10,pT g6 0),(9,.bool false),(8,pT g5 0),(4,pT g1 0)]) rfl
    obtain⟨W3,hW3⟩:∃W,W=V7:=⟨_,rfl⟩
    rw[<-hW3]at S ⊢
    have S0:=S
    refine fr 5 [35,36,37,38,39] [IsV ((aP b1 x1 y1 b2 x2 y2)),IsV ((aP b9 x9 y9 b10 x10 y10)),IsV ((aG b13 x13 y13)),PT ((max ((max K 1)+(max K 1)+1) 1)+(max ((max (2*((max ((max K 1)+(max K 1)+1) 1)+(max ((max K 1)+(max K 1)+1) 1))+1) 1)+(max (2*((max ((max K 1)+(max K 1)+1) 1)+(max ((max K 1)+(max K 1)+1) 1))+1) 1)) 1)) ((q2 - q1)*(((q3 - q1)*((q4') - (q3')) - ((q3') - (q1'))*(q4 - q3))/((q2 - q1)*((q4') - (q3')) - ((q2') - (q1'))*(q4 - q3)))) (((q2') - (q1'))*(((q3 - q1)*((q4') - (q3')) - ((q3') - (q1'))*(q4 - q3))/((q2 - q1)*((q4') - (q3')) - ((q2') - (q1'))*(q4 - q3)))),PT ((max K 1)+(max ((max ((max K 1)+(max K 1)+1) 1)+(max ((max (2*((max ((max K 1)+(max K 1)+1) 1)+(max ((max K 1)+(max K 1)+1) 1))+1) 1)+(max (2*((max ((max K 1)+(max K 1)+1) 1)+(max ((max K 1)+(max K 1)+1) 1))+1) 1)) 1)) 1)+1) (q1+((q2 - q1)*(((q3 - q1)*((q4') - (q3')) - ((q3') - (q1'))*(q4 - q3))/((q2 - q1)*((q4') - (q3')) - ((q2') - (q1'))*(q4 - q3))))) ((q1')+(((q2') - (q1'))*(((q3 - q1)*((q4') - (q3')) - ((q3') - (q1'))*(q4 - q3))/((q2 - q1)*((q4') - (q3')) - ((q2') - (q1'))*(q4 - q3)))))] S ?_ ?_
    ·refine sc (fun _ _ S _ _=>sv rfl (zaL rfl (S.at 4 rfl) (S.bx 0 rfl) rfl)) ?_
     refine sc (fun _ _ S _ _=>sv rfl (zaL rfl (S.at 1 rfl) (S.bx 5 rfl) rfl)) ?_
     refine sc (fun _ _ S _ _=>sv rfl (zeM rfl (S.at 0 rfl) (S.bx 7 rfl) rfl)) ?_
     refine sc (fun _ _ S _ hd=>sl rfl (rc2 Tryz.func49 (hd.v 1 rfl rfl) (hd.v 2 rfl rfl)) (zsT (T.keep S.below) (zby S 6 hq9 hq10 hk17 hk18 hk19 hk20).any (show QT ((max (2*((max ((max K 1)+(max K 1)+1) 1)+(max ((max K 1)+(max K 1)+1) 1))+1) 1)+(max (2*((max ((max K 1)+(max K 1)+1) 1)+(max ((max K 1)+(max K 1)+1) 1))+1) 1)) (((q3 - q1)*((q4') - (q3')) - ((q3') - (q1'))*(q4 - q3))/((q2 - q1)*((q4') - (q3')) - ((q2') - (q1'))*(q4 - q3))) ((aG b13 x13 y13)) _ from⟨b13,x13,y13,rfl,hq13,hk25,hk26,(S.num 1 rfl),(S.num 0 rfl)⟩).any (by omega) (by omega))) ?_
     refine sc (fun _ _ S _ hd=>sl rfl (rc2 Tryz.func48 (hd.v 0 rfl rfl) rfl) (zvB (T.keep S.below) (p4 S 22 hp0) ((hd.r 3 rfl rfl)).any (by omega) (by omega))) ?_
     exact sn
    ·intro a3 V10 S hB hf
     obtain⟨b16,x16,y16,b17,x17,y17,hv4,hq16,hq17,⟨hk31,hk32⟩,⟨hk33,hk34⟩,⟨ok31,ok32⟩,ok33,ok34⟩:=hf.r 4 rfl rfl
     have S:=S.add hv4
     have S:=S.know ok31
     have S:=S.know ok32
     have S:=S.know ok33
     have S:=S.know ok34
     clear hf S0
     show wpList _ _ _ [_,_] _ _
     refine sto S 4 (fun ht=>zaj rfl (S.at 4 rfl) (S.at 0 rfl) zaR rfl (zvZ rfl) ht) fun V11 S=>?_
     refine av S (zcB rfl) fun a S=>?_
     refine hK7 _ _ ?_
     refine wp_ret ?_
     exact ze4 rfl S (S.at 4 rfl) (i:=4) rfl Tryz.underlying29 rfl zaR (S.at 0 rfl) ⟨_,rfl,⟨b16,x16,y16,b17,x17,y17,congrArg (fun u=>Value.tuple #[(aP b16 x16 y16 b17 x17 y17),.bool u]) (zjg hc33).2,PtTo.to (q:=q1+((q2 - q1)*(((q3 - q1)*((q4') - (q3')) - ((q3') - (q1'))*(q4 - q3))/((q2 - q1)*((q4') - (q3')) - ((q2') - (q1'))*(q4 - q3))))) (q':=(q1')+(((q2') - (q1'))*(((q3 - q1)*((q4') - (q3')) - ((q3') - (q1'))*(q4 - q3))/((q2 - q1)*((q4') - (q3')) - ((q2') - (q1'))*(q4 - q3))))) (V:=V11) ⟨hq16,hq17,hk31,hk32,hk33,hk34,(S.num 3 rfl),(S.num 2 rfl),(S.num 1 rfl),(S.num 0 rfl)⟩ (congrArg Prod.fst (zjg hc33).1) (congrArg Prod.snd (zjg hc33).1) (by omega)⟩,S.below⟩
theorem zpJ {K:Nat}{u1 u2 u3 u4:QQ}{v1 v2:Value}{V:World}(T:TT V)(h1:S1 K (u1) (u2) v1 V)(h2:S1 K (u3) (u4) v2 V)(h1K:1<=K)(hK0:K<=10):
  Calls Tryz.prog 54 #[v1,v2] V (zaf V (MT (19*K+12) (zcJ u1 u2 u3 u4))):=by
 obtain⟨b1,x1,y1,b2,x2,y2,b3,x3,y3,b4,x4,y4,rfl,⟨hq1,hq2,hk1,hk2,hk3,hk4,ok1,ok2,ok3,ok4⟩,⟨hq3,hq4,hk5,hk6,hk7,hk8,ok5,ok6,ok7,ok8⟩⟩:=h1
 obtain⟨b5,x5,y5,b6,x6,y6,b7,x7,y7,b8,x8,y8,rfl,⟨hq5,hq6,hk9,hk10,hk11,hk12,ok9,ok10,ok11,ok12⟩,⟨hq7,hq8,hk13,hk14,hk15,hk16,ok13,ok14,ok15,ok16⟩⟩:=h2
 refine fb Tryz.func54 Tryz.ntmps54 (zaa ok9 (zaa ok10 (zaa ok11 (zaa ok12 (zaa ok13 (zaa ok14 (zaa ok15 (zaa ok16 (zaa ok1 (zaa ok2 (zaa ok3 (zaa ok4 (zaa ok5 (zaa ok6 (zaa ok7 (zaa ok8 zau)))))))))))))))) (fun a S=>?_)
 refine wsp fun K1 hK1=>?_
 refine tb S 0 (lT b1 x1 y1 b2 x2 y2 b3 x3 y3 b4 x4 y4) fun g1 a V1 hgg1 S=>?_
 refine tb S 2 (lT b5 x5 y5 b6 x6 y6 b7 x7 y7 b8 x8 y8) fun g2 a V2 hgg2 S=>?_
 refine ti S (cs:=[.int .i8 0,.bool false,.slice none 0 0,.slice none 0 0,.bool false,.slice none 0 0,.slice none 0 0,.bool false,.slice none 0 0,.slice none 0 0,.bool false,.slice none 0 0,.slice none 0 0]) (zam rfl (Tryz.zeroValue42 _) rfl) (fun g3=>[⟨g1,70,(lT b1 x1 y1 b2 x2 y2 b3 x3 y3 b4 x4 y4)⟩,⟨g2,70,(lT b5 x5 y5 b6 x6 y6 b7 x7 y7 b8 x8 y8)⟩,⟨g3,42,[.int .i8 0,.bool false,.slice none 0 0,.slice none 0 0,.bool false,.slice none 0 0,.slice none 0 0,.bool false,.slice none 0 0,.slice none 0 0,.bool false,.slice none 0 0,.slice none 0 0]⟩]) fun g3 a V3 hgg3 S=>?_
 refine hK1 _ _ ?_
 refine wp_seq_k fun K2 hK2=>?_
 refine wsp fun K3 hK3=>?_
 refine tv S (zad rfl (S.at 2 rfl) (S.bx 0 rfl) Tryz.underlying70 rfl (vs:=(lT b1 x1 y1 b2 x2 y2 b3 x3 y3 b4 x4 y4)) zaw rfl) fun a S=>?_
 refine tv S (zad rfl (S.at 2 rfl) (S.bx 1 rfl) Tryz.underlying70 rfl (vs:=(lT b5 x5 y5 b6 x6 y6 b7 x7 y7 b8 x8 y8)) zaw rfl) fun a S=>?_
 refine tc S (rc2 Tryz.func57 (S.at 1 rfl) (S.at 0 rfl)) (zpH (T.keep S.below) (show S1 K (u1) (u2) _ _ from s1m (zbg S 8 hq1 hq2 hk1 hk2 hk3 hk4) (zbg S 12 hq3 hq4 hk5 hk6 hk7 hk8)) (show S1 K (u3) (u4) _ _ from s1m (zbg S 0 hq5 hq6 hk9 hk10 hk11 hk12) (zbg S 4 hq7 hq8 hk13 hk14 hk15 hk16))) fun v a V4 hF hb S=>?_
 subst hF
 refine tv S (zbl rfl (S.at 0 rfl)) fun a S=>?_
 refine hK3 _ _ ?_
 rcases zv9 (!(zbC u1 u2 u3 u4))with hc10|hc10
 ·refine wp_cond_true ((S.at 0 rfl).trans (congrArg Value.bool hc10)) ?_
  refine wsp fun K4 hK4=>?_
  refine tc S (F:=PT 2 (((0:Int):Rat)) (((0:Int):Rat))) (zda Tryz.func47) (vOf (n:=0) (m:=0) (by decide)) fun v a V5 hF hb S=>?_
  obtain⟨b9,x9,y9,b10,x10,y10,rfl,hq9,hq10,⟨hk17,hk18⟩,⟨hk19,hk20⟩,⟨ok17,ok18⟩,ok19,ok20⟩:=hF
  have S:=S.know ok17
  have S:=S.know ok18
  have S:=S.know ok19
  have S:=S.know ok20
  refine tc S (F:=PT 2 (((0:Int):Rat)) (((0:Int):Rat))) (zda Tryz.func47) (vOf (n:=0) (m:=0) (by decide)) fun v a V6 hF hb S=>?_
  obtain⟨b11,x11,y11,b12,x12,y12,rfl,hq11,hq12,⟨hk21,hk22⟩,⟨hk23,hk24⟩,⟨ok21,ok22⟩,ok23,ok24⟩:=hF
  have S:=S.know ok21
  have S:=S.know ok22
  have S:=S.know ok23
  have S:=S.know ok24
  refine tv S (zuI (p:=(b9,x9,y9,b10,x10,y10)) (s:=(b11,x11,y11,b12,x12,y12)) rfl rfl (S.at 1 rfl) (S.at 0 rfl)) fun a S=>?_
  refine sto S 2 (fun ht=>zaj rfl (S.at 7 rfl) (S.at 0 rfl) zaZ rfl (zvZ rfl) ht) fun V7 S=>?_
  refine hK4 _ _ ?_
  refine wp_ret ?_
  exact zar rfl S (S.at 7 rfl) (i:=2) rfl Tryz.underlying42 rfl zaZ ⟨_,rfl,(zuJ (m:=zcJ u1 u2 u3 u4) (zdt hc10).1 (zdt hc10).2.1 (zdt hc10).2.2.1 (zdt hc10).2.2.2.1 (zdt hc10).2.2.2.2 ⟨hq9,hq10,(zv2 hk17 (by omega)),(zv2 hk18 (by omega)),(zv2 hk19 (by omega)),(zv2 hk20 (by omega)),(S.num 7 rfl),(S.num 6 rfl),(S.num 5 rfl),(S.num 4 rfl)⟩ ⟨hq11,hq12,(zv2 hk21 (by omega)),(zv2 hk22 (by omega)),(zv2 hk23 (by omega)),(zv2 hk24 (by omega)),(S.num 3 rfl),(S.num 2 rfl),(S.num 1 rfl),(S.num 0 rfl)⟩),S.below⟩
 ·refine wp_cond_false ((S.at 0 rfl).trans (congrArg Value.bool hc10)) ?_
  refine wp_skip ?_
  refine hK2 _ _ ?_
  refine wp_seq_k fun K5 hK5=>?_
  refine wsp fun K6 hK6=>?_
  refine tv S (zab rfl (S.at 6 rfl) (zbv _)) fun a S=>?_
  refine lp S 0 0 fun a S=>?_
  refine tv S (zab rfl (S.at 8 rfl) (zbw _)) fun a S=>?_
  refine lp S 0 0 fun a S=>?_
  refine tv S (zab rfl (S.at 9 rfl) (zbv _)) fun a S=>?_
  refine lp S 0 1 fun a S=>?_
  refine tv S (zab rfl (S.at 11 rfl) (zbw _)) fun a S=>?_
  refine lp S 0 1 fun a S=>?_
  refine tc S (F:=PB (19*K+12) ((zcx u1 u2 u3 u4).1) ((zcx u1 u2 u3 u4).2) (.bool (decide (den u1 u2 u3 u4≠0)))) (rc4 Tryz.func12 (S.at 6 rfl) (S.at 4 rfl) (S.at 2 rfl) (S.at 0 rfl)) (zpI (T.keep S.below) (zcS S 8 hq1 hq2 hk1 hk2 hk3 hk4) (zcS S 12 hq3 hq4 hk5 hk6 hk7 hk8) (zcS S 0 hq5 hq6 hk9 hk10 hk11 hk12) (zcS S 4 hq7 hq8 hk13 hk14 hk15 hk16) (by omega)) fun v a V8 hF hb S=>?_
  obtain⟨b13,x13,y13,b14,x14,y14,rfl,hq13,hq14,hk25,hk26,hk27,hk28,ok25,ok26,ok27,ok28⟩:=hF
  have S:=S.know ok25
  have S:=S.know ok26
  have S:=S.know ok27
  have S:=S.know ok28
  refine mv S 0 fun a S=>?_
  refine tv S (zaT rfl (S.at 0 rfl) rfl) fun a S=>?_
  refine tv S (zaT rfl (S.at 1 rfl) rfl) fun a S=>?_
  refine ti S (cs:=lY) (zam rfl (Tryz.zeroValue29 _) rfl) (fun g4=>[⟨g1,70,(lT b1 x1 y1 b2 x2 y2 b3 x3 y3 b4 x4 y4)⟩,⟨g2,70,(lT b5 x5 y5 b6 x6 y6 b7 x7 y7 b8 x8 y8)⟩,⟨g3,42,[.int .i8 0,.bool false,.slice none 0 0,.slice none 0 0,.bool false,.slice none 0 0,.slice none 0 0,.bool false,.slice none 0 0,.slice none 0 0,.bool false,.slice none 0 0,.slice none 0 0]⟩,⟨g4,29,lY⟩]) fun g4 a V9 hgg4 S=>?_
  refine sto S 3 (fun ht=>zaj rfl (S.at 0 rfl) (S.at 2 rfl) zaR rfl (zvZ rfl) ht) fun V10 S=>?_
  refine tv S (zak rfl (S.at 1 rfl)) fun a S=>?_
  refine hK6 _ _ ?_
  refine wp_seq_k fun K7 hK7=>?_
  have S:=S.keep [6,5,4,3,2] (ls':=[(6,.bool (decide (den u1 u2 u3 u4≠0))),(5,pT g4 0),(4,pT g3 0),(3,pT g2 0),(2,pT g1 0)]) rfl
  refine zaD ?_
  refine mv S 0 fun a S=>?_
  refine hK7 _ _ ?_
  rcases zv9 (decide (den u1 u2 u3 u4≠0))with hc26|hc26
  ·refine wp_cond_true ((S.at 0 rfl).trans (congrArg Value.bool hc26)) ?_
   refine wsp fun K8 hK8=>?_
   refine lp S 2 3 fun a S=>?_
   refine lp S 3 3 fun a S=>?_
   refine tc S (F:=MT (max (19*K+12) 1) (zbM (zcx u1 u2 u3 u4) (zcx u1 u2 u3 u4))) (rc2 Tryz.func95 (S.at 1 rfl) (S.at 0 rfl)) (zks (T.keep S.below) (zby S 0 hq13 hq14 hk25 hk26 hk27 hk28).any (zby S 0 hq13 hq14 hk25 hk26 hk27 hk28).any) fun v a V11 hF hb S=>?_
   obtain⟨b15,x15,y15,b16,x16,y16,b17,x17,y17,b18,x18,y18,rfl,⟨hq15,hq16,hk29,hk30,hk31,hk32,ok29,ok30,ok31,ok32⟩,⟨hq17,hq18,hk33,hk34,hk35,hk36,ok33,ok34,ok35,ok36⟩⟩:=hF
   have S:=S.know ok29
   have S:=S.know ok30
   have S:=S.know ok31
   have S:=S.know ok32
   have S:=S.know ok33
   have S:=S.know ok34
   have S:=S.know ok35
   have S:=S.know ok36
   refine sto S 2 (fun ht=>zaj rfl (S.at 6 rfl) (S.at 0 rfl) zaZ rfl (zvZ rfl) ht) fun V12 S=>?_
   refine hK8 _ _ ?_
   refine wp_ret ?_
   exact zar rfl S (S.at 6 rfl) (i:=2) rfl Tryz.underlying42 rfl zaZ ⟨_,rfl,((MT.of (show MT (max (19*K+12) 1) (zbM (zcx u1 u2 u3 u4) (zcx u1 u2 u3 u4)) _ _ from mtm (zgS S 4 hq15 hq16 hk29 hk30 hk31 hk32) (zgS S 0 hq17 hq18 hk33 hk34 hk35 hk36)) (zlN hc10 hc26)).to (by omega)),S.below⟩
  ·refine wp_cond_false ((S.at 0 rfl).trans (congrArg Value.bool hc26)) ?_
   refine wp_skip ?_
   refine hK5 _ _ ?_
   refine wp_seq_k fun K9 hK9=>?_
   obtain⟨W1,hW1⟩:∃W,W=V10:=⟨_,rfl⟩
   rw[<-hW1]at S ⊢
   have S0:=S
   refine fr 11 [30,31,32,33,34,35,36,37,38,39,40] [IsV (pT g1 0),IsV ((aP b1 x1 y1 b2 x2 y2)),IsV (pT g2 0),IsV ((aP b5 x5 y5 b6 x6 y6)),P1 K ((zb4 u1 u3).1) ((zb4 u1 u3).2),IsV (pT g1 6),IsV ((aP b3 x3 y3 b4 x4 y4)),IsV (pT g2 6),IsV ((aP b7 x7 y7 b8 x8 y8)),P1 K ((zbe u2 u4).1) ((zbe u2 u4).2),MT (max K 1) (zbM (zb4 u1 u3) (zbe u2 u4))] S ?_ ?_
   ·refine sc (fun _ _ S _ _=>sv rfl (zab rfl (S.at 5 rfl) (zbv _))) ?_
    refine sc (fun _ _ S _ hd=>sv rfl (zaL rfl (hd.v 0 rfl rfl) (S.bx 0 rfl) rfl)) ?_
    refine sc (fun _ _ S _ _=>sv rfl (zab rfl (S.at 4 rfl) (zbv _))) ?_
    refine sc (fun _ _ S _ hd=>sv rfl (zaL rfl (hd.v 2 rfl rfl) (S.bx 1 rfl) rfl)) ?_
    refine sc (fun _ _ S _ hd=>sl rfl (rc2 Tryz.func96 (hd.v 1 rfl rfl) (hd.v 3 rfl rfl)) (ztD (T.keep S.below) (zcS S 12 hq1 hq2 hk1 hk2 hk3 hk4) (zcS S 4 hq5 hq6 hk9 hk10 hk11 hk12) (by omega))) ?_
    refine sc (fun _ _ S _ _=>sv rfl (zab rfl (S.at 5 rfl) (zbw _))) ?_
    refine sc (fun _ _ S _ hd=>sv rfl (zaL rfl (hd.v 5 rfl rfl) (S.bx 0 rfl) rfl)) ?_
    refine sc (fun _ _ S _ _=>sv rfl (zab rfl (S.at 4 rfl) (zbw _))) ?_
    refine sc (fun _ _ S _ hd=>sv rfl (zaL rfl (hd.v 7 rfl rfl) (S.bx 1 rfl) rfl)) ?_
    refine sc (fun _ _ S _ hd=>sl rfl (rc2 Tryz.func97 (hd.v 6 rfl rfl) (hd.v 8 rfl rfl)) (zpG (T.keep S.below) (zcS S 16 hq3 hq4 hk5 hk6 hk7 hk8) (zcS S 8 hq7 hq8 hk13 hk14 hk15 hk16) (by omega))) ?_
    refine sc (fun _ _ S _ hd=>sl rfl (rc2 Tryz.func95 rfl rfl) (zks (T.keep S.below) (hd.r 4 rfl rfl) (hd.r 9 rfl rfl))) ?_
    exact sn
   ·intro a1 V13 S hB hf
    obtain⟨b19,x19,y19,b20,x20,y20,b21,x21,y21,b22,x22,y22,hv1,⟨hq19,hq20,hk37,hk38,hk39,hk40,ok37,ok38,ok39,ok40⟩,⟨hq21,hq22,hk41,hk42,hk43,hk44,ok41,ok42,ok43,ok44⟩⟩:=hf.r 10 rfl rfl
    have S:=S.add hv1
    have S:=S.know ok37
    have S:=S.know ok38
    have S:=S.know ok39
    have S:=S.know ok40
    have S:=S.know ok41
    have S:=S.know ok42
    have S:=S.know ok43
    have S:=S.know ok44
    clear hf S0
    show wpList _ _ _ [_] _ _
    refine sto S 2 (fun ht=>zaj rfl (S.at 4 rfl) (S.at 0 rfl) zaZ rfl (zvZ rfl) ht) fun V14 S=>?_
    refine hK9 _ _ ?_
    refine wp_ret ?_
    exact zar rfl S (S.at 4 rfl) (i:=2) rfl Tryz.underlying42 rfl zaZ ⟨_,rfl,((MT.of (show MT (max K 1) (zbM (zb4 u1 u3) (zbe u2 u4)) _ _ from mtm (zgS S 4 hq19 hq20 hk37 hk38 hk39 hk40) (zgS S 0 hq21 hq22 hk41 hk42 hk43 hk44)) (zkr hc10 hc26)).to (by omega)),S.below⟩
theorem zmR {K:Nat}{q1 q1' q2 q2' q3 q3' q4 q4':Rat}{v1 v2 v3 v4:Value}{V:World}(T:TT V)(h1:P1 K (q1) (q1') v1 V)(h2:P1 K (q2) (q2') v2 V)(h3:P1 K (q3) (q3') v3 V)(h4:P1 K (q4) (q4') v4 V)(h1K:1<=K)(hK0:K<=10:=by omega):
  Calls Tryz.prog 17 #[v1,v2,v3,v4] V (zaf V (MT (19*K+12) (zbG (q1,q1') (q2,q2') (q3,q3') (q4,q4')))):=by
 obtain⟨b1,x1,y1,b2,x2,y2,rfl,hq1,hq2,⟨hk1,hk2⟩,⟨hk3,hk4⟩,⟨ok1,ok2⟩,ok3,ok4⟩:=h1
 obtain⟨b3,x3,y3,b4,x4,y4,rfl,hq3,hq4,⟨hk5,hk6⟩,⟨hk7,hk8⟩,⟨ok5,ok6⟩,ok7,ok8⟩:=h2
 obtain⟨b5,x5,y5,b6,x6,y6,rfl,hq5,hq6,⟨hk9,hk10⟩,⟨hk11,hk12⟩,⟨ok9,ok10⟩,ok11,ok12⟩:=h3
 obtain⟨b7,x7,y7,b8,x8,y8,rfl,hq7,hq8,⟨hk13,hk14⟩,⟨hk15,hk16⟩,⟨ok13,ok14⟩,ok15,ok16⟩:=h4
 have hp0:=fun {V':World}=>p1m (V:=V') hq1 hq2 hk1 hk2 hk3 hk4
 have hp1:=fun {V':World}=>p1m (V:=V') hq3 hq4 hk5 hk6 hk7 hk8
 have hp2:=fun {V':World}=>p1m (V:=V') hq5 hq6 hk9 hk10 hk11 hk12
 have hp3:=fun {V':World}=>p1m (V:=V') hq7 hq8 hk13 hk14 hk15 hk16
 refine fb Tryz.func17 Tryz.ntmps17 (zaa ok13 (zaa ok14 (zaa ok15 (zaa ok16 (zaa ok9 (zaa ok10 (zaa ok11 (zaa ok12 (zaa ok5 (zaa ok6 (zaa ok7 (zaa ok8 (zaa ok1 (zaa ok2 (zaa ok3 (zaa ok4 zau)))))))))))))))) (fun a S=>?_)
 refine wsp fun K1 hK1=>?_
 refine tb S 0 (lP b1 x1 y1 b2 x2 y2) fun g1 a V1 hgg1 S=>?_
 refine tb S 2 (lP b3 x3 y3 b4 x4 y4) fun g2 a V2 hgg2 S=>?_
 refine tb S 4 (lP b5 x5 y5 b6 x6 y6) fun g3 a V3 hgg3 S=>?_
 refine tb S 6 (lP b7 x7 y7 b8 x8 y8) fun g4 a V4 hgg4 S=>?_
 refine ti S (cs:=[.int .i8 0,.bool false,.slice none 0 0,.slice none 0 0,.bool false,.slice none 0 0,.slice none 0 0,.bool false,.slice none 0 0,.slice none 0 0,.bool false,.slice none 0 0,.slice none 0 0]) (zam rfl (Tryz.zeroValue42 _) rfl) (fun g5=>[⟨g1,29,(lP b1 x1 y1 b2 x2 y2)⟩,⟨g2,29,(lP b3 x3 y3 b4 x4 y4)⟩,⟨g3,29,(lP b5 x5 y5 b6 x6 y6)⟩,⟨g4,29,(lP b7 x7 y7 b8 x8 y8)⟩,⟨g5,42,[.int .i8 0,.bool false,.slice none 0 0,.slice none 0 0,.bool false,.slice none 0 0,.slice none 0 0,.bool false,.slice none 0 0,.slice none 0 0,.bool false,.slice none 0 0,.slice none 0 0]⟩]) fun g5 a V5 hgg5 S=>?_
 refine hK1 _ _ ?_
 refine wp_seq_k fun K2 hK2=>?_
 obtain⟨W1,hW1⟩:∃W,W=V5:=⟨_,rfl⟩
 rw[<-hW1]at S ⊢
 have S0:=S
 refine fr 7 [9,10,11,12,13,14,15] [IsV ((aP b1 x1 y1 b2 x2 y2)),IsV ((aP b3 x3 y3 b4 x4 y4)),S1 K ((spL (q1,q1') (q2,q2'))) ((spH (q1,q1') (q2,q2'))),IsV ((aP b5 x5 y5 b6 x6 y6)),IsV ((aP b7 x7 y7 b8 x8 y8)),S1 K ((spL (q3,q3') (q4,q4'))) ((spH (q3,q3') (q4,q4'))),MT (19*K+12) (zcJ (spL (q1,q1') (q2,q2')) (spH (q1,q1') (q2,q2')) (spL (q3,q3') (q4,q4')) (spH (q3,q3') (q4,q4')))] S ?_ ?_
 ·refine sc (fun _ _ S _ _=>sv rfl (zaL rfl (S.at 4 rfl) (S.bx 0 rfl) rfl)) ?_
  refine sc (fun _ _ S _ _=>sv rfl (zaL rfl (S.at 3 rfl) (S.bx 1 rfl) rfl)) ?_
  refine sc (fun _ _ S _ hd=>sl rfl (rc2 Tryz.func53 (hd.v 0 rfl rfl) (hd.v 1 rfl rfl)) (zmQ (T.keep S.below) (p4 S 12 hp0) (p4 S 8 hp1))) ?_
  refine sc (fun _ _ S _ _=>sv rfl (zaL rfl (S.at 2 rfl) (S.bx 2 rfl) rfl)) ?_
  refine sc (fun _ _ S _ _=>sv rfl (zaL rfl (S.at 1 rfl) (S.bx 3 rfl) rfl)) ?_
  refine sc (fun _ _ S _ hd=>sl rfl (rc2 Tryz.func53 (hd.v 3 rfl rfl) (hd.v 4 rfl rfl)) (zmQ (T.keep S.below) (p4 S 4 hp2) (p4 S 0 hp3))) ?_
  refine sc (fun _ _ S _ hd=>sl rfl (rc2 Tryz.func54 rfl rfl) (zpJ (T.keep S.below) (hd.r 2 rfl rfl) (hd.r 5 rfl rfl) (by omega) (by omega))) ?_
  exact sn
 ·intro a1 V6 S hB hf
  obtain⟨b9,x9,y9,b10,x10,y10,b11,x11,y11,b12,x12,y12,hv1,⟨hq9,hq10,hk17,hk18,hk19,hk20,ok17,ok18,ok19,ok20⟩,⟨hq11,hq12,hk21,hk22,hk23,hk24,ok21,ok22,ok23,ok24⟩⟩:=hf.r 6 rfl rfl
  have S:=S.add hv1
  have S:=S.know ok17
  have S:=S.know ok18
  have S:=S.know ok19
  have S:=S.know ok20
  have S:=S.know ok21
  have S:=S.know ok22
  have S:=S.know ok23
  have S:=S.know ok24
  clear hf S0
  show wpList _ _ _ [_] _ _
  refine sto S 4 (fun ht=>zaj rfl (S.at 1 rfl) (S.at 0 rfl) zaZ rfl (zvZ rfl) ht) fun V7 S=>?_
  refine hK2 _ _ ?_
  refine wp_ret ?_
  exact zar rfl S (S.at 1 rfl) (i:=4) rfl Tryz.underlying42 rfl zaZ ⟨_,rfl,(MT.of (show MT (19*K+12) (zcJ (spL (q1,q1') (q2,q2')) (spH (q1,q1') (q2,q2')) (spL (q3,q3') (q4,q4')) (spH (q3,q3') (q4,q4'))) _ _ from mtm (zgS S 4 hq9 hq10 hk17 hk18 hk19 hk20) (zgS S 0 hq11 hq12 hk21 hk22 hk23 hk24)) (zko (q1,q1') (q2,q2') (q3,q3') (q4,q4'))),S.below⟩
theorem zrR {K:Nat}{q1 q1' q2 q2' q3 q3' q4 q4':Rat}{v1 v2 v3 v4:Value}{V:World}(T:TT V)(h1:P1 K (q1) (q1') v1 V)(h2:P1 K (q2) (q2') v2 V)(h3:P1 K (q3) (q3') v3 V)(h4:P1 K (q4) (q4') v4 V)(h1K:1<=K)(hK0:K<=10):
  Calls Tryz.prog 19 #[v1,v2,v3,v4] V (zaf V (fun v _=>v= .bool ((zbG (q1,q1') (q2,q2') (q3,q3') (q4,q4')).has))):=by
 obtain⟨b1,x1,y1,b2,x2,y2,rfl,hq1,hq2,⟨hk1,hk2⟩,⟨hk3,hk4⟩,⟨ok1,ok2⟩,ok3,ok4⟩:=h1
 obtain⟨b3,x3,y3,b4,x4,y4,rfl,hq3,hq4,⟨hk5,hk6⟩,⟨hk7,hk8⟩,⟨ok5,ok6⟩,ok7,ok8⟩:=h2
 obtain⟨b5,x5,y5,b6,x6,y6,rfl,hq5,hq6,⟨hk9,hk10⟩,⟨hk11,hk12⟩,⟨ok9,ok10⟩,ok11,ok12⟩:=h3
 obtain⟨b7,x7,y7,b8,x8,y8,rfl,hq7,hq8,⟨hk13,hk14⟩,⟨hk15,hk16⟩,⟨ok13,ok14⟩,ok15,ok16⟩:=h4
 have hp0:=fun {V':World}=>p1m (V:=V') hq1 hq2 hk1 hk2 hk3 hk4
 have hp1:=fun {V':World}=>p1m (V:=V') hq3 hq4 hk5 hk6 hk7 hk8
 have hp2:=fun {V':World}=>p1m (V:=V') hq5 hq6 hk9 hk10 hk11 hk12
 have hp3:=fun {V':World}=>p1m (V:=V') hq7 hq8 hk13 hk14 hk15 hk16
 refine fb Tryz.func19 Tryz.ntmps19 (zaa ok13 (zaa ok14 (zaa ok15 (zaa ok16 (zaa ok9 (zaa ok10 (zaa ok11 (zaa ok12 (zaa ok5 (zaa ok6 (zaa ok7 (zaa ok8 (zaa ok1 (zaa ok2 (zaa ok3 (zaa ok4 zau)))))))))))))))) (fun a S=>?_)
 refine wsp fun K1 hK1=>?_
 refine tb S 0 (lP b1 x1 y1 b2 x2 y2) fun g1 a V1 hgg1 S=>?_
 refine tb S 2 (lP b3 x3 y3 b4 x4 y4) fun g2 a V2 hgg2 S=>?_
 refine tb S 4 (lP b5 x5 y5 b6 x6 y6) fun g3 a V3 hgg3 S=>?_
 refine tb S 6 (lP b7 x7 y7 b8 x8 y8) fun g4 a V4 hgg4 S=>?_
 refine ac S fun a S=>?_
 refine hK1 _ _ ?_
 refine wp_seq_k fun K2 hK2=>?_
 have S:=S.keep [8,7,6,5,4] (ls':=[(8,.bool false),(7,pT g4 0),(6,pT g3 0),(5,pT g2 0),(4,pT g1 0)]) rfl
 obtain⟨W1,hW1⟩:∃W,W=V4:=⟨_,rfl⟩
 rw[<-hW1]at S ⊢
 have S0:=S
 refine fr 7 [9,10,11,12,13,14,15] [IsV ((aP b1 x1 y1 b2 x2 y2)),IsV ((aP b3 x3 y3 b4 x4 y4)),S1 K ((spL (q1,q1') (q2,q2'))) ((spH (q1,q1') (q2,q2'))),IsV ((aP b5 x5 y5 b6 x6 y6)),IsV ((aP b7 x7 y7 b8 x8 y8)),S1 K ((spL (q3,q3') (q4,q4'))) ((spH (q3,q3') (q4,q4'))),IsV (.bool (zbC (spL (q1,q1') (q2,q2')) (spH (q1,q1') (q2,q2')) (spL (q3,q3') (q4,q4')) (spH (q3,q3') (q4,q4'))))] S ?_ ?_
 ·refine sc (fun _ _ S _ _=>sv rfl (zaL rfl (S.at 4 rfl) (S.bx 0 rfl) rfl)) ?_
  refine sc (fun _ _ S _ _=>sv rfl (zaL rfl (S.at 3 rfl) (S.bx 1 rfl) rfl)) ?_
  refine sc (fun _ _ S _ hd=>sl rfl (rc2 Tryz.func53 (hd.v 0 rfl rfl) (hd.v 1 rfl rfl)) (zmQ (T.keep S.below) (p4 S 12 hp0) (p4 S 8 hp1))) ?_
  refine sc (fun _ _ S _ _=>sv rfl (zaL rfl (S.at 2 rfl) (S.bx 2 rfl) rfl)) ?_
  refine sc (fun _ _ S _ _=>sv rfl (zaL rfl (S.at 1 rfl) (S.bx 3 rfl) rfl)) ?_
  refine sc (fun _ _ S _ hd=>sl rfl (rc2 Tryz.func53 (hd.v 3 rfl rfl) (hd.v 4 rfl rfl)) (zmQ (T.keep S.below) (p4 S 4 hp2) (p4 S 0 hp3))) ?_
  refine sc (fun _ _ S _ hd=>sl rfl (rc2 Tryz.func57 rfl rfl) (zpH (T.keep S.below) (hd.r 2 rfl rfl) (hd.r 5 rfl rfl))) ?_
  exact sn
 ·intro a1 V5 S hB hf
  have S:=S.add (hf.v 6 rfl rfl)
  clear hf S0
  show wpList _ _ _ [_] _ _
  refine av S (zak rfl (S.at 0 rfl)) fun a S=>?_
  refine hK2 _ _ ?_
  refine wp_ret ?_
  exact zay rfl S (S.at 0 rfl) ⟨_,rfl,congrArg Value.bool ((zlM _ _ _ _).trans (congrArg Mt.has (zko (q1,q1') (q2,q2') (q3,q3') (q4,q4')))),S.below⟩
end Go.Proofs.YtipckjmgdghkiaaGreatDoor
