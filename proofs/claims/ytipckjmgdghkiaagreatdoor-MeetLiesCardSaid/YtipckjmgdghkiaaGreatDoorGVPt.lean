/- A part. -/
import Derived.Test.YtipckjmgdghkiaaGreatDoorGPJoin
namespace Go.Proofs.YtipckjmgdghkiaaGreatDoor
open Go Go.RowKit
section
variable {v v1 v2:Value}{V V' W:World}{K K':Nat}{q q' q1 q2:Rat}{shs:List (TypeId × Nat)}{g:Nat}{vs:List Value}
def P1 (K:Nat)(q q':Rat)(v:Value)(V:World):Prop:=∃(b:Bool) (x y:Num) (b':Bool) (x' y':Num),v= .agg #[.bool b,.slice x.A x.n x.c,.slice y.A y.n y.c,.bool b',.slice x'.A x'.n x'.c,.slice y'.A y'.n y'.c]/\qOf b x.N y.N=q/\qOf b' x'.N y'.N=q'/\(x.n<=K/\y.n<=K)/\(x'.n<=K/\y'.n<=K)/\(x.ok V V.heap.size/\y.ok V V.heap.size)/\x'.ok V V.heap.size/\y'.ok V V.heap.size
theorem p1m {b d:Bool}{x y z u:Num}{q q':Rat}{K:Nat}{V:World}(h:qOf b x.N y.N=q)(h':qOf d z.N u.N=q')(h1:x.n<=K)(h2:y.n<=K)(h3:z.n<=K)(h4:u.n<=K)(o1:x.ok V V.heap.size)(o2:y.ok V V.heap.size)(o3:z.ok V V.heap.size)(o4:u.ok V V.heap.size):P1 K q q' (aP b x y d z u) V:=⟨b,x,y,d,z,u,rfl,h,h',⟨h1,h2⟩,⟨h3,h4⟩,⟨o1,o2⟩,o3,o4⟩
def PT (K:Nat)(q q':Rat)(v:Value)(V:World):Prop:=∃(b:Bool) (x y:Num) (b':Bool) (x' y':Num),v= .agg #[.bool b,.slice x.A x.n x.c,.slice y.A y.n y.c,.bool b',.slice x'.A x'.n x'.c,.slice y'.A y'.n y'.c]/\IsQ q b x y/\IsQ q' b' x' y'/\(x.n<=K/\y.n<=K)/\(x'.n<=K/\y'.n<=K)/\(x.ok V V.heap.size/\y.ok V V.heap.size)/\x'.ok V V.heap.size/\y'.ok V V.heap.size
theorem zsO {n:Nat}{ls:List (Tmp×Value)}{lb:List Bx}{w V:World}{e:List Num}{a:Act}{b d:Bool}{x y z u:Num}{q q':Rat}{K:Nat}(S:Frm n ls lb w e a V)(i:Nat)(h:IsQ q b x y)(h':IsQ q' d z u)(h1:x.n<=K)(h2:y.n<=K)(h3:z.n<=K)(h4:u.n<=K)(hi:(e.drop i).take 4=[x,y,z,u]:=by exact rfl):PT K q q' (aP b x y d z u) V:=
 have h5:∀z'∈[x,y,z,u],z'.ok V V.heap.size:=fun z' hz=>S.env.2 z' (List.mem_of_mem_drop (List.mem_of_mem_take (hi▸hz)))
 ⟨b,x,y,d,z,u,rfl,h,h',⟨h1,h2⟩,⟨h3,h4⟩,⟨h5 _ (by simp),h5 _ (by simp)⟩,h5 _ (by simp),h5 _ (by simp)⟩
theorem zby {n:Nat}{ls:List (Tmp×Value)}{lb:List Bx}{w V:World}{e:List Num}{a:Act}{b d:Bool}{x y z u:Num}{q q':Rat}{K:Nat}(S:Frm n ls lb w e a V)(i:Nat)(h:IsQ q b x y)(h':IsQ q' d z u)(h1:x.n<=K)(h2:y.n<=K)(h3:z.n<=K)(h4:u.n<=K)(hi:(e.drop i).take 4=[u,z,y,x]:=by exact rfl):PT K q q' (aP b x y d z u) V:=
 have h5:∀z'∈[u,z,y,x],z'.ok V V.heap.size:=fun z' hz=>S.env.2 z' (List.mem_of_mem_drop (List.mem_of_mem_take (hi▸hz)))
 ⟨b,x,y,d,z,u,rfl,h,h',⟨h1,h2⟩,⟨h3,h4⟩,⟨h5 _ (by simp),h5 _ (by simp)⟩,h5 _ (by simp),h5 _ (by simp)⟩
theorem zcS {n:Nat}{ls:List (Tmp×Value)}{lb:List Bx}{w V:World}{e:List Num}{a:Act}{b d:Bool}{x y z u:Num}{q q':Rat}{K:Nat}(S:Frm n ls lb w e a V)(i:Nat)(h:qOf b x.N y.N=q)(h':qOf d z.N u.N=q')(h1:x.n<=K)(h2:y.n<=K)(h3:z.n<=K)(h4:u.n<=K)(hi:(e.drop i).take 4=[x,y,z,u]:=by exact rfl):P1 K q q' (aP b x y d z u) V:=
 have h5:∀z'∈[x,y,z,u],z'.ok V V.heap.size:=fun z' hz=>S.env.2 z' (List.mem_of_mem_drop (List.mem_of_mem_take (hi▸hz)))
 ⟨b,x,y,d,z,u,rfl,h,h',⟨h1,h2⟩,⟨h3,h4⟩,⟨h5 _ (by simp),h5 _ (by simp)⟩,h5 _ (by simp),h5 _ (by simp)⟩
theorem zvX {n:Nat}{ls:List (Tmp×Value)}{lb:List Bx}{w V:World}{e:List Num}{a:Act}{b d:Bool}{x y z u:Num}{q q':Rat}{K:Nat}(S:Frm n ls lb w e a V)(i:Nat)(h:qOf b x.N y.N=q)(h':qOf d z.N u.N=q')(h1:x.n<=K)(h2:y.n<=K)(h3:z.n<=K)(h4:u.n<=K)(hi:(e.drop i).take 4=[u,z,y,x]:=by exact rfl):P1 K q q' (aP b x y d z u) V:=
 have h5:∀z'∈[u,z,y,x],z'.ok V V.heap.size:=fun z' hz=>S.env.2 z' (List.mem_of_mem_drop (List.mem_of_mem_take (hi▸hz)))
 ⟨b,x,y,d,z,u,rfl,h,h',⟨h1,h2⟩,⟨h3,h4⟩,⟨h5 _ (by simp),h5 _ (by simp)⟩,h5 _ (by simp),h5 _ (by simp)⟩
theorem PT.any (h:PT K q q' v V):P1 K q q' v V:=by
 obtain⟨b,x,y,b',x',y',h1,h2,h3,h4⟩:=h
 exact⟨b,x,y,b',x',y',h1,h2.q,h3.q,h4⟩
theorem P1.keep (h:P1 K q q' v V)(hb:Below V.heap.size V V'):P1 K q q' v V':=by
 obtain⟨b,x,y,b',x',y',h1,h2,h3,h4,h5,⟨h6,h7⟩,h8,h9⟩:=h
 exact⟨b,x,y,b',x',y',h1,h2,h3,h4,h5,⟨h6.later hb,h7.later hb⟩,h8.later hb,h9.later hb⟩
theorem PT.keep (h:PT K q q' v V)(hb:Below V.heap.size V V'):PT K q q' v V':=by
 obtain⟨b,x,y,b',x',y',h1,h2,h3,h4,h5,⟨h6,h7⟩,h8,h9⟩:=h
 exact⟨b,x,y,b',x',y',h1,h2,h3,h4,h5,⟨h6.later hb,h7.later hb⟩,h8.later hb,h9.later hb⟩
theorem P1.keepS (h:P1 K q q' v V)(hb:Sto shs g vs V V'):P1 K q q' v V':=by
 obtain⟨b,x,y,b',x',y',h1,h2,h3,h4,h5,⟨h6,h7⟩,h8,h9⟩:=h
 exact⟨b,x,y,b',x',y',h1,h2,h3,h4,h5,⟨hb.num h6,hb.num h7⟩,hb.num h8,hb.num h9⟩
theorem PT.keepS (h:PT K q q' v V)(hb:Sto shs g vs V V'):PT K q q' v V':=by
 obtain⟨b,x,y,b',x',y',h1,h2,h3,h4,h5,⟨h6,h7⟩,h8,h9⟩:=h
 exact⟨b,x,y,b',x',y',h1,h2,h3,h4,h5,⟨hb.num h6,hb.num h7⟩,hb.num h8,hb.num h9⟩
theorem P1.parts (h:P1 K q q' v V):zf2 6 v:=by obtain⟨b,x,y,b',x',y',rfl,-⟩:=h;exact⟨[_,_,_,_,_,_],rfl,rfl,rfl,rfl⟩
theorem PT.parts (h:PT K q q' v V):zf2 6 v:=by obtain⟨b,x,y,b',x',y',rfl,-⟩:=h;exact⟨[_,_,_,_,_,_],rfl,rfl,rfl,rfl⟩
theorem PT.to {r r':Rat}(h:PT K q q' v V)(hq:q=r)(hq':q'=r')(hK:K<=K'):PT K' r r' v V:=by
 obtain⟨b,x,y,b',x',y',h1,h2,h3,h4,h5,h6⟩:=h;subst hq hq'
 exact⟨b,x,y,b',x',y',h1,h2,h3,⟨by omega,by omega⟩,⟨by omega,by omega⟩,h6⟩
theorem P1.to {r r':Rat}(h:P1 K q q' v V)(hq:q=r)(hq':q'=r')(hK:K<=K'):P1 K' r r' v V:=by
 obtain⟨b,x,y,b',x',y',h1,h2,h3,h4,h5,h6⟩:=h;subst hq hq'
 exact⟨b,x,y,b',x',y',h1,h2,h3,⟨by omega,by omega⟩,⟨by omega,by omega⟩,h6⟩
theorem PT.sml (h:PT K q q' v V)(h1:Sm K' q)(h2:Sm K' q'):PT K' q q' v V:=by
 obtain⟨b,x,y,b',x',y',e,g1,g2,g3⟩:=h
 exact⟨b,x,y,b',x',y',e,g1,g2,zb0 g1 h1,zb0 g2 h2,g3.2.2⟩
theorem P1.sm (h:P1 K q q' v V):Sm (max K 1) q/\Sm (max K 1) q':=by
 obtain⟨b,x,y,b',x',y',e,g1,g2,⟨k1,k2⟩,⟨k3,k4⟩,⟨o1,o2⟩,o3,o4⟩:=h
 exact⟨Q1.sm (V:=V) ⟨b,x,y,rfl,g1,k1,k2,o1,o2⟩,Q1.sm (V:=V) ⟨b',x',y',rfl,g2,k3,k4,o3,o4⟩⟩
theorem Sm.sub {r r':Rat}(h:Sm K r)(h':Sm K' r'):Sm (K+K'+1) (r - r'):=by
 have:=h.add h'.neg
 rwa [zjA]at this
theorem QT.smk {r:Rat}(h:QT K r v V)(h1:Sm K' r):QT K' r v V:=h.sml h1
instance:Keeps (P1 K q q'):=⟨fun h hb=>P1.keep h hb⟩
instance:Keeps (PT K q q'):=⟨fun h hb=>PT.keep h hb⟩
instance:KeepsS shs (P1 K q q'):=⟨fun h hb=>P1.keepS h hb⟩
instance:KeepsS shs (PT K q q'):=⟨fun h hb=>PT.keepS h hb⟩
theorem zaR:(Tryz.prog.info? 29).map (·.size)=some 6:=by kernel_rfl
theorem zaV (g:Nat):(Instr.fieldAt 29 (.pointer (some ⟨g,0,none⟩)) 0).run Tryz.prog V= .ok (.pointer (some ⟨g,0,none⟩)) V:=by go_simp
theorem za3 (g:Nat):(Instr.fieldAt 29 (.pointer (some ⟨g,0,none⟩)) 1).run Tryz.prog V= .ok (.pointer (some ⟨g,3,none⟩)) V:=by go_simp
theorem znn (b:Bool)(A B:Option Addr)(n c m d:Nat)(b':Bool)(A' B':Option Addr)(n' c' m' d':Nat):(Instr.build 29 #[(0,.agg #[.bool b,.slice A n c,.slice B m d]),(1,.agg #[.bool b',.slice A' n' c',.slice B' m' d'])]).run Tryz.prog V= .ok (.agg #[.bool b,.slice A n c,.slice B m d,.bool b',.slice A' n' c',.slice B' m' d']) V:=by go_simp
theorem zrq (h:QT K q v1 V)(h':QT K q' v2 V):∃v,(Instr.build 29 #[(0,v1),(1,v2)]).run Tryz.prog V= .ok v V/\PT K q q' v V:=by
 obtain⟨b,x,y,rfl,h2,h3,h4,h5,h6⟩:=h
 obtain⟨b',x',y',rfl,g2,g3,g4,g5,g6⟩:=h'
 exact⟨_,znn ..,b,x,y,b',x',y',rfl,h2,g2,⟨h3,h4⟩,⟨g3,g4⟩,⟨h5,h6⟩,g5,g6⟩
def sel:Bool->Rat->Rat->Rat
 |true,_,q'=>q'
 |false,q,_=>q
structure Sel (f:FuncId) (s:Bool):Prop where
 en:∀args w,(callFunc f args).run Tryz.prog w= .ok (.enter f args) w
 tells:∀ {K:Nat} {q q':Rat} {v:Value} {V:World},P1 K q q' v V->Calls Tryz.prog f #[v] V (zaf V (Q1 K (sel s q q')))
theorem zvA (T:TT V)(h:QRow K [q1,q2] v V)(hK:K<=1000):Calls Tryz.prog 39 #[v] V (zaf V (QT (2*max K 1+1) (q1+q2))):=
 zdd (zuO T h (by simp) hK (by simp only[List.length_cons,List.length_nil];omega)) (fun _ _ h=>h.to (by simp[zdw,Rat.zero_add]) (by simp only[List.length_cons,List.length_nil];omega))
theorem zrr (T:TT V)(h:QRow K [q1,q2] v V)(hK:K<=1000:=by omega):Calls Tryz.prog 40 #[v] V (zaf V (QT (2*max K 1) (q1*q2))):=
 zdd (zuP T h (by simp) hK (by simp only[List.length_cons,List.length_nil];omega)) (fun _ _ h=>h.to (by simp[zbb,Rat.one_mul]) (by simp only[List.length_cons,List.length_nil];omega))
end
section
variable {a:Act}{V:World}{o:Oper}{t1 t2 t3:Tmp}{v1 v2 v3:Value}{f f0:FuncId}{caps:Array Value}
theorem zdo (en:∀args w,(callFunc f args).run Tryz.prog w= .ok (.enter f args) w)(h3:a.tmps.getD t3 undef= .func (.func f) #[] #[])(h1:a.tmps.getD t1 undef=v1)(hop:∃ts,o.op= .call { callee:= .value (.tmp t3),args:= #[.tmp t1],argTypes:=ts }:=by exact⟨_,rfl⟩):
  (execOp a.eval o).run Tryz.prog V= .ok (.enter f #[v1]) V:=by
 rw[zae]at h1 h3
 obtain⟨dst,op,ty,pos,after,guard⟩:=o
 obtain⟨ts,hop⟩:=hop
 simp only at hop
 subst hop
 have:=en #[v1] V
 go_simp
theorem ziZ (en:∀args w,(callFunc f args).run Tryz.prog w= .ok (.enter f args) w)(h3:a.tmps.getD t3 undef= .func (.func f) #[] caps)(hop:∃ts,o.op= .call { callee:= .value (.tmp t3),args:= #[.func f0],argTypes:=ts }:=by exact⟨_,rfl⟩):
  (execOp a.eval o).run Tryz.prog V= .ok (.enter f (#[.func (.func f0) #[] #[]]++caps)) V:=by
 rw[zae]at h3
 obtain⟨dst,op,ty,pos,after,guard⟩:=o
 obtain⟨ts,hop⟩:=hop
 simp only at hop
 subst hop
 have:=en (#[.func (.func f0) #[] #[]]++caps) V
 go_simp
theorem zo1 (ho:o.op= .makeFunc (.func f) #[] #[.tmp t1])(h1:a.tmps.getD t1 undef=v1):(execOp a.eval o).run Tryz.prog V= .ok (.value (.func (.func f) #[] #[v1])) V:=by
 rw[zae]at h1
 obtain⟨dst,op,ty,pos,after,guard⟩:=o
 simp only at ho
 subst ho
 go_simp
theorem zgz (ho:o.op= .makeFunc (.func f) #[] #[.tmp t1,.tmp t2])(h1:a.tmps.getD t1 undef=v1)(h2:a.tmps.getD t2 undef=v2):(execOp a.eval o).run Tryz.prog V= .ok (.value (.func (.func f) #[] #[v1,v2])) V:=by
 rw[zae]at h1 h2
 obtain⟨dst,op,ty,pos,after,guard⟩:=o
 simp only at ho
 subst ho
 go_simp
end
abbrev PEl:=Bool×Num×Num×Bool×Num×Num
def PRds (W:World)(hi:Nat)(A:Option Addr)(l:List PEl):Prop:=
 ∀k (h:k<l.length),(∃ad:Addr,A=some ad/\ad.block<hi/\W.cell? (ad.add (k*6))=some (.bool l[k].1)/\W.cell? (ad.add (k*6+1))=some (.slice l[k].2.1.A l[k].2.1.n l[k].2.1.c)/\W.cell? (ad.add (k*6+2))=some (.slice l[k].2.2.1.A l[k].2.2.1.n l[k].2.2.1.c)/\
  W.cell? (ad.add (k*6+3))=some (.bool l[k].2.2.2.1)/\W.cell? (ad.add (k*6+4))=some (.slice l[k].2.2.2.2.1.A l[k].2.2.2.2.1.n l[k].2.2.2.2.1.c)/\W.cell? (ad.add (k*6+5))=some (.slice l[k].2.2.2.2.2.A l[k].2.2.2.2.2.n l[k].2.2.2.2.2.c))/\
  (l[k].2.1.ok W hi/\l[k].2.2.1.ok W hi)/\l[k].2.2.2.2.1.ok W hi/\l[k].2.2.2.2.2.ok W hi
theorem PRds.below {W W':World}{hi:Nat}{A:Option Addr}{l:List PEl}(h:PRds W hi A l)(hb:Below hi W W'):PRds W' hi A l:=fun k hk=>by
 obtain⟨⟨ad,e,h1,h2,h3,h4,h5,h6,h7⟩,⟨g1,g2⟩,g3,g4⟩:=h k hk
 have hc:∀ {i:Nat} {v:Value},W.cell? (ad.add i)=some v->W'.cell? (ad.add i)=some v:=fun h=>(hb.cell (by rw[zaM];exact h1)).trans h
 exact⟨⟨ad,e,h1,hc h2,hc h3,hc h4,hc h5,hc h6,hc h7⟩,⟨g1.below hb,g2.below hb⟩,g3.below hb,g4.below hb⟩
theorem PRds.more {W:World}{hi hi':Nat}{A:Option Addr}{l:List PEl}(h:PRds W hi A l)(hh:hi<=hi'):PRds W hi' A l:=fun k hk=>by
 obtain⟨⟨ad,e,h1,h2⟩,⟨g1,g2⟩,g3,g4⟩:=h k hk
 exact⟨⟨ad,e,zv3 h1 hh,h2⟩,⟨g1.more hh,g2.more hh⟩,g3.more hh,g4.more hh⟩
def zih (m:Nat)(p:PEl):Bool:=decide (m<p.2.1.n)||decide (m<p.2.2.1.n)||decide (m<p.2.2.2.2.1.n)||decide (m<p.2.2.2.2.2.n)
theorem zrs {f:PEl->Bool}{l:List PEl}{k:Nat}(h:k<l.length):(l.take (k+1)).any f=((l.take k).any f||f l[k]):=by
 rw[List.take_succ_eq_append_getElem h,List.any_append];simp
theorem zsP {f:PEl->Bool}{l:List PEl}{k:Nat}(h:k<l.length)(hf:f l[k]=true):l.any f=true:=List.any_eq_true.2 ⟨_,List.getElem_mem h,hf⟩
theorem zlg {m:Nat}{p:PEl}{b b':Bool}{x y x' y':Num}(h:p=(b,x,y,b',x',y')):decide (((m:Nat):Int)<((max (max (max x.n y.n) x'.n) y'.n:Nat):Int))=zih m p:=by
 subst h
 unfold zih
 rw[<-Bool.decide_or,<-Bool.decide_or,<-Bool.decide_or]
 refine decide_eq_decide.2 ?_
 show _↔((m<x.n\/m<y.n)\/m<x'.n)\/m<y'.n
 omega
structure ElAt (V:World) (A:Option Addr) (m:Nat) (b:Bool) (x y:Num) (b':Bool) (x' y':Num):Prop where
 s:∃ad,A=some ad
 c0:V.cell? (zbr A m)=some (.bool b)
 c1:V.cell? (zbr A (m+1))=some (.slice x.A x.n x.c)
 c2:V.cell? (zbr A (m+2))=some (.slice y.A y.n y.c)
 c3:V.cell? (zbr A (m+3))=some (.bool b')
 c4:V.cell? (zbr A (m+3+1))=some (.slice x'.A x'.n x'.c)
 c5:V.cell? (zbr A (m+3+2))=some (.slice y'.A y'.n y'.c)
theorem PRds.el {V:World}{hi:Nat}{A:Option Addr}{l:List PEl}{k:Nat}{b b':Bool}{x y x' y':Num}(h:PRds V hi A l)(hk:k<l.length)(hel:l[k]=(b,x,y,b',x',y')):ElAt V A (k*6) b x y b' x' y':=by
 obtain⟨⟨ad,rfl,-,h0,h1,h2,h3,h4,h5⟩,-⟩:=h k hk
 rw[hel]at h0 h1 h2 h3 h4 h5
 exact⟨⟨ad,rfl⟩,h0,h1,h2,h3,h4,h5⟩
theorem PRds.oks {V:World}{hi:Nat}{A:Option Addr}{l:List PEl}{k:Nat}{b b':Bool}{x y x' y':Num}(h:PRds V hi A l)(hk:k<l.length)(hel:l[k]=(b,x,y,b',x',y')):(x.ok V hi/\y.ok V hi)/\x'.ok V hi/\y'.ok V hi:=by
 have:=(h k hk).2
 rw[hel]at this
 exact this
section
variable {a:Act}{V:World}{o:Oper}{t1 t2 t3 t4:Tmp}{v v1 v2 v3:Value}{A:Option Addr}{m n c k:Nat}{b b':Bool}{x y x' y':Num}
theorem ze8 (hA:∃ad,A=some ad){i:Nat}(hi:0<i):zbr A (m+i)=⟨(zbr A m).block,(zbr A m).off+i,none⟩:=by
 obtain⟨ad,rfl⟩:=hA
 unfold zbr Addr.add
 simp only
 by_cases h:m=0
 ·subst h;rw[if_neg (by omega),if_pos rfl,Nat.zero_add]
 ·rw[if_neg (by omega),if_neg h];simp only[Nat.add_assoc]
theorem zdp (hA:∃ad,A=some ad)(hk:k<n)(ho:o.op= .indexAddr 30 (.tmp t1) (.tmp t2)) (h1:a.tmps.getD t1 undef= .slice A n c) (h2:a.tmps.getD t2 undef= .int .i64 (k:Nat)):
  (execOp a.eval o).run Tryz.prog V= .ok (.value (.pointer (some (zbr A (k*6))))) V:=by
 obtain⟨ad,rfl⟩:=hA
 rw[zae]at h1 h2
 obtain⟨dst,op,ty,pos,after,guard⟩:=o
 simp only at ho
 subst ho
 have h3:(k:Int)<(n:Int):=by omega
 unfold zbr
 go_simp
theorem zdQ {T:TypeId}{j:Nat}{p p':Addr}(hr:(Instr.fieldAt T (.pointer (some p)) j).run Tryz.prog V= .ok (.pointer (some p')) V)(ho:o.op= .fieldAddr T (.tmp t1) j)(h1:a.tmps.getD t1 undef= .pointer (some p)):(execOp a.eval o).run Tryz.prog V= .ok (.value (.pointer (some p'))) V:=by
 have e1:a.eval (.tmp t1)= .pointer (some p):=h1
 unfold execOp;simp only[ho,e1,Sem.run_bind,hr]
 rfl
theorem zno:(Instr.fieldAt 29 (.pointer (some (zbr A m))) 0).run Tryz.prog V= .ok (.pointer (some (zbr A m))) V:=by generalize zbr A m=p;go_simp
theorem zlh:(Instr.fieldAt 27 (.pointer (some (zbr A m))) 0).run Tryz.prog V= .ok (.pointer (some (zbr A m))) V:=by generalize zbr A m=p;go_simp
theorem znp (hA:∃ad,A=some ad):(Instr.fieldAt 29 (.pointer (some (zbr A m))) 1).run Tryz.prog V= .ok (.pointer (some (zbr A (m+3)))) V:=by rw[ze8 hA (by decide)];generalize zbr A m=p;go_simp
theorem zli (hA:∃ad,A=some ad):(Instr.fieldAt 27 (.pointer (some (zbr A m))) 1).run Tryz.prog V= .ok (.pointer (some (zbr A (m+2)))) V:=by rw[ze8 hA (by decide)];generalize zbr A m=p;go_simp
theorem zlj (hA:∃ad,A=some ad):(Instr.fieldAt 25 (.pointer (some (zbr A m))) 1).run Tryz.prog V= .ok (.pointer (some (zbr A (m+1)))) V:=by rw[ze8 hA (by decide)];generalize zbr A m=p;go_simp
theorem zjS {p:Addr}(hc:V.cell? p=some v)(ho:o.op= .load 23 (.tmp t1)) (h1:a.tmps.getD t1 undef= .pointer (some p)):(execOp a.eval o).run Tryz.prog V= .ok (.value v) V:=by
 rw[zae]at h1
 obtain⟨dst,op,ty,pos,after,guard⟩:=o
 simp only at ho
 subst ho
 go_simp
theorem zhZ (E:ElAt V A m b x y b' x' y')(ho:o.op= .load 29 (.tmp t1)) (h1:a.tmps.getD t1 undef= .pointer (some (zbr A m))):
  (execOp a.eval o).run Tryz.prog V= .ok (.value (.agg #[.bool b,.slice x.A x.n x.c,.slice y.A y.n y.c,.bool b',.slice x'.A x'.n x'.c,.slice y'.A y'.n y'.c])) V:=by
 obtain⟨hA,h0,h2,h3,h4,h5,h6⟩:=E
 rw[Nat.add_assoc]at h5 h6
 rw[ze8 hA (by decide)]at h2 h3 h4 h5 h6
 rw[zae]at h1
 generalize zbr A m=p at*
 clear hA
 obtain⟨dst,op,ty,pos,after,guard⟩:=o
 simp only at ho
 subst ho
 go_simp
theorem zo2 (k1 k2:Nat):(Builtin.max2 (.int .i64 (k1:Nat)) (.int .i64 (k2:Nat))).run Tryz.prog V= .ok (.int .i64 ((max k1 k2:Nat):Int)) V:=by
 by_cases h:k1<k2
 ·have e:max k1 k2=k2:=by omega
  rw[e]
  simp[Builtin.max2,h]
 ·have e:max k1 k2=k1:=by omega
  rw[e]
  simp[Builtin.max2,h]
theorem zg9 {k1 k2:Nat}(ho:o.op= .call { callee:= .builtin .max,args:= #[.tmp t1,.tmp t2],argTypes:= #[3,3] }) (h1:a.tmps.getD t1 undef= .int .i64 (k1:Nat)) (h2:a.tmps.getD t2 undef= .int .i64 (k2:Nat)):(execOp a.eval o).run Tryz.prog V= .ok (.value (.int .i64 ((max k1 k2:Nat):Int))) V:=by
 rw[zae]at h1 h2
 obtain⟨dst,op,ty,pos,after,guard⟩:=o
 simp only at ho
 subst ho
 have e:max (k1:Int) (k2:Int)=((max k1 k2:Nat):Int):=by omega
 go_simp
theorem zsQ {k1 k2 k3 k4:Nat}(ho:o.op= .call { callee:= .builtin .max,args:= #[.tmp t1,.tmp t2,.tmp t3,.tmp t4],argTypes:= #[3,3,3,3] }) (h1:a.tmps.getD t1 undef= .int .i64 (k1:Nat)) (h2:a.tmps.getD t2 undef= .int .i64 (k2:Nat)) (h3:a.tmps.getD t3 undef= .int .i64 (k3:Nat)) (h4:a.tmps.getD t4 undef= .int .i64 (k4:Nat)):(execOp a.eval o).run Tryz.prog V= .ok (.value (.int .i64 ((max (max (max k1 k2) k3) k4:Nat):Int))) V:=by
 rw[zae]at h1 h2 h3 h4
 obtain⟨dst,op,ty,pos,after,guard⟩:=o
 simp only at ho
 subst ho
 have e:(Builtin.max_ #[3,3,3,3] ty #[.int .i64 (k1:Nat),.int .i64 (k2:Nat),.int .i64 (k3:Nat),.int .i64 (k4:Nat)]).run Tryz.prog V= .ok (.int .i64 ((max (max (max k1 k2) k3) k4:Nat):Int)) V:=by
  simp[Builtin.max_,zo2]
 generalize ((max (max (max k1 k2) k3) k4:Nat):Int)=M at e
 go_simp
theorem zjT (ho:o.op= .call { callee:= .builtin .len,args:= #[.tmp t1],argTypes:= #[30] }) (h:a.tmps.getD t1 undef= .slice A n c):(execOp a.eval o).run Tryz.prog V= .ok (.value (.int .i64 ((n:Nat):Int))) V:=by
 rw[zae]at h
 obtain⟨dst,op,ty,pos,after,guard⟩:=o
 simp only at ho
 subst ho
 go_simp
end
def GP (ps:List PEl)(v:Value)(V:World):Prop:=∃(A:Option Addr) (c:Nat),v= .slice A ps.length c/\PRds V V.heap.size A ps/\ps.length<=100000000000000/\ps.length<=c/\c<=maxLen
theorem GP.keep {ps:List PEl}{v:Value}{V V':World}(h:GP ps v V)(hb:Below V.heap.size V V'):GP ps v V':=by
 obtain⟨A,c,h1,h2,h3⟩:=h;exact⟨A,c,h1,(h2.below hb).more hb.size,h3⟩
instance {ps:List PEl}:Keeps (GP ps):=⟨fun h hb=>GP.keep h hb⟩
def za9 (p:PEl):List Value:=[.bool p.1,.slice p.2.1.A p.2.1.n p.2.1.c,.slice p.2.2.1.A p.2.2.1.n p.2.2.1.c,.bool p.2.2.2.1,.slice p.2.2.2.2.1.A p.2.2.2.2.1.n p.2.2.2.2.1.c,.slice p.2.2.2.2.2.A p.2.2.2.2.2.n p.2.2.2.2.2.c]
def zbt (l:List PEl):List Value:=(l.map za9).flatten
theorem ze9 (l:List PEl):(zbt l).length=l.length*6:=by
 induction l with
 |nil=>rfl
 |cons p l ih=>rw[zbt,List.map_cons,List.flatten_cons,List.length_append,<-zbt,ih];simp[za9];omega
theorem zlk {l:List PEl}{k i:Nat}(hk:k<l.length)(hi:i<6):(zbt l)[k*6+i]?=(za9 l[k])[i]?:=by
 induction l generalizing k with
 |nil=>cases hk
 |cons p l ih=>
  rw[zbt,List.map_cons,List.flatten_cons,<-zbt]
  cases k with
  |zero=>rw[Nat.zero_mul,Nat.zero_add,List.getElem?_append_left (by simpa[za9]using hi)];rfl
  |succ k=>
   rw[List.getElem?_append_right (by simp[za9];omega),show(k+1)*6+i - (za9 p).length=k*6+i by simp[za9];omega,ih (by simpa using hk)]
   rfl
theorem PRds.own {V:World}{g hi:Nat}{T:TypeId}{l:List PEl}{rest:List Value}(hg:V.heap[g]?=some (.cells (zbt l++rest).toArray T (0,0)))(hgh:g<hi)(hok:∀p∈l,(p.2.1.ok V hi/\p.2.2.1.ok V hi)/\p.2.2.2.2.1.ok V hi/\p.2.2.2.2.2.ok V hi):PRds V hi (some ⟨g,0,none⟩) l:=fun k hk=>by
 have key:∀ {i:Nat} {v:Value},i<6->(za9 l[k])[i]?=some v->V.cell? ((⟨g,0,none⟩:Addr).add (k*6+i))=some v:=fun {i v} hi h=>by
  rw[zaW,cell_of_row _ _ _ _ _ _ hg,List.getElem?_toArray,List.getElem?_append_left (by rw[ze9];omega),zlk hk hi,h]
 refine⟨⟨_,rfl,hgh,?_,key (by decide) rfl,key (by decide) rfl,key (by decide) rfl,key (by decide) rfl,key (by decide) rfl⟩,hok _ (List.getElem_mem hk)⟩
 exact key (i:=0) (by decide) rfl
theorem zrt {V:World}{ps:List PEl}(hok:∀p∈ps,(p.2.1.ok V V.heap.size/\p.2.2.1.ok V V.heap.size)/\p.2.2.2.2.1.ok V V.heap.size/\p.2.2.2.2.2.ok V V.heap.size)(hl:ps.length<=1000):GP ps (.slice (some ⟨V.heap.size,0,none⟩) ps.length ps.length) (V.alloc (.cells (zbt ps).toArray 29)):=by
 have hb:Below V.heap.size V (V.alloc (.cells (zbt ps).toArray 29)):=zv1.alloc zv0 _
 have hg:=World.alloc_heap_new' V (.cells (zbt ps).toArray 29)
 refine⟨_,_,rfl,PRds.own (rest:=[]) (by rw[List.append_nil];exact hg) (by rw[World.size_alloc];exact Nat.lt_succ_self _) (fun p hp=>?_),by omega,Nat.le_refl _,by simp only[maxLen];omega⟩
 obtain⟨⟨h1,h2⟩,h3,h4⟩:=hok p hp
 exact⟨⟨h1.later hb,h2.later hb⟩,h3.later hb,h4.later hb⟩
section
variable {a:Act}{V:World}{o:Oper}{t1 t2 t3:Tmp}{b0 d0 b1 d1 b2 d2:Bool}{x0 y0 z0 w0 x1 y1 z1 w1 x2 y2 z2 w2:Num}
theorem zru (hop:o.op= .buildSlice 30 2 #[(0,.tmp t1),(1,.tmp t2)]) (h1:a.tmps.getD t1 undef= .agg #[.bool b0,.slice x0.A x0.n x0.c,.slice y0.A y0.n y0.c,.bool d0,.slice z0.A z0.n z0.c,.slice w0.A w0.n w0.c]) (h2:a.tmps.getD t2 undef= .agg #[.bool b1,.slice x1.A x1.n x1.c,.slice y1.A y1.n y1.c,.bool d1,.slice z1.A z1.n z1.c,.slice w1.A w1.n w1.c])
  (o1:x0.ok V V.heap.size) (o2:y0.ok V V.heap.size) (o3:z0.ok V V.heap.size) (o4:w0.ok V V.heap.size) (p1:x1.ok V V.heap.size) (p2:y1.ok V V.heap.size) (p3:z1.ok V V.heap.size) (p4:w1.ok V V.heap.size):zjH o a V (GP [(b0,x0,y0,d0,z0,w0),(b1,x1,y1,d1,z1,w1)]):=by
 refine⟨.slice (some ⟨V.heap.size,0,none⟩) 2 2,_,?_,zrt (ps:=[(b0,x0,y0,d0,z0,w0),(b1,x1,y1,d1,z1,w1)]) (by simp[o1,o2,o3,o4,p1,p2,p3,p4]) (by simp),zv1.alloc zv0 _⟩
 rw[zae]at h1 h2
 obtain⟨dst,op,ty,pos,after,guard⟩:=o
 simp only at hop
 subst hop
 simp only[zbt,za9,List.map_cons,List.map_nil,List.flatten_cons,List.flatten_nil,List.cons_append,List.nil_append]
 go_simp
theorem zeO (hop:o.op= .buildSlice 30 3 #[(0,.tmp t1),(1,.tmp t2),(2,.tmp t3)]) (h1:a.tmps.getD t1 undef= .agg #[.bool b0,.slice x0.A x0.n x0.c,.slice y0.A y0.n y0.c,.bool d0,.slice z0.A z0.n z0.c,.slice w0.A w0.n w0.c]) (h2:a.tmps.getD t2 undef= .agg #[.bool b1,.slice x1.A x1.n x1.c,.slice y1.A y1.n y1.c,.bool d1,.slice z1.A z1.n z1.c,.slice w1.A w1.n w1.c]) (h3:a.tmps.getD t3 undef= .agg #[.bool b2,.slice x2.A x2.n x2.c,.slice y2.A y2.n y2.c,.bool d2,.slice z2.A z2.n z2.c,.slice w2.A w2.n w2.c])
  (o1:x0.ok V V.heap.size) (o2:y0.ok V V.heap.size) (o3:z0.ok V V.heap.size) (o4:w0.ok V V.heap.size) (p1:x1.ok V V.heap.size) (p2:y1.ok V V.heap.size) (p3:z1.ok V V.heap.size) (p4:w1.ok V V.heap.size) (r1:x2.ok V V.heap.size) (r2:y2.ok V V.heap.size) (r3:z2.ok V V.heap.size) (r4:w2.ok V V.heap.size):zjH o a V (GP [(b0,x0,y0,d0,z0,w0),(b1,x1,y1,d1,z1,w1),(b2,x2,y2,d2,z2,w2)]):=by
 refine⟨.slice (some ⟨V.heap.size,0,none⟩) 3 3,_,?_,zrt (ps:=[(b0,x0,y0,d0,z0,w0),(b1,x1,y1,d1,z1,w1),(b2,x2,y2,d2,z2,w2)]) (by simp[o1,o2,o3,o4,p1,p2,p3,p4,r1,r2,r3,r4]) (by simp),zv1.alloc zv0 _⟩
 rw[zae]at h1 h2 h3
 obtain⟨dst,op,ty,pos,after,guard⟩:=o
 simp only at hop
 subst hop
 simp only[zbt,za9,List.map_cons,List.map_nil,List.flatten_cons,List.flatten_nil,List.cons_append,List.nil_append]
 go_simp
end
section
variable {v:Value}{V:World}{K:Nat}{q q':Rat}
end
end Go.Proofs.YtipckjmgdghkiaaGreatDoor
