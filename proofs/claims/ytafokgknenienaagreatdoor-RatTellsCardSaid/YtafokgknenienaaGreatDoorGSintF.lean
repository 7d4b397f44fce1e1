/- A part. -/
import Derived.Test.YtafokgknenienaaGreatDoorGSintC
import Derived.Test.YtafokgknenienaaGreatDoorGQuotB
set_option maxHeartbeats 16000000
set_option maxRecDepth 100000
namespace Go.Proofs.YtafokgknenienaaGreatDoor
open Go Go.RowKit
def zep (Z Z':Int):Bool:=decide (Z.sign*Z'.sign<0)
theorem zdW (Z Z':Int):(zep Z Z'=true↔(Z<0∧0<Z')∨(0<Z∧Z'<0)):=by
 unfold zep
 rw[decide_eq_true_eq]
 rcases Int.lt_trichotomy Z 0 with h|h|h <;> rcases Int.lt_trichotomy Z' 0 with h'|h'|h'
 all_goals first
  |(subst h;subst h';simp;done)
  |(subst h;simp;done)
  |(subst h';simp;done)
  |skip
 all_goals (first|rw[Int.sign_eq_neg_one_of_neg h]|rw[Int.sign_eq_one_of_pos h])
 all_goals (first|rw[Int.sign_eq_neg_one_of_neg h']|rw[Int.sign_eq_one_of_pos h'])
 all_goals (constructor <;> intro hh <;> omega)
theorem zhA {Z Z':Int}(h0:Z'≠0)(hu:zep Z Z'=true)(hr:0<Z.natAbs%Z'.natAbs):
  zOf (zep Z Z') (Z.natAbs/Z'.natAbs+1)=Z.fdiv Z'∧zOf (decide (Z'<0)) (Z'.natAbs - Z.natAbs%Z'.natAbs)=Z.fmod Z':=by
 have hd:=Nat.div_add_mod Z.natAbs Z'.natAbs
 have hl:=Nat.mod_lt Z.natAbs (show 0<Z'.natAbs by omega)
 generalize Z.natAbs/Z'.natAbs=q at*
 generalize Z.natAbs%Z'.natAbs=r at*
 have hdi:(Z'.natAbs:Int)*(q:Int)+(r:Int)=(Z.natAbs:Int):=by exact_mod_cast hd
 rw[hu,zbh]
 rcases(zdW Z Z').1 hu with⟨h1,h2⟩|⟨h1,h2⟩
 ·rw[decide_eq_false (by omega),zbg]
  have e1:(Z'.natAbs:Int)=Z':=by omega
  rw[e1]at hdi
  have:=(Int.fdiv_fmod_unique (a:=Z) (b:=Z') (r:=Z' - r) (q:= -((q:Int)+1)) h2).2 ⟨by rw[Int.mul_neg,Int.mul_add,Int.mul_one];omega,by omega,by omega⟩
  exact⟨by rw[this.1];omega,by rw[this.2];omega⟩
 ·rw[decide_eq_true h2,zbh]
  have e1:(Z'.natAbs:Int)= -Z':=by omega
  rw[e1,Int.neg_mul]at hdi
  have:=(Int.fdiv_fmod_unique' (a:=Z) (b:=Z') (r:=Z'+r) (q:= -((q:Int)+1)) h2).2 ⟨by rw[Int.mul_neg,Int.mul_add,Int.mul_one];omega,by omega,by omega⟩
  exact⟨by rw[this.1];omega,by rw[this.2];omega⟩
theorem zhB {Z Z':Int}(h0:Z'≠0)(hu: ¬(zep Z Z'=true∧0<Z.natAbs%Z'.natAbs)):
  zOf (zep Z Z') (Z.natAbs/Z'.natAbs)=Z.fdiv Z'∧zOf (decide (Z'<0)) (Z.natAbs%Z'.natAbs)=Z.fmod Z':=by
 have hc:=zdW Z Z'
 have hd:=Nat.div_add_mod Z.natAbs Z'.natAbs
 have hl:=Nat.mod_lt Z.natAbs (show 0<Z'.natAbs by omega)
 have hz:Z=0→Z.natAbs/Z'.natAbs=0:=fun h=>by subst h;simp
 generalize Z.natAbs/Z'.natAbs=q at*
 generalize Z.natAbs%Z'.natAbs=r at*
 have hdi:(Z'.natAbs:Int)*(q:Int)+(r:Int)=(Z.natAbs:Int):=by exact_mod_cast hd
 cases hb:zep Z Z' with
 |true=>
  rw[hb]at hu
  have hr:r=0:=by
   have h2: ¬0<r:=fun h=>hu ⟨rfl,h⟩
   omega
  subst hr
  rw[zbh]
  rcases hc.1 hb with⟨h1,h2⟩|⟨h1,h2⟩
  ·rw[decide_eq_false (by omega),zbg]
   have e1:(Z'.natAbs:Int)=Z':=by omega
   rw[e1]at hdi
   have:=(Int.fdiv_fmod_unique (a:=Z) (b:=Z') (r:=0) (q:= -(q:Int)) h2).2 ⟨by rw[Int.mul_neg];omega,by omega,by omega⟩
   exact⟨by rw[this.1],by rw[this.2];rfl⟩
  ·rw[decide_eq_true h2,zbh]
   have e1:(Z'.natAbs:Int)= -Z':=by omega
   rw[e1,Int.neg_mul]at hdi
   have:=(Int.fdiv_fmod_unique' (a:=Z) (b:=Z') (r:=0) (q:= -(q:Int)) h2).2 ⟨by rw[Int.mul_neg];omega,by omega,by omega⟩
   exact⟨by rw[this.1],by rw[this.2];rfl⟩
 |false=>
  have hc2: ¬((Z<0∧0<Z')∨(0<Z∧Z'<0)):=fun h=>by rw[hc.2 h]at hb;cases hb
  rw[zbg]
  rcases Int.lt_trichotomy Z' 0 with h2|h2|h2
  ·rw[decide_eq_true h2,zbh]
   have e1:(Z'.natAbs:Int)= -Z':=by omega
   rw[e1,Int.neg_mul]at hdi
   have:=(Int.fdiv_fmod_unique' (a:=Z) (b:=Z') (r:= -(r:Int)) (q:=(q:Int)) h2).2 ⟨by omega,by omega,by omega⟩
   exact⟨by rw[this.1],by rw[this.2]⟩
  ·exact absurd h2 h0
  ·rw[decide_eq_false (by omega),zbg]
   have e1:(Z'.natAbs:Int)=Z':=by omega
   rw[e1]at hdi
   have:=(Int.fdiv_fmod_unique (a:=Z) (b:=Z') (r:=(r:Int)) (q:=(q:Int)) h2).2 ⟨by omega,by omega,by omega⟩
   exact⟨by rw[this.1],by rw[this.2]⟩
section
variable {w W:World}{e:List Num}{x y:Num}
theorem ztE (h:Env w e W)(hx:x∈e)(hy:y∈e)(bx:x.n≤100000)(by':y.n≤100000):
  Calls Tryz.prog 135 #[.slice x.A x.n x.c,.slice y.A y.n y.c] W fun e' W'=>
   ∃q r:Num,e'= .returned (.tuple #[.slice q.A q.n q.c,.slice r.A r.n r.c,.int .i64 (zbF y.N)])∧q.N=x.N/y.N∧q.n=lenL (x.N/y.N)∧r.N=zbv x.N y.N∧r.n=lenL (zbv x.N y.N)∧Env w (q::r::e) W':=by
 obtain⟨a1,a2,a3,_⟩:=h.2 x hx
 obtain⟨b1,b2,b3,_⟩:=h.2 y hy
 refine(zms _ _ _ _ _ _ _ _ W a1 b1 a2 a3 b2 b3 (by omega) (by omega)).mono ?_
 rintro e' W' ⟨A,c,A',c',rfl,x1,x2,y1,y2,x3,y3,x4⟩
 have l1:=zaI (Nat.div_le_self x.N y.N)
 have l2:=zaI (zeb x.N y.N)
 have l3:=zaj.2 a1.1
 exact⟨⟨A,_,c,_⟩,⟨A',_,c',_⟩,rfl,rfl,rfl,rfl,rfl,((h.step x4).add (y3.ok y1 y2 (by omega))).add (x3.ok x1 x2 (by omega))⟩
theorem zl1 {N M k:Nat}(h1:N<Bw^k)(h2:M<Bw^k):N+M<Bw^(k+1):=by
 rw[Nat.pow_succ,zaX]
 rw[zaX]at h1 h2
 omega
theorem zqJ {g:Nat}(h:Env w e W)(hx:x∈e)(hy:y∈e)(hg:W.heap.size=g)(bx:x.n≤100000)(by':y.n≤100000):
  Calls Tryz.prog 139 #[.slice (some ⟨g,0,none⟩) 2 2] (W.alloc (.cells #[.slice x.A x.n x.c,.slice y.A y.n y.c] 23)) (zkQ w e (x.N+y.N)):=by
 subst hg
 have hs:zbB [x,y]=x.N+y.N:=by simp[zbB]
 refine(zet _ (some ⟨W.heap.size,0,none⟩) 2 [x,y] (Rds.two (h.2 x hx) (h.2 y hy)) (by simp)).mono fun e' W' hg=>?_
 rw[hs]at hg
 refine zbs (h.alloc _) hg ?_
 have h1:=zaE (h.2 x hx).1.1 bx
 have h2:=zaE (h.2 y hy).1.1 by'
 have h3:=zaj.2 (zl1 h1 h2)
 omega
theorem zgI {W:World}{B B':Nat}{t t':TypeId}{a b a' b' z:Value}(h:Box2 W B t a b)(h':Box2 W B' t' a' b'){fn:Func}{p p' u:Tmp}(hr:fn.results= #[.cell p 25,.cell p' 25,.tmp u]) {tmps:Array Value} (hp:tmps.getD p undef= .pointer (some ⟨B,0,none⟩)) (hp':tmps.getD p' undef= .pointer (some ⟨B',0,none⟩)) (hu:tmps.getD u undef=z):
  (results fn tmps).run Tryz.prog W= .ok (.tuple #[.agg #[a,b],.agg #[a',b'],z]) W:=by
 have e1:tmps[p]?.getD undef= .pointer (some ⟨B,0,none⟩):=by simpa using hp
 have e2:tmps[p']?.getD undef= .pointer (some ⟨B',0,none⟩):=by simpa using hp'
 have e3:tmps[u]?.getD undef=z:=by simpa using hu
 have r1:=run_loadVar_row W B t 25 #[a,b] (0,0) _ h Tryz.underlying25 rfl zgb
 have r2:=run_loadVar_row W B' t' 25 #[a',b'] (0,0) _ h' Tryz.underlying25 rfl zgb
 simp[results,hr,e1,e2,e3,asAddr,r1,r2]
theorem Box2.keptset {W:World}{B g:Nat}{t:TypeId}{a b:Value}(h:Box2 W B t a b)(hne:B≠g)(u v:Value):Box2 ((W.setCell ⟨g,0,none⟩ u).setCell ⟨g,1,none⟩ v) B t a b:=
 (h.kept (zbr W g 0 u) (by intro e;injection e with e;exact hne e)).kept (zbr _ g 1 v) (by intro e;injection e with e;exact hne e)
theorem zgJ {W1 V:World}{q r:Num}{g4 g5:Nat}{b b':Bool}(HO:Below w.heap.size w W1)(HE:Env W1 e W1)(hC:Below W1.heap.size W1 V)(hq:q.ok V V.heap.size)(hr:r.ok V V.heap.size)(B4:Box2 V g4 25 (.bool false) (.slice none 0 0)) (B5:Box2 V g5 25 (.bool false) (.slice none 0 0)) (hne:g4≠g5) (h4:w.heap.size≤g4) (h5:w.heap.size≤g5):
  ∃X,(((V.setCell ⟨g4,0,none⟩ (.bool b)).setCell ⟨g4,1,none⟩ (.slice q.A q.n q.c)).setCell ⟨g5,0,none⟩ (.bool b')).setCell ⟨g5,1,none⟩ (.slice r.A r.n r.c)=X∧Env w (q::r::e) X∧Box2 X g4 25 (.bool b) (.slice q.A q.n q.c)∧Box2 X g5 25 (.bool b') (.slice r.A r.n r.c):=by
 have hE:Env w (q::r::e) V:=⟨HO.trans (hC.mono HO.size),fun z hz=>by
  rcases List.mem_cons.1 hz with rfl|hz
  ·exact hq
  rcases List.mem_cons.1 hz with rfl|hz
  ·exact hr
  ·exact(HE.2 z hz).later hC⟩
 have hE1:=hE.boxed B4 h4 b (.slice q.A q.n q.c)
 have b5:=B5.keptset (Ne.symm hne) (.bool b) (.slice q.A q.n q.c)
 exact⟨_,rfl,hE1.boxed b5 h5 b' _,(B4.set _ _).keptset hne _ _,b5.set _ _⟩
end
section
variable {w0:World}
theorem zkO {b:Bool}{N:Nat}{Z:Int}(hz:zOf b N=Z)(h:N=0):Z=0:=by rw[←hz,h];cases b <;> rfl
theorem zhT (Z Z':Int):IntKind.i64.wrap (Z.sign*Z'.sign)=Z.sign*Z'.sign:=by
 rw[←Int.sign_mul,IntKind.wrap_i64]
 rcases Int.lt_trichotomy (Z*Z') 0 with h|h|h
 ·rw[Int.sign_eq_neg_one_of_neg h];decide
 ·rw[h];decide
 ·rw[Int.sign_eq_one_of_pos h];decide
theorem zjq {Z:Int}:((plZ Z:Int)==0)=decide (Z<0):=by
 unfold plZ
 split
 ·next h=>rw[decide_eq_true h];rfl
 ·next h=>
  rw[decide_eq_false h]
  split <;> rfl
theorem zqK (hs0:Signs w0):zkM w0:=fun w W e b x b' y Z Z' hB0 h hx hy lx ly hz hz'=>by
 obtain⟨W1,hW1⟩:∃W1,(((W.alloc (.cells #[.bool b,.slice x.A x.n x.c] 25)).alloc (.cells #[.bool b',.slice y.A y.n y.c] 25)).alloc (.cells #[.bool false,.slice none 0 0] 25)).alloc (.cells #[.bool false,.slice none 0 0] 25)=W1:=⟨_,rfl⟩
 have HE:=(((h.alloc (.cells #[.bool b,.slice x.A x.n x.c] 25)).alloc (.cells #[.bool b',.slice y.A y.n y.c] 25)).alloc (.cells #[.bool false,.slice none 0 0] 25)).alloc (.cells #[.bool false,.slice none 0 0] 25)
 have hs:=h.1.size
 have B1:=(((Box2.new W 25 (.bool b) (.slice x.A x.n x.c)).alloc (.cells #[.bool b',.slice y.A y.n y.c] 25)).alloc (.cells #[.bool false,.slice none 0 0] 25)).alloc (.cells #[.bool false,.slice none 0 0] 25)
 have B2:=((Box2.new (W.alloc (.cells #[.bool b,.slice x.A x.n x.c] 25)) 25 (.bool b') (.slice y.A y.n y.c)).alloc (.cells #[.bool false,.slice none 0 0] 25)).alloc (.cells #[.bool false,.slice none 0 0] 25)
 have B4:=(Box2.new ((W.alloc (.cells #[.bool b,.slice x.A x.n x.c] 25)).alloc (.cells #[.bool b',.slice y.A y.n y.c] 25)) 25 (.bool false) (.slice none 0 0)).alloc (.cells #[.bool false,.slice none 0 0] 25)
 have B5:=Box2.new (((W.alloc (.cells #[.bool b,.slice x.A x.n x.c] 25)).alloc (.cells #[.bool b',.slice y.A y.n y.c] 25)).alloc (.cells #[.bool false,.slice none 0 0] 25)) 25 (.bool false) (.slice none 0 0)
 have HS:=(hs0.keep hB0).keep ((((h.here.alloc (.cells #[.bool b,.slice x.A x.n x.c] 25)).alloc (.cells #[.bool b',.slice y.A y.n y.c] 25)).alloc (.cells #[.bool false,.slice none 0 0] 25)).alloc (.cells #[.bool false,.slice none 0 0] 25)).1
 rw[World.size_alloc]at B2
 rw[World.size_alloc,World.size_alloc]at B4
 rw[World.size_alloc,World.size_alloc,World.size_alloc]at B5
 rw[hW1]at HE B1 B2 B4 B5 HS
 have HO:=zuy HE.1
 replace HE:=zuy HE.here
 replace B1:=zuy B1
 replace B2:=zuy B2
 replace B4:=zuy B4
 replace B5:=zuy B5
 replace HS:=zuy HS
 have OX:=zuy (fun V (hb:Below W1.heap.size W1 V)=>(HE.out.2 x hx).later hb)
 have OY:=zuy (fun V (hb:Below W1.heap.size W1 V)=>(HE.out.2 y hy).later hb)
 have HPX:=zuy hz
 have HPY:=zuy hz'
 have HX:=zuy (And.intro hx hy)
 have HXB:=zuy (And.intro lx ly)
 clear h hx hy hz hz' hB0 lx ly
 go_enter Tryz.func107,Tryz.ntmps107
 go_wp2
 clear hW1
 refine zcm 6 [12,13,14,15,7,8] (fun i v V=>match i with
   |0=>v= .agg #[.bool b,.slice x.A x.n x.c]
   |1=>v= .agg #[.bool b,.slice x.A x.n x.c,.int .i64 (plZ Z:Nat)]
   |2=>v= .agg #[.bool b',.slice y.A y.n y.c]
   |3=>v= .agg #[.bool b',.slice y.A y.n y.c,.int .i64 (plZ Z':Nat)]
   |4=>RepB3 W1 v V
   |_=>RepB3 W1 v V) (fun i V v=>(i=4∨i=5)→v= .pointer (some ⟨V.heap.size,0,none⟩)) (fun i j v v2=>(i=4∧j=5∨i=5∧j=4)→v≠v2) (fun V=>Below W1.heap.size W1 V) (by kernel_rfl) (by kernel_rfl) rfl (by decide) (by first|(simp;done)|(simp;done)) zuB.drew ?_ ?_ ?_ ?_
 ·intro i v V V2 hf hb _
  match i,hf with
  |0,hf=>exact hf
  |1,hf=>exact hf
  |2,hf=>exact hf
  |3,hf=>exact hf
  |4,hf=>exact RepB3.keep hf hb
  |_+5,hf=>exact RepB3.keep hf hb
 ·intro i j v v2 V hfr hf hij
  rcases hij with⟨rfl,rfl⟩|⟨rfl,rfl⟩
  ·obtain⟨g,e,_,hB⟩:=(hf:RepB3 W1 v2 V)
   intro e2
   rw[e,hfr (by decide)]at e2
   have:=hB.lt
   injection e2 with e2;injection e2 with e2;injection e2 with e2
   omega
  ·obtain⟨g,e,_,hB⟩:=(hf:RepB3 W1 v2 V)
   intro e2
   rw[e,hfr (by decide)]at e2
   have:=hB.lt
   injection e2 with e2;injection e2 with e2;injection e2 with e2
   omega
 ·intro i t ht a V hC hF hd
  match i,ht with
  |0,ht=>
   cases ht
   have h2:a.tmps[2]?.getD undef= .pointer (some ⟨W.heap.size,0,none⟩):=(hF.at_ 2 (by decide)).trans rfl
   obtain⟨c00,c01,-,-⟩:=(B1.out.below hC B1.out.lt).cells
   obtain⟨c10,c11,-,-⟩:=(B2.out.below hC B2.out.lt).cells
   refine zcy (fun _ h=>absurd h (by decide)) ?_
   exact zai (v:= .agg #[.bool b,.slice x.A x.n x.c]) rfl rfl (zac rfl) (by go_simp) hC rfl
  |1,ht=>
   cases ht
   have h12:a.tmps[12]?.getD undef= .agg #[.bool b,.slice x.A x.n x.c]:=(zag a 12).symm.trans (hd 0 12 rfl (by kernel_rfl))
   refine zcy (fun _ h=>absurd h (by decide)) ?_
   refine zaQ rfl rfl (zac rfl) (zbf ⟨_,rfl⟩ h12 (enters_of Tryz.func144 (by kernel_rfl) rfl)) ((zcS (b:=b) (x:=x) V (OX.out V hC).1 (OX.out V hC).2.1 (OX.out V hC).2.2.1 (OX.out V hC).2.2.2).mono ?_)
   rw[HPX.out]
   rintro e2 V2 ⟨rfl,hb⟩
   exact⟨_,rfl,rfl,hb,hC.trans (hb.mono hC.size)⟩
  |2,ht=>
   cases ht
   have h3:a.tmps[3]?.getD undef= .pointer (some ⟨W.heap.size+1,0,none⟩):=(hF.at_ 3 (by decide)).trans rfl
   obtain⟨c00,c01,-,-⟩:=(B1.out.below hC B1.out.lt).cells
   obtain⟨c10,c11,-,-⟩:=(B2.out.below hC B2.out.lt).cells
   refine zcy (fun _ h=>absurd h (by decide)) ?_
   exact zai (v:= .agg #[.bool b',.slice y.A y.n y.c]) rfl rfl (zac rfl) (by go_simp) hC rfl
  |3,ht=>
   cases ht
   have h14:a.tmps[14]?.getD undef= .agg #[.bool b',.slice y.A y.n y.c]:=(zag a 14).symm.trans (hd 2 14 rfl (by kernel_rfl))
   refine zcy (fun _ h=>absurd h (by decide)) ?_
   refine zaQ rfl rfl (zac rfl) (zbf ⟨_,rfl⟩ h14 (enters_of Tryz.func144 (by kernel_rfl) rfl)) ((zcS (b:=b') (x:=y) V (OY.out V hC).1 (OY.out V hC).2.1 (OY.out V hC).2.2.1 (OY.out V hC).2.2.2).mono ?_)
   rw[HPY.out]
   rintro e2 V2 ⟨rfl,hb⟩
   exact⟨_,rfl,rfl,hb,hC.trans (hb.mono hC.size)⟩
  |4,ht=>
   cases ht
   exact zeK rfl rfl (zac rfl) rfl hC.size (fun V2 hb=>hC.trans (hb.mono hC.size)) (fun _ _ h e=>⟨h,fun _=>e⟩)
  |5,ht=>
   cases ht
   exact zeK rfl rfl (zac rfl) rfl hC.size (fun V2 hb=>hC.trans (hb.mono hC.size)) (fun _ _ h e=>⟨h,fun _=>e⟩)
  |k+6,ht=>simp at ht
 ·intro a2 V2 hC hF hf hR
  obtain⟨g,pg,hg,bg⟩:=(hf 4 7 rfl:RepB3 W1 (a2.tmps.getD 7 undef) V2)
  obtain⟨g',pg',hg',bg'⟩:=(hf 5 8 rfl:RepB3 W1 (a2.tmps.getD 8 undef) V2)
  have hne:g≠g':=by
   rcases hR 4 5 7 8 rfl rfl (by decide)with h|h
   ·exact fun e=>h (by decide) (by rw[pg,pg',e])
   ·exact fun e=>h (by decide) (by rw[pg,pg',e])
  have hlit:=zfL (a:=a2) [.agg #[.bool b,.slice x.A x.n x.c],.agg #[.bool b',.slice y.A y.n y.c],.pointer (some ⟨W.heap.size,0,none⟩),.pointer (some ⟨W.heap.size+1,0,none⟩),.pointer (some ⟨W.heap.size+1+1,0,none⟩),.pointer (some ⟨W.heap.size+1+1+1,0,none⟩),.int .i64 0,.pointer (some ⟨g,0,none⟩),.pointer (some ⟨g',0,none⟩),undef,undef,undef,.agg #[.bool b,.slice x.A x.n x.c],.agg #[.bool b,.slice x.A x.n x.c,.int .i64 (plZ Z:Nat)],.agg #[.bool b',.slice y.A y.n y.c],.agg #[.bool b',.slice y.A y.n y.c,.int .i64 (plZ Z':Nat)],undef,undef,undef,undef,undef,undef,undef,undef,undef,undef,undef,undef,undef,undef,undef,undef,undef,undef,undef,undef,undef,undef,undef,undef,undef,undef,undef,undef,undef,undef,undef,undef,undef,undef,undef,undef,undef,undef,undef,undef,undef,undef,undef,undef,undef,undef,undef,undef] (by simpa using hF.size) hF.defers (fun i hi=>match i,hi with
   |0,_=>(hF.same 0 (by decide)).trans rfl
   |1,_=>(hF.same 1 (by decide)).trans rfl
   |2,_=>(hF.same 2 (by decide)).trans rfl
   |3,_=>(hF.same 3 (by decide)).trans rfl
   |4,_=>(hF.same 4 (by decide)).trans rfl
   |5,_=>(hF.same 5 (by decide)).trans rfl
   |6,_=>(hF.same 6 (by decide)).trans rfl
   |7,_=>pg
   |8,_=>pg'
   |9,_=>(hF.same 9 (by decide)).trans rfl
   |10,_=>(hF.same 10 (by decide)).trans rfl
   |11,_=>(hF.same 11 (by decide)).trans rfl
   |12,_=>(hf 0 12 rfl:a2.tmps.getD 12 undef=_)
   |13,_=>(hf 1 13 rfl:a2.tmps.getD 13 undef=_)
   |14,_=>(hf 2 14 rfl:a2.tmps.getD 14 undef=_)
   |15,_=>(hf 3 15 rfl:a2.tmps.getD 15 undef=_)
   |16,_=>(hF.same 16 (by decide)).trans rfl
   |17,_=>(hF.same 17 (by decide)).trans rfl
   |18,_=>(hF.same 18 (by decide)).trans rfl
   |19,_=>(hF.same 19 (by decide)).trans rfl
   |20,_=>(hF.same 20 (by decide)).trans rfl
   |21,_=>(hF.same 21 (by decide)).trans rfl
   |22,_=>(hF.same 22 (by decide)).trans rfl
   |23,_=>(hF.same 23 (by decide)).trans rfl
   |24,_=>(hF.same 24 (by decide)).trans rfl
   |25,_=>(hF.same 25 (by decide)).trans rfl
   |26,_=>(hF.same 26 (by decide)).trans rfl
   |27,_=>(hF.same 27 (by decide)).trans rfl
   |28,_=>(hF.same 28 (by decide)).trans rfl
   |29,_=>(hF.same 29 (by decide)).trans rfl
   |30,_=>(hF.same 30 (by decide)).trans rfl
   |31,_=>(hF.same 31 (by decide)).trans rfl
   |32,_=>(hF.same 32 (by decide)).trans rfl
   |33,_=>(hF.same 33 (by decide)).trans rfl
   |34,_=>(hF.same 34 (by decide)).trans rfl
   |35,_=>(hF.same 35 (by decide)).trans rfl
   |36,_=>(hF.same 36 (by decide)).trans rfl
   |37,_=>(hF.same 37 (by decide)).trans rfl
   |38,_=>(hF.same 38 (by decide)).trans rfl
   |39,_=>(hF.same 39 (by decide)).trans rfl
   |40,_=>(hF.same 40 (by decide)).trans rfl
   |41,_=>(hF.same 41 (by decide)).trans rfl
   |42,_=>(hF.same 42 (by decide)).trans rfl
   |43,_=>(hF.same 43 (by decide)).trans rfl
   |44,_=>(hF.same 44 (by decide)).trans rfl
   |45,_=>(hF.same 45 (by decide)).trans rfl
   |46,_=>(hF.same 46 (by decide)).trans rfl
   |47,_=>(hF.same 47 (by decide)).trans rfl
   |48,_=>(hF.same 48 (by decide)).trans rfl
   |49,_=>(hF.same 49 (by decide)).trans rfl
   |50,_=>(hF.same 50 (by decide)).trans rfl
   |51,_=>(hF.same 51 (by decide)).trans rfl
   |52,_=>(hF.same 52 (by decide)).trans rfl
   |53,_=>(hF.same 53 (by decide)).trans rfl
   |54,_=>(hF.same 54 (by decide)).trans rfl
   |55,_=>(hF.same 55 (by decide)).trans rfl
   |56,_=>(hF.same 56 (by decide)).trans rfl
   |57,_=>(hF.same 57 (by decide)).trans rfl
   |58,_=>(hF.same 58 (by decide)).trans rfl
   |59,_=>(hF.same 59 (by decide)).trans rfl
   |60,_=>(hF.same 60 (by decide)).trans rfl
   |61,_=>(hF.same 61 (by decide)).trans rfl
   |62,_=>(hF.same 62 (by decide)).trans rfl
   |63,_=>(hF.same 63 (by decide)).trans rfl
   |_+64,h=>absurd h (by simp only[List.length_cons,List.length_nil];omega))
  subst hlit
  obtain⟨W4,hW4,hE4,b5,b6⟩:=zsA (b:=b) (b':=b') (x:=x) (y:=y) (k:=(plZ Z:Nat)) (k':=(plZ Z':Nat)) HE.out hC bg bg' hne hg hg'
  have bgb:=bg'.other (Ne.symm hne) (.bool b) (.slice x.A x.n x.c) (.int .i64 (plZ Z:Nat))
  obtain⟨c1,c2,c3,c4,c5,c6⟩:=bg.cells
  obtain⟨d1,d2,d3,d4,d5,d6⟩:=bgb.cells
  have hne2:g'≠g:=Ne.symm hne
  obtain⟨f1,f2,f3,f4,f5,f6⟩:=bg'.cells
  clear hf hR hF hC bg bg' bgb pg pg'
  show wpList _ _ _ [_,_] _ V2
  obtain⟨m1,m2,m3,m4,m5,m6⟩:=b5.cells
  obtain⟨n1,n2,n3,n4,n5,n6⟩:=b6.cells
  replace b5:=zuy b5
  replace b6:=zuy b6
  replace HE4:=zuy hE4
  clear hE4 hg hg'
  go_wp2_with fail
  have ED:=ztE HE4.out.here HX.out.1 HX.out.2 (by have:=HXB.out.1;omega) (by have:=HXB.out.2;omega)
  by_cases hy0:y.N=0
  ·rw[show zbF y.N=30 by rw[hy0];rfl]at ED
   have hZ0:=zkO HPY.out hy0
   subst hZ0
   clear hy0
   refine ED.mono ?_
   rintro e1 W5 ⟨q,r,rfl,-,-,-,-,hE5⟩
   have HC5:=(HE4.out.1.trans (hE5.1.mono HE4.out.1.size))
   have hB4:=B4.out.below HC5 B4.out.lt
   have hB5:=B5.out.below HC5 B5.out.lt
   have hEn:=hE5.nought
   obtain⟨X,hX,hEX,x4,x5⟩:=zgJ (q:=⟨none,0,0,0⟩) (r:=⟨none,0,0,0⟩) (b:=false) (b':=false) HO.out HE.out HC5 (hEn.2 _ (by simp)) (hEn.2 _ (by simp)) hB4 hB5 (by omega) (by omega) (by omega)
   have hB5b:=hB5.keptset (g:=W.heap.size+1+1) (by omega) (.bool false) (.slice none 0 0)
   obtain⟨p1,p2,p3,p4⟩:=hB4.cells
   obtain⟨q1,q2,q3,q4⟩:=hB5b.cells
   obtain⟨r1,r2,r3,r4⟩:=hB5.cells
   have HEX:=zuy hEX
   replace x4:=zuy x4
   replace x5:=zuy x5
   clear hE5 HC5 hB4 hB5 hEn hEX hB5b ED
   dsimp only at hX
   go_wp2
   try rw[hX]
   refine bodyPost_ret (zgI x4.out x5.out rfl rfl rfl rfl) rfl ?_
   exact⟨⟨none,0,0,0⟩,⟨none,0,0,0⟩,by simp,by simp,by simp[zaU],by simp,by simp[zaU],HEX.out⟩
  ·have hm:y.N=Z'.natAbs:=by rw[←HPY.out,zaZ]
   have hn:x.N=Z.natAbs:=by rw[←HPX.out,zaZ]
   have hZ0:Z'≠0:=by intro h;rw[h]at hm;exact hy0 hm
   rw[show zbF y.N=0 by simp[zbF,hy0],zbZ hy0,hn,hm]at ED
   refine ED.mono ?_
   rintro e1 W5 ⟨q,r,rfl,qN,qn,rN,rn,hE5⟩
   have HC5:=zuy (HE4.out.1.trans (hE5.1.mono HE4.out.1.size))
   replace b5:=zuy (b5.out.below hE5.1 b5.out.lt)
   replace b6:=zuy (b6.out.below hE5.1 b6.out.lt)
   have HS5:=zuy (HS.out.keep HC5.out)
   have HE5:=zuy hE5.here
   have HN:=zuy (And.intro hn hm)
   have HZ:=zuy hZ0
   obtain⟨s1,s2,s3,-⟩:=b5.out.cells
   obtain⟨t1,t2,t3,-⟩:=b6.out.cells
   replace qN:=zuy qN
   replace qn:=zuy qn
   replace rN:=zuy rN
   replace rn:=zuy rn
   clear hE5 ED hy0 hm hn hZ0 m1 m2 m3 m4 m5 m6 n1 n2 n3 n4 n5 n6 c1 c2 c3 c4 c5 c6 d1 d2 d3 d4 d5 d6 f1 f2 f3 f4 f5 f6 hW4
   go_wp2
   have HM:=zuy (show IntKind.i64.wrap (Z.sign*Z'.sign)=Z.sign*Z'.sign from zhT Z Z')
   have HU:=zuy (show decide (Z.sign*Z'.sign<0)=zep Z Z' from rfl)
   refine za2 6 [32,33,34,35,36,37] (fun i v V=>match i with
     |0=>v= .agg #[.bool b,.slice x.A x.n x.c,.int .i64 (plZ Z:Nat)]
     |1=>v= .int .i64 Z.sign
     |2=>v= .agg #[.bool b',.slice y.A y.n y.c,.int .i64 (plZ Z':Nat)]
     |3=>v= .int .i64 Z'.sign
     |4=>v= .int .i64 (Z.sign*Z'.sign)
     |_=>v= .bool (zep Z Z')) (fun V=>Below W5.heap.size W5 V) (by kernel_rfl) (by kernel_rfl) rfl (by decide) (by first|(simp;done)|(simp;done)) zuB.drew ?_ ?_ ?_
   ·intro i v V V2 hf hb _
    match i,hf with
    |0,hf=>exact hf
    |1,hf=>exact hf
    |2,hf=>exact hf
    |3,hf=>exact hf
    |4,hf=>exact hf
    |_+5,hf=>exact hf
   ·intro i t ht a V hC hF hd
    match i,ht with
    |0,ht=>
     cases ht
     have h7:a.tmps[7]?.getD undef= .pointer (some ⟨g,0,none⟩):=(hF.at_ 7 (by decide)).trans rfl
     obtain⟨c00,c01,c02,-,-,-⟩:=(b5.out.below hC b5.out.lt).cells
     obtain⟨c10,c11,c12,-,-,-⟩:=(b6.out.below hC b6.out.lt).cells
     exact zai (v:= .agg #[.bool b,.slice x.A x.n x.c,.int .i64 (plZ Z:Nat)]) rfl rfl (zac rfl) (by go_simp) hC rfl
    |1,ht=>
     cases ht
     have h32:a.tmps[32]?.getD undef= .agg #[.bool b,.slice x.A x.n x.c,.int .i64 (plZ Z:Nat)]:=(zag a 32).symm.trans (hd 0 32 rfl (by kernel_rfl))
     refine zaQ rfl rfl (zac rfl) (zbf ⟨_,rfl⟩ h32 (enters_of Tryz.func145 (by kernel_rfl) rfl)) ((zgH (W:=V) (u:= .bool b) (v:= .slice x.A x.n x.c) (Z:=Z) (HS5.out.keep hC)).mono ?_)
     rintro e2 V2 ⟨rfl,hb⟩
     exact⟨_,rfl,rfl,hb,hC.trans (hb.mono hC.size)⟩
    |2,ht=>
     cases ht
     have h8:a.tmps[8]?.getD undef= .pointer (some ⟨g',0,none⟩):=(hF.at_ 8 (by decide)).trans rfl
     obtain⟨c00,c01,c02,-,-,-⟩:=(b5.out.below hC b5.out.lt).cells
     obtain⟨c10,c11,c12,-,-,-⟩:=(b6.out.below hC b6.out.lt).cells
     exact zai (v:= .agg #[.bool b',.slice y.A y.n y.c,.int .i64 (plZ Z':Nat)]) rfl rfl (zac rfl) (by go_simp) hC rfl
    |3,ht=>
     cases ht
     have h34:a.tmps[34]?.getD undef= .agg #[.bool b',.slice y.A y.n y.c,.int .i64 (plZ Z':Nat)]:=(zag a 34).symm.trans (hd 2 34 rfl (by kernel_rfl))
     refine zaQ rfl rfl (zac rfl) (zbf ⟨_,rfl⟩ h34 (enters_of Tryz.func145 (by kernel_rfl) rfl)) ((zgH (W:=V) (u:= .bool b') (v:= .slice y.A y.n y.c) (Z:=Z') (HS5.out.keep hC)).mono ?_)
     rintro e2 V2 ⟨rfl,hb⟩
     exact⟨_,rfl,rfl,hb,hC.trans (hb.mono hC.size)⟩
    |4,ht=>
     cases ht
     have h33:a.tmps[33]?.getD undef= .int .i64 Z.sign:=(zag a 33).symm.trans (hd 1 33 rfl (by kernel_rfl))
     have h35:a.tmps[35]?.getD undef= .int .i64 Z'.sign:=(zag a 35).symm.trans (hd 3 35 rfl (by kernel_rfl))
     have hm:=HM.out
     exact zai (v:= .int .i64 (Z.sign*Z'.sign)) rfl rfl (zac rfl) (by go_simp) hC rfl
    |5,ht=>
     cases ht
     have h36:a.tmps[36]?.getD undef= .int .i64 (Z.sign*Z'.sign):=(zag a 36).symm.trans (hd 4 36 rfl (by kernel_rfl))
     have hu:=HU.out
     exact zai (v:= .bool (zep Z Z')) rfl rfl (zac rfl) (by go_simp) hC rfl
    |k+6,ht=>simp at ht
   ·intro a2 V2 hC hF hf
    have hlit:=zfL (a:=a2) [.agg #[.bool b,.slice x.A x.n x.c],.agg #[.bool b',.slice y.A y.n y.c],.pointer (some ⟨W.heap.size,0,none⟩),.pointer (some ⟨W.heap.size+1,0,none⟩),.pointer (some ⟨W.heap.size+1+1,0,none⟩),.pointer (some ⟨W.heap.size+1+1+1,0,none⟩),.int .i64 0,.pointer (some ⟨g,0,none⟩),.pointer (some ⟨g',0,none⟩),.slice q.A q.n q.c,.slice r.A r.n r.c,undef,.agg #[.bool b,.slice x.A x.n x.c],.agg #[.bool b,.slice x.A x.n x.c,.int .i64 (plZ Z:Nat)],.agg #[.bool b',.slice y.A y.n y.c],.agg #[.bool b',.slice y.A y.n y.c,.int .i64 (plZ Z':Nat)],.tuple #[.slice q.A q.n q.c,.slice r.A r.n r.c,.int .i64 0],.pointer (some ⟨g,0,none⟩),.pointer (some ⟨g,1,none⟩),.slice x.A x.n x.c,.pointer (some ⟨g',0,none⟩),.pointer (some ⟨g',1,none⟩),.slice y.A y.n y.c,.tuple #[.slice q.A q.n q.c,.slice r.A r.n r.c,.int .i64 0],.slice q.A q.n q.c,.slice r.A r.n r.c,.int .i64 0,.int .i64 0,.bool false,undef,undef,undef,.agg #[.bool b,.slice x.A x.n x.c,.int .i64 (plZ Z:Nat)],.int .i64 Z.sign,.agg #[.bool b',.slice y.A y.n y.c,.int .i64 (plZ Z':Nat)],.int .i64 Z'.sign,.int .i64 (Z.sign*Z'.sign),.bool (zep Z Z'),undef,undef,undef,undef,undef,undef,undef,undef,undef,undef,undef,undef,undef,undef,undef,undef,undef,undef,undef,undef,undef,undef,undef,undef,undef,undef] (by simpa using hF.size) hF.defers (fun i hi=>match i,hi with
     |0,_=>(hF.same 0 (by decide)).trans rfl
     |1,_=>(hF.same 1 (by decide)).trans rfl
     |2,_=>(hF.same 2 (by decide)).trans rfl
     |3,_=>(hF.same 3 (by decide)).trans rfl
     |4,_=>(hF.same 4 (by decide)).trans rfl
     |5,_=>(hF.same 5 (by decide)).trans rfl
     |6,_=>(hF.same 6 (by decide)).trans rfl
     |7,_=>(hF.same 7 (by decide)).trans rfl
     |8,_=>(hF.same 8 (by decide)).trans rfl
     |9,_=>(hF.same 9 (by decide)).trans rfl
     |10,_=>(hF.same 10 (by decide)).trans rfl
     |11,_=>(hF.same 11 (by decide)).trans rfl
     |12,_=>(hF.same 12 (by decide)).trans rfl
     |13,_=>(hF.same 13 (by decide)).trans rfl
     |14,_=>(hF.same 14 (by decide)).trans rfl
     |15,_=>(hF.same 15 (by decide)).trans rfl
     |16,_=>(hF.same 16 (by decide)).trans rfl
     |17,_=>(hF.same 17 (by decide)).trans rfl
     |18,_=>(hF.same 18 (by decide)).trans rfl
     |19,_=>(hF.same 19 (by decide)).trans rfl
     |20,_=>(hF.same 20 (by decide)).trans rfl
     |21,_=>(hF.same 21 (by decide)).trans rfl
     |22,_=>(hF.same 22 (by decide)).trans rfl
     |23,_=>(hF.same 23 (by decide)).trans rfl
     |24,_=>(hF.same 24 (by decide)).trans rfl
     |25,_=>(hF.same 25 (by decide)).trans rfl
     |26,_=>(hF.same 26 (by decide)).trans rfl
     |27,_=>(hF.same 27 (by decide)).trans rfl
     |28,_=>(hF.same 28 (by decide)).trans rfl
     |29,_=>(hF.same 29 (by decide)).trans rfl
     |30,_=>(hF.same 30 (by decide)).trans rfl
     |31,_=>(hF.same 31 (by decide)).trans rfl
     |32,_=>(hf 0 32 rfl:a2.tmps.getD 32 undef=_)
     |33,_=>(hf 1 33 rfl:a2.tmps.getD 33 undef=_)
     |34,_=>(hf 2 34 rfl:a2.tmps.getD 34 undef=_)
     |35,_=>(hf 3 35 rfl:a2.tmps.getD 35 undef=_)
     |36,_=>(hf 4 36 rfl:a2.tmps.getD 36 undef=_)
     |37,_=>(hf 5 37 rfl:a2.tmps.getD 37 undef=_)
     |38,_=>(hF.same 38 (by decide)).trans rfl
     |39,_=>(hF.same 39 (by decide)).trans rfl
     |40,_=>(hF.same 40 (by decide)).trans rfl
     |41,_=>(hF.same 41 (by decide)).trans rfl
     |42,_=>(hF.same 42 (by decide)).trans rfl
     |43,_=>(hF.same 43 (by decide)).trans rfl
     |44,_=>(hF.same 44 (by decide)).trans rfl
     |45,_=>(hF.same 45 (by decide)).trans rfl
     |46,_=>(hF.same 46 (by decide)).trans rfl
     |47,_=>(hF.same 47 (by decide)).trans rfl
     |48,_=>(hF.same 48 (by decide)).trans rfl
     |49,_=>(hF.same 49 (by decide)).trans rfl
     |50,_=>(hF.same 50 (by decide)).trans rfl
     |51,_=>(hF.same 51 (by decide)).trans rfl
     |52,_=>(hF.same 52 (by decide)).trans rfl
     |53,_=>(hF.same 53 (by decide)).trans rfl
     |54,_=>(hF.same 54 (by decide)).trans rfl
     |55,_=>(hF.same 55 (by decide)).trans rfl
     |56,_=>(hF.same 56 (by decide)).trans rfl
     |57,_=>(hF.same 57 (by decide)).trans rfl
     |58,_=>(hF.same 58 (by decide)).trans rfl
     |59,_=>(hF.same 59 (by decide)).trans rfl
     |60,_=>(hF.same 60 (by decide)).trans rfl
     |61,_=>(hF.same 61 (by decide)).trans rfl
     |62,_=>(hF.same 62 (by decide)).trans rfl
     |63,_=>(hF.same 63 (by decide)).trans rfl
     |_+64,h=>absurd h (by simp only[List.length_cons,List.length_nil];omega))
    subst hlit
    have HE6:=zuy (show Env W5 (q::r::e) V2 from HE5.out.step hC)
    have HC6:=zuy (HC5.out.trans (hC.mono HC5.out.size))
    clear hf hF s1 s2 s3 t1 t2 t3 HU HM
    have hrl:=zbb (N:=r.N)
    have hrn:r.n=lenL r.N:=by rw[rn.out,rN.out]
    show wpList _ _ _ [_] _ V2
    by_cases hc:zep Z Z'=true∧0<Z.natAbs%Z'.natAbs
    ·have hfl:=zhA HZ.out hc.1 hc.2
     have hr0:0<r.n:=by have:=rN.out;have:=hc.2;omega
     rw[hc.1]at hfl ⊢
     have HL:=zuy (show r.N≤y.N by have h1:=Nat.mod_lt Z.natAbs (show 0<Z'.natAbs by have:=HZ.out;omega);rw[rN.out,HN.out.2];omega)
     have EO:=zuy (zsz (N:=1) HE6.out (by omega))
     have HFL:=zuy hfl
     clear hc hfl hrl hrn hC
     go_wp2_with fail
     refine EO.out.mono ?_
     rintro e2 W7 ⟨o,rfl,oN,on,hE7⟩
     have hol:o.n≤100000:=by rw[on];have:=zby.2 (show 1<18446744073709551616 by omega);omega
     have hql:q.n≤100000:=by
      have h1:=zaI (Nat.div_le_self Z.natAbs Z'.natAbs)
      have h2:=zaj.2 ((HE.out.2 x HX.out.1).1.1)
      rw[HN.out.1]at h2
      have:=qn.out
      have:=HXB.out.1
      omega
     have EA:=zuy (zqJ (x:=q) (y:=o) hE7 (by simp) (by simp) rfl hql hol)
     have HE7:=zuy hE7
     have HO7:=zuy oN
     clear hE7 hol hql oN on
     go_wp2_with fail
     refine EA.out.mono ?_
     rintro e3 W8 ⟨q',rfl,qN',qn',hE8⟩
     have HE8:=zuy hE8
     have hB6:=b6.out.below hE8.1 b6.out.lt
     obtain⟨y1,y2,y3,-⟩:=hB6.cells
     have ES:=zuy (zfc (x:=y) (y:=r) HE8.out (by simp[HX.out.2]) (by simp) HL.out)
     have hqN:q'.N=Z.natAbs/Z'.natAbs+1:=by rw[qN',qN.out,HO7.out]
     have HQ:=zuy (show q'.n=lenL q'.N by rw[qN',qn'])
     have HQN:=zuy hqN
     clear hE8 hB6 qN' qn' hqN
     go_wp2_with fail
     refine ES.out.mono ?_
     rintro e4 W9 ⟨r',rfl,rN',rn',hE9⟩
     have HCV:=zuy (HC5.out.trans (hE9.1.mono HC5.out.size))
     have B6:=zuy (b6.out.below hE9.1 b6.out.lt)
     have TOK:=zuy (hE9.2 q' (by simp))
     have ROK:=zuy (hE9.2 r' (by simp))
     have RL:=zuy (show r'.n=lenL r'.N by rw[rN',rn'])
     have F1:=zuy (show zOf true q'.N=Z.fdiv Z' by rw[HQN.out];exact HFL.out.1)
     have F2:=zuy (show zOf (decide (Z'<0)) r'.N=Z.fmod Z' by rw[rN',rN.out,HN.out.2];exact HFL.out.2)
     clear hE9 rN' rn' y1 y2 y3
     go_wp2
     have HP0:=zuy (zjq (Z:=Z'))
     refine za2 8 [56,57,58,59,60,61,62,63] (fun i v V=>match i with
       |0=>v= .bool true
       |1=>v= .slice q'.A q'.n q'.c
       |2=>RepT (Z.fdiv Z') v V
       |3=>v= .pointer (some ⟨g',2,none⟩)
       |4=>v= .int .i64 (plZ Z':Nat)
       |5=>v= .bool (decide (Z'<0))
       |6=>v= .slice r'.A r'.n r'.c
       |_=>RepT (Z.fmod Z') v V) (fun V=>Below W9.heap.size W9 V) (by kernel_rfl) (by kernel_rfl) rfl (by decide) (by first|(simp;done)|(simp;done)) zuB.drew ?_ ?_ ?_
     ·intro i v V V2 hf hb _
      match i,hf with
      |0,hf=>exact hf
      |1,hf=>exact hf
      |2,hf=>exact RepT.keep hf hb
      |3,hf=>exact hf
      |4,hf=>exact hf
      |5,hf=>exact hf
      |6,hf=>exact hf
      |_+7,hf=>exact RepT.keep hf hb
     ·intro i t ht a V hC hF hd
      match i,ht with
      |0,ht=>
       cases ht
       have h11:a.tmps[11]?.getD undef= .bool true:=(hF.at_ 11 (by decide)).trans rfl
       exact zai (v:= .bool true) rfl rfl (zac rfl) (by go_simp) hC rfl
      |1,ht=>
       cases ht
       have h9:a.tmps[9]?.getD undef= .slice q'.A q'.n q'.c:=(hF.at_ 9 (by decide)).trans rfl
       exact zai (v:= .slice q'.A q'.n q'.c) rfl rfl (zac rfl) (by go_simp) hC rfl
      |2,ht=>
       cases ht
       have h56:a.tmps[56]?.getD undef= .bool true:=(zag a 56).symm.trans (hd 0 56 rfl (by kernel_rfl))
       have h57:a.tmps[57]?.getD undef= .slice q'.A q'.n q'.c:=(zag a 57).symm.trans (hd 1 57 rfl (by kernel_rfl))
       refine zaQ rfl rfl (zac rfl) (zbU ⟨_,rfl⟩ h56 h57 (enters_of Tryz.func131 (by kernel_rfl) rfl)) ((zeo (w:=V) (W:=V) (e:=[q']) (x:=q') (Env.start (by simp only[List.mem_singleton,forall_eq];exact TOK.out.later hC)) HQ.out).mono ?_)
       rintro e2 V2 ⟨rfl,hE2⟩
       exact⟨_,rfl,⟨q',by rw[F1.out],by rw[←F1.out,zaZ],by rw[HQ.out,←F1.out,zaZ],hE2.2 q' (by simp)⟩,hE2.1,hC.trans (hE2.1.mono hC.size)⟩
      |3,ht=>
       cases ht
       have h8:a.tmps[8]?.getD undef= .pointer (some ⟨g',0,none⟩):=(hF.at_ 8 (by decide)).trans rfl
       exact zai (v:= .pointer (some ⟨g',2,none⟩)) rfl rfl (zac rfl) (by go_simp) hC rfl
      |4,ht=>
       cases ht
       have h59:a.tmps[59]?.getD undef= .pointer (some ⟨g',2,none⟩):=(zag a 59).symm.trans (hd 3 59 rfl (by kernel_rfl))
       obtain⟨c00,c01,c02,-,-,-⟩:=(B6.out.below hC B6.out.lt).cells
       exact zai (v:= .int .i64 (plZ Z':Nat)) rfl rfl (zac rfl) (by go_simp) hC rfl
      |5,ht=>
       cases ht
       have h60:a.tmps[60]?.getD undef= .int .i64 (plZ Z':Nat):=(zag a 60).symm.trans (hd 4 60 rfl (by kernel_rfl))
       have hp0:=HP0.out
       exact zai (v:= .bool (decide (Z'<0))) rfl rfl (zac rfl) (by go_simp) hC rfl
      |6,ht=>
       cases ht
       have h10:a.tmps[10]?.getD undef= .slice r'.A r'.n r'.c:=(hF.at_ 10 (by decide)).trans rfl
       exact zai (v:= .slice r'.A r'.n r'.c) rfl rfl (zac rfl) (by go_simp) hC rfl
      |7,ht=>
       cases ht
       have h61:a.tmps[61]?.getD undef= .bool (decide (Z'<0)):=(zag a 61).symm.trans (hd 5 61 rfl (by kernel_rfl))
       have h62:a.tmps[62]?.getD undef= .slice r'.A r'.n r'.c:=(zag a 62).symm.trans (hd 6 62 rfl (by kernel_rfl))
       refine zaQ rfl rfl (zac rfl) (zbU ⟨_,rfl⟩ h61 h62 (enters_of Tryz.func131 (by kernel_rfl) rfl)) ((zeo (w:=V) (W:=V) (e:=[r']) (x:=r') (Env.start (by simp only[List.mem_singleton,forall_eq];exact ROK.out.later hC)) RL.out).mono ?_)
       rintro e2 V2 ⟨rfl,hE2⟩
       exact⟨_,rfl,⟨r',by rw[F2.out],by rw[←F2.out,zaZ],by rw[RL.out,←F2.out,zaZ],hE2.2 r' (by simp)⟩,hE2.1,hC.trans (hE2.1.mono hC.size)⟩
      |k+8,ht=>simp at ht
     ·intro a9 V9 hC hF hf
      have p4:a9.tmps[4]?.getD undef= .pointer (some ⟨W.heap.size+1+1,0,none⟩):=(hF.at_ 4 (by decide)).trans rfl
      have p5:a9.tmps[5]?.getD undef= .pointer (some ⟨W.heap.size+1+1+1,0,none⟩):=(hF.at_ 5 (by decide)).trans rfl
      obtain⟨q9,p58,n1,n2,hk⟩:=(hf 2 58 rfl:RepT (Z.fdiv Z') (a9.tmps.getD 58 undef) V9)
      obtain⟨r9,p63,m1,m2,hm⟩:=(hf 7 63 rfl:RepT (Z.fmod Z') (a9.tmps.getD 63 undef) V9)
      rw[zag]at p58 p63
      have hdf:a9.defers=[]:=hF.defers
      have HSZ:=zuy (show a9.tmps.size=64 from hF.size)
      have HC9:=HCV.out.trans (hC.mono HCV.out.size)
      have hB4:=B4.out.below HC9 B4.out.lt
      have hB5:=B5.out.below HC9 B5.out.lt
      obtain⟨X,hX,hEX,x4,x5⟩:=zgJ (q:=q9) (r:=r9) (b:=decide (Z.fdiv Z'<0)) (b':=decide (Z.fmod Z'<0)) HO.out HE.out HC9 hk hm hB4 hB5 (by omega) (by omega) (by omega)
      have hB5b:=hB5.keptset (g:=W.heap.size+1+1) (by omega) (.bool (decide (Z.fdiv Z'<0))) (.slice q9.A q9.n q9.c)
      obtain⟨k1,k2,k3,k4⟩:=hB4.cells
      obtain⟨l1,l2,l3,l4⟩:=hB5b.cells
      obtain⟨j1,j2,j3,j4⟩:=hB5.cells
      have HEX:=zuy hEX
      replace x4:=zuy x4
      replace x5:=zuy x5
      replace n1:=zuy n1
      replace n2:=zuy n2
      replace m1:=zuy m1
      replace m2:=zuy m2
      have HZ2:=zuy (show(if Z'=0 then 0 else Z.fmod Z')=Z.fmod Z' from if_neg HZ.out)
      have HZ3:=zuy (show(if Z'=0 then(30:Int)else 0)=0 from if_neg HZ.out)
      clear hf hF hC hB4 hB5 hEX hB5b HC9
      show wpList _ _ _ [_,_,_] a9 V9
      go_wp2
      try rw[hX]
      refine bodyPost_ret (zgI (z:= .int .i64 0) x4.out x5.out rfl ?_ ?_ ?_) (by first|exact hdf|simp|simpa using hdf) ?_
      ·have hsz:=HSZ.out
       simp[hsz]at p4 ⊢
       exact p4
      ·have hsz:=HSZ.out
       simp[hsz]at p5 ⊢
       exact p5
      ·have hsz:=HSZ.out
       simp[hsz]
      ·exact⟨q9,r9,by first|rfl|rw[HZ2.out,HZ3.out],n1.out,n2.out,by first|exact m1.out|(rw[HZ2.out];exact m1.out),by first|exact m2.out|(rw[HZ2.out];exact m2.out),HEX.out⟩
    ·have hfl:=zhB HZ.out hc
     have HCV:=zuy HC6.out
     have B6:=zuy (b6.out.below hC b6.out.lt)
     have TOK:=zuy (HE6.out.2 q (by simp))
     have ROK:=zuy (HE6.out.2 r (by simp))
     have HQ:=zuy (show q.n=lenL q.N by rw[qn.out,qN.out])
     have RL:=zuy hrn
     rw[←qN.out,←rN.out]at hfl
     have F2:=zuy hfl.2
     cases hu:zep Z Z' with
     |false=>
      rw[hu]at hfl
      have F1:=zuy hfl.1
      clear hc hfl hrl hrn hu hC
      go_wp2
      have HP0:=zuy (zjq (Z:=Z'))
      refine za2 8 [56,57,58,59,60,61,62,63] (fun i v V=>match i with
        |0=>v= .bool false
        |1=>v= .slice q.A q.n q.c
        |2=>RepT (Z.fdiv Z') v V
        |3=>v= .pointer (some ⟨g',2,none⟩)
        |4=>v= .int .i64 (plZ Z':Nat)
        |5=>v= .bool (decide (Z'<0))
        |6=>v= .slice r.A r.n r.c
        |_=>RepT (Z.fmod Z') v V) (fun V=>Below V2.heap.size V2 V) (by kernel_rfl) (by kernel_rfl) rfl (by decide) (by first|(simp;done)|(simp;done)) zuB.drew ?_ ?_ ?_
      ·intro i v V V2 hf hb _
       match i,hf with
       |0,hf=>exact hf
       |1,hf=>exact hf
       |2,hf=>exact RepT.keep hf hb
       |3,hf=>exact hf
       |4,hf=>exact hf
       |5,hf=>exact hf
       |6,hf=>exact hf
       |_+7,hf=>exact RepT.keep hf hb
      ·intro i t ht a V hC hF hd
       match i,ht with
       |0,ht=>
        cases ht
        have h11:a.tmps[11]?.getD undef= .bool false:=(hF.at_ 11 (by decide)).trans rfl
        exact zai (v:= .bool false) rfl rfl (zac rfl) (by go_simp) hC rfl
       |1,ht=>
        cases ht
        have h9:a.tmps[9]?.getD undef= .slice q.A q.n q.c:=(hF.at_ 9 (by decide)).trans rfl
        exact zai (v:= .slice q.A q.n q.c) rfl rfl (zac rfl) (by go_simp) hC rfl
       |2,ht=>
        cases ht
        have h56:a.tmps[56]?.getD undef= .bool false:=(zag a 56).symm.trans (hd 0 56 rfl (by kernel_rfl))
        have h57:a.tmps[57]?.getD undef= .slice q.A q.n q.c:=(zag a 57).symm.trans (hd 1 57 rfl (by kernel_rfl))
        refine zaQ rfl rfl (zac rfl) (zbU ⟨_,rfl⟩ h56 h57 (enters_of Tryz.func131 (by kernel_rfl) rfl)) ((zeo (w:=V) (W:=V) (e:=[q]) (x:=q) (Env.start (by simp only[List.mem_singleton,forall_eq];exact TOK.out.later hC)) HQ.out).mono ?_)
        rintro e2 V2 ⟨rfl,hE2⟩
        exact⟨_,rfl,⟨q,by rw[F1.out],by rw[←F1.out,zaZ],by rw[HQ.out,←F1.out,zaZ],hE2.2 q (by simp)⟩,hE2.1,hC.trans (hE2.1.mono hC.size)⟩
       |3,ht=>
        cases ht
        have h8:a.tmps[8]?.getD undef= .pointer (some ⟨g',0,none⟩):=(hF.at_ 8 (by decide)).trans rfl
        exact zai (v:= .pointer (some ⟨g',2,none⟩)) rfl rfl (zac rfl) (by go_simp) hC rfl
       |4,ht=>
        cases ht
        have h59:a.tmps[59]?.getD undef= .pointer (some ⟨g',2,none⟩):=(zag a 59).symm.trans (hd 3 59 rfl (by kernel_rfl))
        obtain⟨c00,c01,c02,-,-,-⟩:=(B6.out.below hC B6.out.lt).cells
        exact zai (v:= .int .i64 (plZ Z':Nat)) rfl rfl (zac rfl) (by go_simp) hC rfl
       |5,ht=>
        cases ht
        have h60:a.tmps[60]?.getD undef= .int .i64 (plZ Z':Nat):=(zag a 60).symm.trans (hd 4 60 rfl (by kernel_rfl))
        have hp0:=HP0.out
        exact zai (v:= .bool (decide (Z'<0))) rfl rfl (zac rfl) (by go_simp) hC rfl
       |6,ht=>
        cases ht
        have h10:a.tmps[10]?.getD undef= .slice r.A r.n r.c:=(hF.at_ 10 (by decide)).trans rfl
        exact zai (v:= .slice r.A r.n r.c) rfl rfl (zac rfl) (by go_simp) hC rfl
       |7,ht=>
        cases ht
        have h61:a.tmps[61]?.getD undef= .bool (decide (Z'<0)):=(zag a 61).symm.trans (hd 5 61 rfl (by kernel_rfl))
        have h62:a.tmps[62]?.getD undef= .slice r.A r.n r.c:=(zag a 62).symm.trans (hd 6 62 rfl (by kernel_rfl))
        refine zaQ rfl rfl (zac rfl) (zbU ⟨_,rfl⟩ h61 h62 (enters_of Tryz.func131 (by kernel_rfl) rfl)) ((zeo (w:=V) (W:=V) (e:=[r]) (x:=r) (Env.start (by simp only[List.mem_singleton,forall_eq];exact ROK.out.later hC)) RL.out).mono ?_)
        rintro e2 V2 ⟨rfl,hE2⟩
        exact⟨_,rfl,⟨r,by rw[F2.out],by rw[←F2.out,zaZ],by rw[RL.out,←F2.out,zaZ],hE2.2 r (by simp)⟩,hE2.1,hC.trans (hE2.1.mono hC.size)⟩
       |k+8,ht=>simp at ht
      ·intro a9 V9 hC hF hf
       have p4:a9.tmps[4]?.getD undef= .pointer (some ⟨W.heap.size+1+1,0,none⟩):=(hF.at_ 4 (by decide)).trans rfl
       have p5:a9.tmps[5]?.getD undef= .pointer (some ⟨W.heap.size+1+1+1,0,none⟩):=(hF.at_ 5 (by decide)).trans rfl
       obtain⟨q9,p58,n1,n2,hk⟩:=(hf 2 58 rfl:RepT (Z.fdiv Z') (a9.tmps.getD 58 undef) V9)
       obtain⟨r9,p63,m1,m2,hm⟩:=(hf 7 63 rfl:RepT (Z.fmod Z') (a9.tmps.getD 63 undef) V9)
       rw[zag]at p58 p63
       have hdf:a9.defers=[]:=hF.defers
       have HSZ:=zuy (show a9.tmps.size=64 from hF.size)
       have HC9:=HCV.out.trans (hC.mono HCV.out.size)
       have hB4:=B4.out.below HC9 B4.out.lt
       have hB5:=B5.out.below HC9 B5.out.lt
       obtain⟨X,hX,hEX,x4,x5⟩:=zgJ (q:=q9) (r:=r9) (b:=decide (Z.fdiv Z'<0)) (b':=decide (Z.fmod Z'<0)) HO.out HE.out HC9 hk hm hB4 hB5 (by omega) (by omega) (by omega)
       have hB5b:=hB5.keptset (g:=W.heap.size+1+1) (by omega) (.bool (decide (Z.fdiv Z'<0))) (.slice q9.A q9.n q9.c)
       obtain⟨k1,k2,k3,k4⟩:=hB4.cells
       obtain⟨l1,l2,l3,l4⟩:=hB5b.cells
       obtain⟨j1,j2,j3,j4⟩:=hB5.cells
       have HEX:=zuy hEX
       replace x4:=zuy x4
       replace x5:=zuy x5
       replace n1:=zuy n1
       replace n2:=zuy n2
       replace m1:=zuy m1
       replace m2:=zuy m2
       have HZ2:=zuy (show(if Z'=0 then 0 else Z.fmod Z')=Z.fmod Z' from if_neg HZ.out)
       have HZ3:=zuy (show(if Z'=0 then(30:Int)else 0)=0 from if_neg HZ.out)
       clear hf hF hC hB4 hB5 hEX hB5b HC9
       show wpList _ _ _ [_,_,_] a9 V9
       go_wp2
       try rw[hX]
       refine bodyPost_ret (zgI (z:= .int .i64 0) x4.out x5.out rfl ?_ ?_ ?_) (by first|exact hdf|simp|simpa using hdf) ?_
       ·have hsz:=HSZ.out
        simp[hsz]at p4 ⊢
        exact p4
       ·have hsz:=HSZ.out
        simp[hsz]at p5 ⊢
        exact p5
       ·have hsz:=HSZ.out
        simp[hsz]
       ·exact⟨q9,r9,by first|rfl|rw[HZ2.out,HZ3.out],n1.out,n2.out,by first|exact m1.out|(rw[HZ2.out];exact m1.out),by first|exact m2.out|(rw[HZ2.out];exact m2.out),HEX.out⟩
     |true=>
      rw[hu]at hfl
      have F1:=zuy hfl.1
      have hr0: ¬0<r.n:=fun h=>hc ⟨hu,by rw[←rN.out];omega⟩
      clear hc hfl hrl hrn hu hC
      go_wp2
      have HP0:=zuy (zjq (Z:=Z'))
      refine za2 8 [56,57,58,59,60,61,62,63] (fun i v V=>match i with
        |0=>v= .bool true
        |1=>v= .slice q.A q.n q.c
        |2=>RepT (Z.fdiv Z') v V
        |3=>v= .pointer (some ⟨g',2,none⟩)
        |4=>v= .int .i64 (plZ Z':Nat)
        |5=>v= .bool (decide (Z'<0))
        |6=>v= .slice r.A r.n r.c
        |_=>RepT (Z.fmod Z') v V) (fun V=>Below V2.heap.size V2 V) (by kernel_rfl) (by kernel_rfl) rfl (by decide) (by first|(simp;done)|(simp;done)) zuB.drew ?_ ?_ ?_
      ·intro i v V V2 hf hb _
       match i,hf with
       |0,hf=>exact hf
       |1,hf=>exact hf
       |2,hf=>exact RepT.keep hf hb
       |3,hf=>exact hf
       |4,hf=>exact hf
       |5,hf=>exact hf
       |6,hf=>exact hf
       |_+7,hf=>exact RepT.keep hf hb
      ·intro i t ht a V hC hF hd
       match i,ht with
       |0,ht=>
        cases ht
        have h11:a.tmps[11]?.getD undef= .bool true:=(hF.at_ 11 (by decide)).trans rfl
        exact zai (v:= .bool true) rfl rfl (zac rfl) (by go_simp) hC rfl
       |1,ht=>
        cases ht
        have h9:a.tmps[9]?.getD undef= .slice q.A q.n q.c:=(hF.at_ 9 (by decide)).trans rfl
        exact zai (v:= .slice q.A q.n q.c) rfl rfl (zac rfl) (by go_simp) hC rfl
       |2,ht=>
        cases ht
        have h56:a.tmps[56]?.getD undef= .bool true:=(zag a 56).symm.trans (hd 0 56 rfl (by kernel_rfl))
        have h57:a.tmps[57]?.getD undef= .slice q.A q.n q.c:=(zag a 57).symm.trans (hd 1 57 rfl (by kernel_rfl))
        refine zaQ rfl rfl (zac rfl) (zbU ⟨_,rfl⟩ h56 h57 (enters_of Tryz.func131 (by kernel_rfl) rfl)) ((zeo (w:=V) (W:=V) (e:=[q]) (x:=q) (Env.start (by simp only[List.mem_singleton,forall_eq];exact TOK.out.later hC)) HQ.out).mono ?_)
        rintro e2 V2 ⟨rfl,hE2⟩
        exact⟨_,rfl,⟨q,by rw[F1.out],by rw[←F1.out,zaZ],by rw[HQ.out,←F1.out,zaZ],hE2.2 q (by simp)⟩,hE2.1,hC.trans (hE2.1.mono hC.size)⟩
       |3,ht=>
        cases ht
        have h8:a.tmps[8]?.getD undef= .pointer (some ⟨g',0,none⟩):=(hF.at_ 8 (by decide)).trans rfl
        exact zai (v:= .pointer (some ⟨g',2,none⟩)) rfl rfl (zac rfl) (by go_simp) hC rfl
       |4,ht=>
        cases ht
        have h59:a.tmps[59]?.getD undef= .pointer (some ⟨g',2,none⟩):=(zag a 59).symm.trans (hd 3 59 rfl (by kernel_rfl))
        obtain⟨c00,c01,c02,-,-,-⟩:=(B6.out.below hC B6.out.lt).cells
        exact zai (v:= .int .i64 (plZ Z':Nat)) rfl rfl (zac rfl) (by go_simp) hC rfl
       |5,ht=>
        cases ht
        have h60:a.tmps[60]?.getD undef= .int .i64 (plZ Z':Nat):=(zag a 60).symm.trans (hd 4 60 rfl (by kernel_rfl))
        have hp0:=HP0.out
        exact zai (v:= .bool (decide (Z'<0))) rfl rfl (zac rfl) (by go_simp) hC rfl
       |6,ht=>
        cases ht
        have h10:a.tmps[10]?.getD undef= .slice r.A r.n r.c:=(hF.at_ 10 (by decide)).trans rfl
        exact zai (v:= .slice r.A r.n r.c) rfl rfl (zac rfl) (by go_simp) hC rfl
       |7,ht=>
        cases ht
        have h61:a.tmps[61]?.getD undef= .bool (decide (Z'<0)):=(zag a 61).symm.trans (hd 5 61 rfl (by kernel_rfl))
        have h62:a.tmps[62]?.getD undef= .slice r.A r.n r.c:=(zag a 62).symm.trans (hd 6 62 rfl (by kernel_rfl))
        refine zaQ rfl rfl (zac rfl) (zbU ⟨_,rfl⟩ h61 h62 (enters_of Tryz.func131 (by kernel_rfl) rfl)) ((zeo (w:=V) (W:=V) (e:=[r]) (x:=r) (Env.start (by simp only[List.mem_singleton,forall_eq];exact ROK.out.later hC)) RL.out).mono ?_)
        rintro e2 V2 ⟨rfl,hE2⟩
        exact⟨_,rfl,⟨r,by rw[F2.out],by rw[←F2.out,zaZ],by rw[RL.out,←F2.out,zaZ],hE2.2 r (by simp)⟩,hE2.1,hC.trans (hE2.1.mono hC.size)⟩
       |k+8,ht=>simp at ht
      ·intro a9 V9 hC hF hf
       have p4:a9.tmps[4]?.getD undef= .pointer (some ⟨W.heap.size+1+1,0,none⟩):=(hF.at_ 4 (by decide)).trans rfl
       have p5:a9.tmps[5]?.getD undef= .pointer (some ⟨W.heap.size+1+1+1,0,none⟩):=(hF.at_ 5 (by decide)).trans rfl
       obtain⟨q9,p58,n1,n2,hk⟩:=(hf 2 58 rfl:RepT (Z.fdiv Z') (a9.tmps.getD 58 undef) V9)
       obtain⟨r9,p63,m1,m2,hm⟩:=(hf 7 63 rfl:RepT (Z.fmod Z') (a9.tmps.getD 63 undef) V9)
       rw[zag]at p58 p63
       have hdf:a9.defers=[]:=hF.defers
       have HSZ:=zuy (show a9.tmps.size=64 from hF.size)
       have HC9:=HCV.out.trans (hC.mono HCV.out.size)
       have hB4:=B4.out.below HC9 B4.out.lt
       have hB5:=B5.out.below HC9 B5.out.lt
       obtain⟨X,hX,hEX,x4,x5⟩:=zgJ (q:=q9) (r:=r9) (b:=decide (Z.fdiv Z'<0)) (b':=decide (Z.fmod Z'<0)) HO.out HE.out HC9 hk hm hB4 hB5 (by omega) (by omega) (by omega)
       have hB5b:=hB5.keptset (g:=W.heap.size+1+1) (by omega) (.bool (decide (Z.fdiv Z'<0))) (.slice q9.A q9.n q9.c)
       obtain⟨k1,k2,k3,k4⟩:=hB4.cells
       obtain⟨l1,l2,l3,l4⟩:=hB5b.cells
       obtain⟨j1,j2,j3,j4⟩:=hB5.cells
       have HEX:=zuy hEX
       replace x4:=zuy x4
       replace x5:=zuy x5
       replace n1:=zuy n1
       replace n2:=zuy n2
       replace m1:=zuy m1
       replace m2:=zuy m2
       have HZ2:=zuy (show(if Z'=0 then 0 else Z.fmod Z')=Z.fmod Z' from if_neg HZ.out)
       have HZ3:=zuy (show(if Z'=0 then(30:Int)else 0)=0 from if_neg HZ.out)
       clear hf hF hC hB4 hB5 hEX hB5b HC9
       show wpList _ _ _ [_,_,_] a9 V9
       go_wp2
       try rw[hX]
       refine bodyPost_ret (zgI (z:= .int .i64 0) x4.out x5.out rfl ?_ ?_ ?_) (by first|exact hdf|simp|simpa using hdf) ?_
       ·have hsz:=HSZ.out
        simp[hsz]at p4 ⊢
        exact p4
       ·have hsz:=HSZ.out
        simp[hsz]at p5 ⊢
        exact p5
       ·have hsz:=HSZ.out
        simp[hsz]
       ·exact⟨q9,r9,by first|rfl|rw[HZ2.out,HZ3.out],n1.out,n2.out,by first|exact m1.out|(rw[HZ2.out];exact m1.out),by first|exact m2.out|(rw[HZ2.out];exact m2.out),HEX.out⟩
end
end Go.Proofs.YtafokgknenienaaGreatDoor
