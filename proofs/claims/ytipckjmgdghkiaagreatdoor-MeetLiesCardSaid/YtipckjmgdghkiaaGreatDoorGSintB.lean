/- A part. -/
import Derived.Test.YtipckjmgdghkiaaGreatDoorGBox
import Derived.Test.YtipckjmgdghkiaaGreatDoorGProdB
import Derived.Test.YtipckjmgdghkiaaGreatDoorGRefH
set_option maxHeartbeats 1000000
set_option maxRecDepth 100000
namespace Go.Proofs.YtipckjmgdghkiaaGreatDoor
open Go Go.RowKit
section
def RepZ (Z:Int)(v:Value)(V:World):Prop:=∃(b:Bool) (r:Num),v= .agg #[.bool b,.slice r.A r.n r.c]/\zOf b r.N=Z/\r.n<=10000/\r.ok V V.heap.size
def RepT (Z:Int)(v:Value)(V:World):Prop:=∃r:Num,v= .agg #[.bool (decide (Z<0)),.slice r.A r.n r.c]/\r.N=Z.natAbs/\r.n=lenL Z.natAbs/\r.ok V V.heap.size
def RepRow (l:List Int)(v:Value)(V:World):Prop:=∃(A:Option Addr) (c:Nat) (ps:List (Bool×Num)),v= .slice A ps.length c/\ZRds V V.heap.size A ps/\ps.map zP=l/\(∀p∈ps,p.2.n<=10000)/\ps.length<=c/\c<=maxLen/\ps.length<=1000
theorem RepZ.keep {Z:Int}{v:Value}{V V':World}(h:RepZ Z v V)(hb:Below V.heap.size V V'):RepZ Z v V':=by
 obtain⟨b,r,h1,h2,h3,h4⟩:=h
 exact⟨b,r,h1,h2,h3,h4.later hb⟩
theorem RepT.keep {Z:Int}{v:Value}{V V':World}(h:RepT Z v V)(hb:Below V.heap.size V V'):RepT Z v V':=by
 obtain⟨r,h1,h2,h3,h4⟩:=h
 exact⟨r,h1,h2,h3,h4.later hb⟩
theorem RepRow.keep {l:List Int}{v:Value}{V V':World}(h:RepRow l v V)(hb:Below V.heap.size V V'):RepRow l v V':=by
 obtain⟨A,c,ps,h1,h2,h3⟩:=h
 exact⟨A,c,ps,h1,(h2.below hb).more hb.size,h3⟩
theorem RepT.z {Z:Int}{v:Value}{V:World}(h:RepT Z v V)(hl:lenL Z.natAbs<=10000):RepZ Z v V:=by
 obtain⟨r,h1,h2,h3,h4⟩:=h
 exact⟨_,r,h1,by rw[h2,zc7],by omega,h4⟩
variable {ops:Array Oper}{Q:Exit -> Act -> World -> Prop}{C:World -> Prop}{a:Act}{V:World}{i:Nat}{t:Tmp}{o:Oper}{F:Value -> World -> Prop}
variable {t1 t2 t3:Tmp}{v1 v2 v3:Value}{Z Z1 Z2 Z3:Int}{g:Nat}{T:TypeId}{x y:Value}
theorem zuv {ps:List (Bool×Num)}{l:List Int}(h:ps.map zP=l):zdl ps=l.sum:=by unfold zdl;rw[h]
section
variable {f:FuncId} (ho:ops[i]? = some o) (hd:o.dst = some t) (hw:Region.wanted o (yielded ops a.tmps) = true)
variable (hC : ∀ V', Below V.heap.size V V' -> C V')
include ho hd hw hC
end
def RepBox (W0:World)(v:Value)(V:World):Prop:=∃g,v= .pointer (some ⟨g,0,none⟩)/\W0.heap.size<=g/\Box2 V g 25 (.bool false) (.slice none 0 0)
theorem RepBox.keep {W0:World}{v:Value}{V V':World}(h:RepBox W0 v V)(hb:Below V.heap.size V V'):RepBox W0 v V':=by
 obtain⟨g,h1,h2,h3⟩:=h
 exact⟨g,h1,h2,h3.below hb h3.lt⟩
theorem ze7 {G:Value->Prop}(hG:∀v,G v)(h:wpOp Tryz.prog ops Q i (fun a' w'=>∃v,a'=a.put (some t) v/\F v w'/\Below V.heap.size V w'/\C w') a V):
  wpOp Tryz.prog ops Q i (fun a' w'=>∃v,a'=a.put (some t) v/\(F v w'/\G v)/\Below V.heap.size V w'/\C w') a V:=
 wpOp_mono (fun _ _ ⟨v,e1,e2,e3,e4⟩=>⟨v,e1,⟨e2,hG v⟩,e3,e4⟩) h
theorem Rd.box {W:World}{hi n N g k:Nat}{A:Option Addr}{b:Bool}{v u:Value}{T:TypeId}(h:Rd W hi A n N)(B:Box2 W g T (.bool b) v)(hv:∀z:Int,v≠ .int .u32 z)(hk:k=0\/k=1):Rd (W.setCell ⟨g,k,none⟩ u) hi A n N:=
 ⟨h.1,fun hn=>by
  obtain⟨ad,e,hb,hc⟩:=h.2 hn
  refine⟨ad,e,hb,fun j hj=>?_⟩
  rw[World.cell?_setCell_other _ _ _ _ (fun e2=>?_)]
  ·exact hc j hj
  ·have h1:=hc j hj
   obtain⟨c1,c2,-,-⟩:=B.cells
   rw[<-e2]at h1
   rcases hk with rfl|rfl
   ·rw[c1]at h1;cases h1
   ·rw[c2]at h1;injection h1 with h1;exact hv _ h1⟩
theorem Num.ok.box {W:World}{g:Nat}{r:Num}{b b':Bool}{A:Option Addr}{n c:Nat}{u:Value}{T:TypeId}(h:r.ok W W.heap.size)(B:Box2 W g T (.bool b) (.slice A n c)):
  r.ok ((W.setCell ⟨g,0,none⟩ (.bool b')).setCell ⟨g,1,none⟩ u) ((W.setCell ⟨g,0,none⟩ (.bool b')).setCell ⟨g,1,none⟩ u).heap.size:=by
 have h1:=h.1.box (u:= .bool b') B (by intro z e;cases e) (.inl rfl)
 have h2:=h1.box (u:=u) (B.set0 (.bool b')) (by intro z e;cases e) (.inr rfl)
 exact⟨by rw[World.size_setCell,World.size_setCell];exact h2,h.2⟩
end
section
variable {w W:World}{e:List Num}{x y:Num}
def Signs (w:World):Prop:=∀j:Nat,j<3->w.cell? ⟨0,j,none⟩=some (.int .i64 ((j:Int) - 1))
theorem zvs {w:World}{b o:Nat}{v:Value}(h:w.cell? ⟨b,o,none⟩=some v):b<w.heap.size:=by
 rcases zv6 b w.heap.size with h1|h1
 ·exact h1
 ·simp[World.cell?,Array.getElem?_eq_none h1]at h
theorem Signs.keep {w W:World}(h:Signs w)(hb:Below w.heap.size w W):Signs W:=fun j hj=>(hb.cell (p:=⟨0,j,none⟩) (zvs (h j hj))).trans (h j hj)
theorem zvt {N:Nat}(h:Env w e W)(hN:N<18446744073709551616):Calls Tryz.prog 85 #[.int .u64 N] W (zo5 w e N):=
 (zgf W N hN).mono fun _ _ hg=>zbB h hg (by have:=zbK.2 hN;omega)
theorem zfA {W1 V:World}{r:Num}{Z:Int}{g n c:Nat}{b:Bool}{A:Option Addr}{T:TypeId}(HO:Below w.heap.size w W1)(HE:Env W1 e W1)(hC:Below W1.heap.size W1 V)(hk:r.ok V V.heap.size)(B:Box2 V g T (.bool b) (.slice A n c))(hg:w.heap.size<=g)
  (n1:r.N=Z.natAbs) (n2:r.n=lenL Z.natAbs):Zs w e Z (.returned (.agg #[.bool (decide (Z<0)),.slice r.A r.n r.c])) ((V.setCell ⟨g,0,none⟩ (.bool (decide (Z<0)))).setCell ⟨g,1,none⟩ (.slice r.A r.n r.c)):=by
 refine⟨r,rfl,n1,n2,Env.boxed (e:=r::e) ⟨HO.trans (hC.mono HO.size),?_⟩ B hg _ _⟩
 intro z hz
 rcases List.mem_cons.1 hz with rfl|hz
 ·exact hk
 ·exact(HE.2 z hz).later hC
theorem zoV:(Tryz.prog.info? 153).map (·.size)=some 3:=by kernel_rfl
theorem zhR {W:World}{B:Nat}{t:TypeId}{a b c:Value}(h:Box3 W B t a b c){fn:Func}{p:Tmp}(hr:fn.results= #[.cell p 153]) {tmps:Array Value} (hp:tmps.getD p undef= .pointer (some ⟨B,0,none⟩)):
  (results fn tmps).run Tryz.prog W= .ok (.agg #[a,b,c]) W:=
 results_cell_row hr tmps W B t #[a,b,c] (0,0) _ hp h Tryz.underlying153 rfl zoV
theorem zri {b:Bool}{N:Nat}:decide (zOf b N<0)=(b&&decide (0<lenL N)):=by
 have:=@zbF N
 cases b
 ·rw[zbQ,Bool.false_and];exact decide_eq_false (by omega)
 ·rw[zce,Bool.true_and,decide_eq_decide];omega
theorem zrj {b:Bool}(h:Env w e W)(hn:x.n=lenL x.N):
  Calls Tryz.prog 121 #[.bool b,.slice x.A x.n x.c] W fun e' W'=>e'= .returned (.agg #[.bool (decide (zOf b x.N<0)),.slice x.A x.n x.c])/\Env w e W':=by
 have HZ:=zvY (@zri b x.N)
 rw[<-hn]at HZ
 clear hn
 have HE:=zvY h
 clear h
 go_enter Tryz.func121,Tryz.ntmps121
 cases b
 ·go_wp2
  refine bodyPost_ret (zbp (Box2.new _ _ _ _) rfl rfl) rfl ?_
  exact⟨by rw[HZ.out];rfl,HE.out.alloc _⟩
 ·go_wp2
  refine bodyPost_ret (zbp (Box2.new _ _ _ _) rfl rfl) rfl ?_
  exact⟨by rw[HZ.out];rfl,HE.out.alloc _⟩
def plZ (Z:Int):Nat:=if Z<0 then 0 else if Z=0 then 1 else 2
theorem zms (Z:Int):plZ Z<3:=by
 unfold plZ
 split
 ·decide
 ·split <;> decide
theorem zhS (Z:Int):((plZ Z:Nat):Int) - 1=Z.sign:=by
 unfold plZ
 rcases Int.lt_trichotomy Z 0 with h|h|h
 ·rw[if_pos h,Int.sign_eq_neg_one_of_neg h];rfl
 ·subst h;rfl
 ·rw[if_neg (by omega),if_neg (by omega),Int.sign_eq_one_of_pos h];rfl
theorem zmt {b:Bool}{N:Nat}(h:N=0):plZ (zOf b N)=1:=by subst h;cases b <;> rfl
theorem zoW {N:Nat}(h:N≠0):plZ (zOf true N)=0:=by unfold plZ;rw[zce,if_pos (by omega)]
theorem zoX {N:Nat}(h:N≠0):plZ (zOf false N)=2:=by unfold plZ;rw[zbQ,if_neg (by omega),if_neg (by omega)]
theorem zen {b:Bool}(W:World)(hx:Rd W W.heap.size x.A x.n x.N)(h2:x.n<=x.c)(h3:x.c<=maxLen)(h4:x.n<=35184372087808):
  Calls Tryz.prog 146 #[.agg #[.bool b,.slice x.A x.n x.c]] W fun e' W'=>e'= .returned (.agg #[.bool b,.slice x.A x.n x.c,.int .i64 (plZ (zOf b x.N):Nat)])/\Below W.heap.size W W':=by
 have hb:Below W.heap.size W ((W.alloc (.cells #[.bool b,.slice x.A x.n x.c] 25)).alloc (.cells #[.bool false,.slice none 0 0,.int .i64 0] 153)):=((Below.refl _ W).alloc zv0 _).alloc (by simp) _
 have EB:=zvY (zcF ((W.alloc (.cells #[.bool b,.slice x.A x.n x.c] 25)).alloc (.cells #[.bool false,.slice none 0 0,.int .i64 0] 153)) _ x.A x.n x.c x.N (hx.below hb) h2 h3 h4)
 have fin:∀v,Below W.heap.size W ((W.alloc (.cells #[.bool b,.slice x.A x.n x.c] 25)).alloc (.cells v 153)):=fun v=>((Below.refl _ W).alloc zv0 _).alloc (by simp) _
 have FN:=zvY fin
 clear fin hb hx h2 h3 h4
 by_cases h0:x.N=0
 ·have HP:=zvY (zmt (b:=b) h0)
  have hz:bitsN x.N=0:=by rw[h0];exact zlR
  rw[hz]at EB
  clear h0 hz
  go_enter Tryz.func146,Tryz.ntmps146
  go_wp2_with (go_at_call 119;refine EB.out.mono ?_;rintro e' w' ⟨rfl,rfl⟩)
  refine bodyPost_ret (zhR (World.alloc_heap_new' _ _) rfl (by rw[World.size_alloc];rfl)) rfl ?_
  exact⟨by rw[HP.out];rfl,FN.out _⟩
 ·have hz:bitsN x.N≠0:=by intro hh;have:=(zaH (N:=x.N) (k:=0)).1 (by omega);omega
  have hzd:((bitsN x.N:Int)==0)=false:=by simp[hz]
  cases b
  ·have HP:=zvY (zoX h0)
   clear h0 hz
   go_enter Tryz.func146,Tryz.ntmps146
   go_wp2_with (go_at_call 119;refine EB.out.mono ?_;rintro e' w' ⟨rfl,rfl⟩)
   refine bodyPost_ret (zhR (World.alloc_heap_new' _ _) rfl (by rw[World.size_alloc];rfl)) rfl ?_
   exact⟨by rw[HP.out];rfl,FN.out _⟩
  ·have HP:=zvY (zoW h0)
   clear h0 hz
   go_enter Tryz.func146,Tryz.ntmps146
   go_wp2_with (go_at_call 119;refine EB.out.mono ?_;rintro e' w' ⟨rfl,rfl⟩)
   refine bodyPost_ret (zhR (World.alloc_heap_new' _ _) rfl (by rw[World.size_alloc];rfl)) rfl ?_
   exact⟨by rw[HP.out];rfl,FN.out _⟩
theorem zrk {b:Bool}(h:Env w e W)(hx:x∈e):
  Calls Tryz.prog 146 #[.agg #[.bool b,.slice x.A x.n x.c]] W fun e' W'=>e'= .returned (.agg #[.bool b,.slice x.A x.n x.c,.int .i64 (plZ (zOf b x.N):Nat)])/\Env w e W':=by
 obtain⟨h1,h2,h3,h4⟩:=h.2 x hx
 exact(zen W h1 h2 h3 h4).mono fun _ _ ⟨he,hb⟩=>⟨he,h.step hb⟩
theorem znl {u v:Value}{Z:Int}(hs:Signs W):
  Calls Tryz.prog 147 #[.agg #[u,v,.int .i64 (plZ Z:Nat)]] W fun e' W'=>e'= .returned (.int .i64 Z.sign)/\Below W.heap.size W W':=by
 have hl:=zms Z
 have hc:=(hs.keep ((Below.refl _ W).alloc zv0 (.cells #[u,v,.int .i64 (plZ Z:Nat)] 153))) (plZ Z) hl
 rw[zhS]at hc
 have HB:=zvY ((Below.refl _ W).alloc zv0 (.cells #[u,v,.int .i64 (plZ Z:Nat)] 153))
 clear hs
 go_enter Tryz.func147,Tryz.ntmps147
 go_wp2
 go_ret
 exact⟨rfl,HB.out⟩
theorem zvu {u v:Value}{Z:Int}(hs:Signs W)(h:Env w e W):
  Calls Tryz.prog 147 #[.agg #[u,v,.int .i64 (plZ Z:Nat)]] W fun e' W'=>e'= .returned (.int .i64 Z.sign)/\Env w e W':=
 (znl hs).mono fun _ _ ⟨he,hb⟩=>⟨he,h.step hb⟩
end
def RepB3 (W0:World)(v:Value)(V:World):Prop:=∃g,v= .pointer (some ⟨g,0,none⟩)/\W0.heap.size<=g/\Box3 V g 153 (.bool false) (.slice none 0 0) (.int .i64 0)
theorem RepB3.keep {W0:World}{v:Value}{V V':World}(h:RepB3 W0 v V)(hb:Below V.heap.size V V'):RepB3 W0 v V':=by
 obtain⟨g,h1,h2,h3⟩:=h
 exact⟨g,h1,h2,h3.below hb h3.lt⟩
section
variable {ops:Array Oper}{Q:Exit -> Act -> World -> Prop}{C:World -> Prop}{a:Act}{V:World}{i:Nat}{t:Tmp}{o:Oper}{F:Value -> World -> Prop}
theorem ziU {W0:World}(ho:ops[i]?=some o)(hd:o.dst=some t)(hw:Region.wanted o (yielded ops a.tmps)=true)(hop:o.op= .alloc 153) (hW:W0.heap.size<=V.heap.size) (hC:∀V',Below V.heap.size V V'->C V') (hF:∀v V',RepB3 W0 v V'->v= .pointer (some ⟨V.heap.size,0,none⟩)->F v V'):
  wpOp Tryz.prog ops Q i (fun a' w'=>∃v,a'=a.put (some t) v/\F v w'/\Below V.heap.size V w'/\C w') a V:=by
 have hb:Below V.heap.size V (V.alloc (.cells #[.bool false,.slice none 0 0,.int .i64 0] 153)):=zv1.alloc zv0 _
 refine zeR (v:= .pointer (some ⟨V.heap.size,0,none⟩)) (w':=V.alloc (.cells #[.bool false,.slice none 0 0,.int .i64 0] 153)) ho hd hw ?_ hb (hC _ hb) (hF _ _ ⟨_,rfl,hW,Box3.new _ _ _ _ _⟩ rfl)
 obtain⟨dst,op,ty,pos,after,guard⟩:=o
 simp only at hop
 subst hop
 go_simp
end
theorem Rd.sbox3 {W:World}{hi n N g k:Nat}{A:Option Addr}{a b c u:Value}{T:TypeId}(h:Rd W hi A n N)(B:Box3 W g T a b c)(ha:∀z:Int,a≠ .int .u32 z)(hb:∀z:Int,b≠ .int .u32 z)(hc:∀z:Int,c≠ .int .u32 z)(hk:k=0\/k=1\/k=2):Rd (W.setCell ⟨g,k,none⟩ u) hi A n N:=
 ⟨h.1,fun hn=>by
  obtain⟨ad,e,hbk,hcl⟩:=h.2 hn
  refine⟨ad,e,hbk,fun j hj=>?_⟩
  rw[World.cell?_setCell_other _ _ _ _ (fun e2=>?_)]
  ·exact hcl j hj
  ·have h1:=hcl j hj
   obtain⟨c1,c2,c3,-⟩:=B.cells
   rw[<-e2]at h1
   rcases hk with rfl|rfl|rfl
   ·rw[c1]at h1;injection h1 with h1;exact ha _ h1
   ·rw[c2]at h1;injection h1 with h1;exact hb _ h1
   ·rw[c3]at h1;injection h1 with h1;exact hc _ h1⟩
theorem Box3.step {V:World}{B:Nat}{t:TypeId}(i:Nat)(cs:Array Value)(u:Value)(h:V.heap[B]?=some (.cells cs t (0,0))):(V.setCell ⟨B,i,none⟩ u).heap[B]?=some (.cells (cs.setIfInBounds i u) t (0,0)):=by
 obtain⟨hlt,hk⟩:=Array.getElem?_eq_some_iff.1 h
 show(V.heap.modify B _)[B]?=_
 rw[Array.getElem?_eq_getElem (by rw[Array.size_modify];exact hlt),Array.getElem_modify_self,hk]
 rfl
theorem Num.ok.box3 {W:World}{g n c:Nat}{r:Num}{b b':Bool}{A:Option Addr}{k k':Int}{u:Value}{T:TypeId}(h:r.ok W W.heap.size)(B:Box3 W g T (.bool b) (.slice A n c) (.int .i64 k))(hu:∀z:Int,u≠ .int .u32 z):
  r.ok (((W.setCell ⟨g,0,none⟩ (.bool b')).setCell ⟨g,1,none⟩ u).setCell ⟨g,2,none⟩ (.int .i64 k')) (((W.setCell ⟨g,0,none⟩ (.bool b')).setCell ⟨g,1,none⟩ u).setCell ⟨g,2,none⟩ (.int .i64 k')).heap.size:=by
 have h1:=h.1.sbox3 (u:= .bool b') B (by intro z e;cases e) (by intro z e;cases e) (by intro z e;cases e) (.inl rfl)
 have B1:Box3 (W.setCell ⟨g,0,none⟩ (.bool b')) g T (.bool b') (.slice A n c) (.int .i64 k):=Box3.step 0 _ _ B
 have h2:=h1.sbox3 (u:=u) B1 (by intro z e;cases e) (by intro z e;cases e) (by intro z e;cases e) (.inr (.inl rfl))
 have B2:Box3 ((W.setCell ⟨g,0,none⟩ (.bool b')).setCell ⟨g,1,none⟩ u) g T (.bool b') u (.int .i64 k):=Box3.step 1 _ _ B1
 have h3:=h2.sbox3 (u:= .int .i64 k') B2 (by intro z e;cases e) hu (by intro z e;cases e) (.inr (.inr rfl))
 exact⟨by rw[World.size_setCell,World.size_setCell,World.size_setCell];exact h3,h.2⟩
theorem Box3.other {W:World}{B g:Nat}{t:TypeId}{a b c:Value}(h:Box3 W B t a b c)(hne:B≠g)(u v z:Value):Box3 (((W.setCell ⟨g,0,none⟩ u).setCell ⟨g,1,none⟩ v).setCell ⟨g,2,none⟩ z) B t a b c:=
 ((h.kept (zbA W g 0 u) (by intro e;injection e with e;exact hne e)).kept (zbA _ g 1 v) (by intro e;injection e with e;exact hne e)).kept (zbA _ g 2 z) (by intro e;injection e with e;exact hne e)
theorem zvv {W1 V:World}{e:List Num}{g g':Nat}{b b':Bool}{x y:Num}{k k':Int}{T:TypeId}(HE:Env W1 e W1)(hC:Below W1.heap.size W1 V)(B:Box3 V g T (.bool false) (.slice none 0 0) (.int .i64 0))(B':Box3 V g' T (.bool false) (.slice none 0 0) (.int .i64 0))(hne:g≠g')(hg:W1.heap.size<=g)(hg':W1.heap.size<=g'):
  ∃W4,(((((V.setCell ⟨g,0,none⟩ (.bool b)).setCell ⟨g,1,none⟩ (.slice x.A x.n x.c)).setCell ⟨g,2,none⟩ (.int .i64 k)).setCell ⟨g',0,none⟩ (.bool b')).setCell ⟨g',1,none⟩ (.slice y.A y.n y.c)).setCell ⟨g',2,none⟩ (.int .i64 k')=W4/\
   Env W1 e W4/\Box3 W4 g T (.bool b) (.slice x.A x.n x.c) (.int .i64 k)/\Box3 W4 g' T (.bool b') (.slice y.A y.n y.c) (.int .i64 k'):=by
 have BB:=B'.other (Ne.symm hne) (.bool b) (.slice x.A x.n x.c) (.int .i64 k)
 refine⟨_,rfl,⟨?_,fun z hz=>?_⟩,?_,BB.set _ _ _⟩
 ·exact(((((hC.setCell (p:=⟨g,0,none⟩) hg _).setCell (p:=⟨g,1,none⟩) hg _).setCell (p:=⟨g,2,none⟩) hg _).setCell (p:=⟨g',0,none⟩) hg' _).setCell (p:=⟨g',1,none⟩) hg' _).setCell (p:=⟨g',2,none⟩) hg' _
 ·exact((((HE.2 z hz).later hC).box3 (b':=b) (k':=k) (u:= .slice x.A x.n x.c) B (by intro z e;cases e)).box3 (b':=b') (k':=k') (u:= .slice y.A y.n y.c) BB (by intro z e;cases e))
 ·exact(B.set _ _ _).other hne _ _ _
end Go.Proofs.YtipckjmgdghkiaaGreatDoor
