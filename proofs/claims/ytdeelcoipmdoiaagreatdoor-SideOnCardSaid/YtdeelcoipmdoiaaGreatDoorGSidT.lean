/- A part. -/
import Derived.Laws.MakeOwn
import Derived.Test.YtdeelcoipmdoiaaGreatDoorGSidA
set_option maxHeartbeats 4000000
set_option maxRecDepth 100000
namespace Go.Proofs.YtdeelcoipmdoiaaGreatDoor
open Go Go.RowKit
section
variable {P:Program}{ops:Array Oper}{Q:Exit → Act → World → Prop}{kk n:Nat}{ls ls':List (Tmp × Value)}{D:List Deferred}{a:Act}{V V':World}{o:Oper}{rest:List Oper}{t t1 t2:Tmp}{v v1:Value}
theorem zdE {id lp:Nat}{l:List Oper}{w0:World}{a0:Act}(n:Nat)(dst:List Tmp)(fact:Nat→Value→World→Prop)(C:World→Prop)(hm:P.follows .mixedOrders=true)(hnd:l.toArray.all zbq=true)(hB:zct .any l.toArray n=true)(hdl:dst.length=n)(hnd2:dst.Nodup)(hds:∀t∈dst,t<a0.tmps.size)(hC:C w0.drew)
  (hmono:∀i v w w',fact i v w→Below w.heap.size w w'→C w'→fact i v w')
  (hstep:∀i t,dst[i]?=some t→∀a w,C w→FrameOf dst a0 a→(∀j t',dst[j]?=some t'→Region.waitsFor .any l.toArray i j=true→fact j (a.tmps.getD t' undef) w)→
   wpOpIn Fence.wide kk P l.toArray Q i (fun a' w'=>∃v,a'=a.put (some t) v∧fact i v w'∧Below w.heap.size w w'∧C w') a w)
  (hfin:∀a w,C w→FrameOf dst a0 a→(∀j t',dst[j]?=some t'→fact j (a.tmps.getD t' undef) w)→wpListIn Fence.wide kk P l.toArray Q (l.drop n) a w):
  (Code.region id l.toArray true).wpIn (Fence.wide.inRound lp) kk P Q a0 w0:=by
 refine zbY hm hnd ?_
 have hn:n≤l.toArray.size:=by simp only[zct,Bool.and_eq_true,decide_eq_true_eq]at hB;exact hB.1.1.1
 have hu:∀k,k≤l.toArray.size→unl (Array.replicate l.toArray.size false) k=k:=zgm _
 have H:=zeK (P:=P) (Q:=Q) (C:=C) (fact:=fact) (fresh:=fun _ _ _=>True) (rel:=fun _ _ _ _=>True) (a0:=a0) hB hdl hnd2 hds hmono (fun _ _ _ _ _ _ _=>trivial)
  (fun i t ht a w h1 h2 h3=>wpOpIn_mono (fun _ _ ⟨v,e1,e2,e3,e4⟩=>⟨v,e1,⟨e2,trivial⟩,e3,e4⟩) (hstep i t ht a w h1 h2 h3))
  (fun a w h1 h2 h3 _=>by simpa using hfin a w h1 h2 h3) n (Array.replicate l.toArray.size false) a0 w0.drew
  ⟨by simp,fun j oj _ hl=>(by rw[getD_replicate_false]at hl;cases hl),fun t _ ht=>getD_in (by simpa using ht) (getD_replicate_false _ _)⟩ (hu n hn) hC ⟨rfl,rfl,fun _ _=>rfl⟩ (fun j t' _ hl=>(by rw[getD_replicate_false]at hl;cases hl)) (fun i j t t' _ _ _ hl=>(by rw[getD_replicate_false]at hl;cases hl))
 rwa [show n+(l.toArray.size - n)=l.toArray.size by omega]at H
theorem zf2 {x y:Code}(h:∀K:Act→World→Prop,(∀a w,y.wpIn Fence.wide kk P Q a w→K a w)→x.wp P (Exit.then K Q) a V):(x.seq y).wpIn Fence.wide kk P Q a V:=
 wpIn_seq (wpIn_wide.2 (h _ (fun _ _ h=>h)))
theorem Jf.frm {e:List Num}(S:Jf n ls [] a)(he:∀z∈e,z.ok V V.heap.size):Frm n ls [] V e a V:=⟨S.size,S.defers,S.slots,⟨fun _ h=>(by cases h),List.Pairwise.nil⟩,Env.start he⟩
theorem Frm.jf {lb:List Bx}{w:World}{e:List Num}(S:Frm n ls lb w e a V):Jf n ls [] a:=⟨S.size,S.defers,S.slots⟩
end
section
variable {a:Act}{V:World}{o:Oper}{X Y:Operand}{k m:Nat}
theorem zlU (hm:0<m)(ho:o.op= .binOp .rem 3 X Y 3) (h:a.eval X= .int .i64 (k:Nat)) (h':a.eval Y= .int .i64 (m:Nat)) (hk:k<9223372036854775808):(execOp a.eval o).run Tryz.prog V= .ok (.value (.int .i64 ((k%m:Nat):Int))) V:=by
 obtain⟨q,e⟩:∃q,k%m=q:=⟨_,rfl⟩
 have hlt:k%m≤k:=Nat.mod_le k m
 have e4:(k:Int).tmod (m:Int)=(q:Int):=by rw[←e];rfl
 have h0: ¬((m:Nat):Int)=0:=by omega
 have h0': ¬m=0:=by omega
 have hw:IntKind.i64.wrap (q:Int)=(q:Int):=zgi ⟨by omega,by omega⟩
 rw[e]
 clear e
 obtain⟨dst,op,ty,pos,after,guard⟩:=o
 simp only at ho
 subst ho
 unfold execOp;simp only[h,h'];go_simp
theorem zqT (hle:m≤k)(ho:o.op= .binOp .sub 3 X Y 3) (h:a.eval X= .int .i64 (k:Nat)) (h':a.eval Y= .int .i64 (m:Nat)) (hi:k<9223372036854775808):(execOp a.eval o).run Tryz.prog V= .ok (.value (.int .i64 ((k - m:Nat):Int))) V:=by
 have:=zr1 (V:=V) ho h h' ⟨by omega,by omega⟩
 rwa [show((k:Nat):Int) - (m:Nat)=((k - m:Nat):Int) by omega]at this
end
def zhm (L:List Int):List Value:=L.map fun z=> .int .i64 z
def IRow (L:List Int)(v:Value)(V:World):Prop:=∃(A:Option Addr) (c:Nat),v= .slice A L.length c∧L.length≤1000∧∀k (h:k<L.length),∃ad:Addr,A=some ad∧ad.block<V.heap.size∧V.cell? (ad.add k)=some (.int .i64 L[k])
section
variable {L:List Int}{v:Value}{V V' W:World}{base g:Nat}{z:Int}
theorem IRow.keep (h:IRow L v V)(hb:Below V.heap.size V V'):IRow L v V':=by
 obtain⟨A,c,h1,h2,h3⟩:=h
 refine⟨A,c,h1,h2,fun k hk=>?_⟩
 obtain⟨ad,e,h4,h5⟩:=h3 k hk
 exact⟨ad,e,ztN h4 hb.size,(hb.cell (by rw[zaO];exact h4)).trans h5⟩
instance:Keeps (IRow L):=⟨fun h hb=>IRow.keep h hb⟩
theorem zj1:(Tryz.prog.info? 3).map (fun i=>(i.zero,i.size,i.bytes))=some (some (.int .i64 0),1,8):=by kernel_rfl
theorem zpB (h:W.ownsRow base 3 1 v L.length (zhm L)) (hL:L.length≤1000):IRow L v W:=by
 rcases h.2 with⟨rfl,h0⟩|⟨g,cap,cur,rfl,_,hgg,_⟩
 ·exact⟨none,0,by rw[h0],hL,fun k hk=>by omega⟩
 ·refine⟨some ⟨g,0,none⟩,cap,rfl,hL,fun k hk=>⟨_,rfl,(Array.getElem?_eq_some_iff.1 hgg).1,?_⟩⟩
  have:=h.cellAt k (by omega)
  rw[zaS,this]
  simp[zhm,hk]
def IL1 (z:Int)(v:Value)(V:World):Prop:=∃g,v= .slice (some ⟨g,0,none⟩) 1 1∧V.heap[g]?=some (.cells #[.int .i64 z] 3 (0,0))
theorem IL1.keep (h:IL1 z v V)(hb:Below V.heap.size V V'):IL1 z v V':=by
 obtain⟨g,h1,h2⟩:=h
 exact⟨g,h1,(hb.block g (Array.getElem?_eq_some_iff.1 h2).1).trans h2⟩
instance:Keeps (IL1 z):=⟨fun h hb=>IL1.keep h hb⟩
theorem zqU {a:Act}{o:Oper}{t1:Tmp}(hop:o.op= .buildSlice 36 1 #[(0,.tmp t1)]) (h1:a.tmps.getD t1 undef= .int .i64 z):zeX o a V (IL1 z):=by
 refine⟨.slice (some ⟨V.heap.size,0,none⟩) 1 1,V.alloc (.cells #[.int .i64 z] 3),?_,⟨V.heap.size,rfl,World.alloc_heap_new' V _⟩,ztL.alloc ztK _⟩
 rw[zaf]at h1
 obtain⟨dst,op,ty,pos,after,guard⟩:=o
 simp only at hop
 subst hop
 go_simp
theorem zqV (h:W.ownsRow base 3 1 v L.length (zhm L)) (hb:base≤W.heap.size) (hL:L.length≤1000) (hg:W.heap[g]?=some (.cells #[.int .i64 z] 3 (0,0))) (ty:TypeId):
  ∃v' W',(Builtin.append_ #[36,36] ty #[v,.slice (some ⟨g,0,none⟩) 1 1]).run Tryz.prog W= .ok v' W'∧W'.ownsRow base 3 1 v' (L++[z]).length (zhm (L++[z]))∧W.grownBy W' v.ownBlock∧Below base W W':=by
 obtain⟨i0,hi,hz0,hz1,hz2⟩:=info_parts zj1
 obtain⟨v',W',h1,h2,h3,-,h4⟩:=run_append_own_at (P:=Tryz.prog) (w:=W) base 36 ty 3 i0 (.int .i64 0) 1 8 Tryz.underlying36 hi hz0 hz1 hz2 rfl (by decide) v L.length (zhm L) h
  ⟨g,0,none⟩ 1 1 [.int .i64 z] rfl (by
   intro j u hj
   match j,hj with
   |0,hj=>rw[zaS,cell_of_row W g 0 _ _ (0,0) hg];exact hj) (by simp[Value.oneCell']) (by simp only[maxLen];omega) (by omega) hb
 refine⟨v',W',h1,?_,h3,?_⟩
 ·rw[List.length_append,show zhm (L++[z])=zhm L++[.int .i64 z] by simp[zhm]]
  exact h2
 ·refine(Below.refl base W).grown h3 hb (fun r e=>?_)
  exact(h.lt r e).1
theorem zlV {a:Act}{o:Oper}{t1:Tmp}{X:Operand}{A:Option Addr}{c n k:Nat}{ad:Addr}(hA:A=some ad)(hk:k<n)(ho:o.op= .indexAddr 36 (.tmp t1) X) (h1:a.tmps.getD t1 undef= .slice A n c) (h2:a.eval X= .int .i64 (k:Nat)):
  (execOp a.eval o).run Tryz.prog V= .ok (.value (.pointer (some (ad.add k)))) V:=by
 subst hA
 rw[zaf]at h1
 obtain⟨dst,op,ty,pos,after,guard⟩:=o
 simp only at ho
 subst ho
 have h3:(k:Int)<(n:Int):=by omega
 unfold execOp;simp only[h2];go_simp
theorem zqW {a:Act}{o:Oper}{t1:Tmp}{A:Option Addr}{n c:Nat}(ho:o.op= .call { callee:= .builtin .len,args:= #[.tmp t1],argTypes:= #[36] }) (h:a.tmps.getD t1 undef= .slice A n c):(execOp a.eval o).run Tryz.prog V= .ok (.value (.int .i64 ((n:Nat):Int))) V:=by
 rw[zaf]at h
 obtain⟨dst,op,ty,pos,after,guard⟩:=o
 simp only at ho
 subst ho
 go_simp
theorem znn {a:Act}{o:Oper}{s x:Tmp}{ts:Array TypeId}{v u v':Value}(hop:o.op=Op.call { callee:=Callee.builtin Builtin.append,args:= #[.tmp s,.tmp x],argTypes:=ts })(hs:a.tmps.getD s undef=v)(hx:a.tmps.getD x undef=u)
  (hrun:(Builtin.append_ ts o.type #[v,u]).run Tryz.prog W= .ok v' V):(execOp a.eval o).run Tryz.prog W= .ok (.value v') V:=by
 rw[zaf]at hs hx
 have hs':a.eval (.tmp s)=v:=by simpa[Act.eval]using hs
 have hx':a.eval (.tmp x)=u:=by simpa[Act.eval]using hx
 simp[execOp,hop,resolve,invoke,builtin,hs',hx',hrun,Result.andThen]
end
abbrev Cor:=PEl×PEl×PEl
def zbG (x:Cor):List Value:=zbx x.1++zbx x.2.1++zbx x.2.2
def el (l:List PEl)(i:Nat):PEl:=l.getD i z6
theorem zfJ {l:List PEl}{i:Nat}(h:i<l.length):el l i=l[i]:=by unfold el;rw[List.getD_eq_getElem?_getD,List.getElem?_eq_getElem h];rfl
def zdc (l:List PEl)(k:Nat):Cor:=(el l (((k+l.length) - 1)%l.length),el l k,el l ((k+1)%l.length))
def zfK (l:List PEl):Nat:=if l.length<3 then 0 else l.length
theorem zj2 (A:Option Addr)(n c:Nat)(V:World):Calls Tryz.prog 42 #[.slice A n c] V (zam V fun v V'=>v= .func (.func 70) #[] #[.pointer (some ⟨V.heap.size,0,none⟩)]∧V'.heap[V.heap.size]?=some (.cells #[.slice A n c] 30 (0,0))):=by
 go_enter Tryz.func42,Tryz.ntmps42
 go_wp2
 go_ret
 exact⟨_,rfl,⟨rfl,World.alloc_heap_new' V _⟩,ztL.alloc ztK _⟩
theorem zk8 {a:Act}{V:World}{o:Oper}{t1 t2 t3:Tmp}{x y z:PEl}(ho:o.op= .build 62 #[(0,.tmp t1),(1,.tmp t2),(2,.tmp t3)]) (h1:a.tmps.getD t1 undef= .agg (zbx x).toArray) (h2:a.tmps.getD t2 undef= .agg (zbx y).toArray) (h3:a.tmps.getD t3 undef= .agg (zbx z).toArray):
  (execOp a.eval o).run Tryz.prog V= .ok (.value (.agg (zbG (x,y,z)).toArray)) V:=by
 rw[zaf]at h1 h2 h3
 obtain⟨dst,op,ty,pos,after,guard⟩:=o
 simp only at ho
 subst ho
 simp only[zbG,zbx,List.cons_append,List.nil_append]at*
 go_simp
def zsv (bl:Nat)(A:Option Addr)(c:Nat)(l:List PEl)(W:World):Prop:=W.heap[bl]?=some (.cells #[.slice A l.length c] 30 (0,0))∧PRds W W.heap.size A l
theorem zgY {bl:Nat}{A:Option Addr}{c:Nat}{l:List PEl}(hl:l.length≤1000)(I:Nat→World→Prop)(hI:∀s W,I s W→zsv bl A c l W):
  zeH Fence.wide 9 Tryz.prog 70 #[.pointer (some ⟨bl,0,none⟩)] (fun x:Cor=> #[.agg (zbG x).toArray])
   (fun s x=>s<zfK l∧x=zdc l s) (fun s _=>s+1) 0 (fun s=>s=zfK l) (fun _=>True) I:=by
 intro lp J Jx W hJI hJ hJx hY h0
 have G:∀ {s V V'},J s V→Below V.heap.size V V'→J s V':=fun h hb=>hJ _ _ _ h (zbN hb none)
 have SR:∀ {s V},J s V→zsv bl A c l V:=fun h=>hI _ _ (hJI _ _ h)
 refine callsIn_of_wp Tryz.func70 rfl trivial ?_ rfl
 have S:=zd9 (n:=44) #[.func (.yield lp) #[] #[],.pointer (some ⟨bl,0,none⟩)] (ztJ rfl)
 obtain⟨hb0,hR0⟩:=SR h0
 refine wpIn_seq (wpIn_seq (wpIn_region_lit ?_))
 refine zar (fun _=>trivial) S (v:= .slice A l.length c) (zat rfl (S.at 1 rfl) hb0 (Tryz.isAgg30 _) rfl) rfl rfl rfl (by decide) rfl (fun a S=>?_)
 refine zar (fun _=>trivial) S (zcj rfl (S.at 0 rfl)) rfl rfl rfl (by decide) rfl (fun a S=>?_)
 refine zar (fun _=>trivial) S (zdr rfl (S.at 0 rfl) rfl) rfl rfl rfl (by decide) rfl (fun a S=>?_)
 refine wpIn_cond (t:=decide (((l.length:Nat):Int)<3)) (S.at 0 rfl) ?_
 by_cases h3:l.length<3
 ·rw[if_pos (decide_eq_true (by omega))]
  refine wpIn_ret ?_
  simp only[Exit.then]
  exact bodyPost_ret (results_none rfl _ _ _) S.defers ⟨⟨_,rfl⟩,.inl ⟨0,by unfold zfK;rw[if_pos h3],h0⟩⟩
 ·rw[if_neg (by rw[decide_eq_true_eq];omega)]
  refine wpIn_skip ?_
  have hcn:zfK l=l.length:=by unfold zfK;rw[if_neg h3]
  replace S:=S.keep [1,0] rfl
  refine wpIn_seq (wpIn_region_lit ?_)
  refine zar (fun _=>trivial) S (v:= .slice A l.length c) (zat rfl (S.get rfl) hb0 (Tryz.isAgg30 _) rfl) rfl rfl rfl (by decide) rfl (fun a S=>?_)
  refine zar (fun _=>trivial) S (zcj rfl (S.get rfl)) rfl rfl rfl (by decide) rfl (fun a S=>?_)
  refine zar (fun _=>trivial) S (zjH rfl) rfl rfl rfl (by decide) rfl (fun a S=>?_)
  refine wpIn_block (wpIn_loop (fun aI VI=>∃k:Nat,k≤l.length∧Jf 44 [(12,.int .i64 ((k:Nat):Int)),(11,.int .i64 ((l.length:Nat):Int)),(10,.slice A l.length c),(0,.func (.yield lp) #[] #[]),(1,.pointer (some ⟨bl,0,none⟩))] [] aI∧J k VI) (fun aI _=>l.length - zeM 12 aI)
   ⟨0,Nat.zero_le _,S.keep [12,11,10,1,0] rfl,h0⟩ ?_)
  clear S h0 hb0 hR0 a
  rintro a V ⟨k,hk,S,hs⟩
  have hsl:=zer (S.at 0 rfl)
  generalize zeM 12 a=mu at hsl ⊢
  obtain⟨hbl0,hR⟩:=SR hs
  refine wpIn_seq (wpIn_region_lit ?_)
  refine zar (fun _=>trivial) S (zdr rfl (S.at 0 rfl) (S.at 1 rfl)) rfl rfl rfl (by decide) rfl (fun a S=>?_)
  refine wpIn_seq (wpIn_cond (t:=decide (((k:Nat):Int)<((l.length:Nat):Int))) (S.at 0 rfl) ?_)
  replace S:=S.keep [12,11,10,1,0] rfl
  by_cases hlt:k<l.length
  ·rw[if_pos (decide_eq_true (by omega))]
   refine wpIn_skip ?_
   refine wpIn_seq (wpIn_block ?_)
   have hl1:((k+l.length) - 1)%l.length<l.length:=Nat.mod_lt _ (by omega)
   have hl3:(k+1)%l.length<l.length:=Nat.mod_lt _ (by omega)
   have hl2:=hlt
   obtain⟨b1,x1,y1,d1,z1,w1,hel1⟩:∃b x y b' x' y',l[((k+l.length) - 1)%l.length]=(b,x,y,b',x',y'):=⟨_,_,_,_,_,_,rfl⟩
   obtain⟨b2,x2,y2,d2,z2,w2,hel2⟩:∃b x y b' x' y',l[k]=(b,x,y,b',x',y'):=⟨_,_,_,_,_,_,rfl⟩
   obtain⟨b3,x3,y3,d3,z3,w3,hel3⟩:∃b x y b' x' y',l[(k+1)%l.length]=(b,x,y,b',x',y'):=⟨_,_,_,_,_,_,rfl⟩
   have hbl:∀ {V'},Below V.heap.size V V'→V'.heap[bl]?=some (.cells #[.slice A l.length c] 30 (0,0)):=fun hb=>(hb.block bl (Array.getElem?_eq_some_iff.1 hbl0).1).trans hbl0
   obtain⟨⟨oa1,ob1⟩,oc1,od1⟩:=hR.oks hl1 hel1
   obtain⟨⟨oa2,ob2⟩,oc2,od2⟩:=hR.oks hl2 hel2
   obtain⟨⟨oa3,ob3⟩,oc3,od3⟩:=hR.oks hl3 hel3
   replace S:=S.frm (V:=V) (e:=[x3,y3,z3,w3,x2,y2,z2,w2,x1,y1,z1,w1]) (by simp[*])
   refine zf2 fun K3 hK3=>?_
   refine zac ?_
   refine tv S (zab rfl (S.at 0 rfl)) fun a S=>?_
   refine tv S (zcI (hR.el hl2 hel2).s hl2 rfl (S.at 3 rfl) (S.at 1 rfl)) fun a S=>?_
   refine tv S (zlh ((hR.below S.below).el hl2 hel2) rfl (S.at 0 rfl)) fun a S=>?_
   refine ti S (cs:=[.bool false,.slice none 0 0,.slice none 0 0,.bool false,.slice none 0 0,.slice none 0 0]) (zaz rfl (Tryz.zeroValue29 _) rfl) (fun g1=>[⟨g1,29,[.bool false,.slice none 0 0,.slice none 0 0,.bool false,.slice none 0 0,.slice none 0 0]⟩]) fun g1 a V1 hgg1 S=>?_
   refine tv S (zak rfl (S.at 3 rfl)) fun a S=>?_
   refine zaA S (i:=0) (vs:=[.bool b2,.slice x2.A x2.n x2.c,.slice y2.A y2.n y2.c,.bool d2,.slice z2.A z2.n z2.c,.slice w2.A w2.n w2.c]) rfl (fun ht=>zav rfl (S.at 1 rfl) (S.at 2 rfl) zaY rfl (ztJ rfl) ht) (ztJ rfl) rfl rfl rfl (lb':=[⟨g1,29,[.bool b2,.slice x2.A x2.n x2.c,.slice y2.A y2.n y2.c,.bool d2,.slice z2.A z2.n z2.c,.slice w2.A w2.n w2.c]⟩]) rfl (fun V2 S=>?_)
   refine hK3 _ _ ?_
   refine zf2 fun K4 hK4=>?_
   obtain⟨W1,hW1⟩:∃W,W=V2:=⟨_,rfl⟩
   rw[←hW1]at S ⊢
   have S0:=S
   refine frs [(29,6)] [some 17,some 18,some 19,some 20,some 21,some 22,some 23,some 24,some 25,some 26,some 27,some 28,some 29,some 30,some 31,some 32,some 33,some 34,some 35,some 5,some 6,none,none] [IsV (.slice A l.length c),IsV (.int .i64 (((k:Nat):Int))),IsV (.slice A l.length c),IsV (.int .i64 (((l.length:Nat):Int))),IsV (.int .i64 (((k+l.length:Nat):Int))),IsV (.int .i64 ((((k+l.length) - 1:Nat):Int))),IsV (.slice A l.length c),IsV (.int .i64 (((l.length:Nat):Int))),IsV (.int .i64 (((((k+l.length) - 1)%l.length:Nat):Int))),IsV (.pointer (some (zbh A ((((k+l.length) - 1)%l.length)*6)))),IsV (.agg #[.bool b1,.slice x1.A x1.n x1.c,.slice y1.A y1.n y1.c,.bool d1,.slice z1.A z1.n z1.c,.slice w1.A w1.n w1.c]),IsV (.slice A l.length c),IsV (.int .i64 (((k:Nat):Int))),IsV (.int .i64 (((k+1:Nat):Int))),IsV (.slice A l.length c),IsV (.int .i64 (((l.length:Nat):Int))),IsV (.int .i64 ((((k+1)%l.length:Nat):Int))),IsV (.pointer (some (zbh A (((k+1)%l.length)*6)))),IsV (.agg #[.bool b3,.slice x3.A x3.n x3.c,.slice y3.A y3.n y3.c,.bool d3,.slice z3.A z3.n z3.c,.slice w3.A w3.n w3.c]),ziE,ziE,ziE,ziE] [⟨19,5,29,[.bool false,.slice none 0 0,.slice none 0 0,.bool false,.slice none 0 0,.slice none 0 0]⟩,⟨20,6,29,[.bool false,.slice none 0 0,.slice none 0 0,.bool false,.slice none 0 0,.slice none 0 0]⟩] [⟨21,5,29,IsV (.agg #[.bool b1,.slice x1.A x1.n x1.c,.slice y1.A y1.n y1.c,.bool d1,.slice z1.A z1.n z1.c,.slice w1.A w1.n w1.c])⟩,⟨22,6,29,IsV (.agg #[.bool b3,.slice x3.A x3.n x3.c,.slice y3.A y3.n y3.c,.bool d3,.slice z3.A z3.n z3.c,.slice w3.A w3.n w3.c])⟩] [] (lb:=[⟨g1,29,[.bool b2,.slice x2.A x2.n x2.c,.slice y2.A y2.n y2.c,.bool d2,.slice z2.A z2.n z2.c,.slice w2.A w2.n w2.c]⟩]) S (all_cons (zkY 0 rfl rfl) (all_cons (zkY 1 rfl rfl) za9)) ?_ (all_cons ⟨rfl,_,rfl,rfl,rfl,fun _ _ _=>(zaz rfl (Tryz.zeroValue29 _) rfl)⟩ (all_cons ⟨rfl,_,rfl,rfl,rfl,fun _ _ _=>(zaz rfl (Tryz.zeroValue29 _) rfl)⟩ za9)) (all_cons ⟨_,6,rfl,rfl,rfl,List.mem_of_getElem? (i:=0) rfl,(all_cons (fun h=>⟨rfl,rfl⟩) (all_cons (fun h=>by cases h) za9)),za9,fun _ _ _ _ hg hd=>ziw (F:=IsV (.agg #[.bool b1,.slice x1.A x1.n x1.c,.slice y1.A y1.n y1.c,.bool d1,.slice z1.A z1.n z1.c,.slice w1.A w1.n w1.c])) rfl ⟨[.bool b1,.slice x1.A x1.n x1.c,.slice y1.A y1.n y1.c,.bool d1,.slice z1.A z1.n z1.c,.slice w1.A w1.n w1.c],rfl,rfl,rfl,rfl⟩ rfl hg (hd.v 10 rfl rfl) zaY⟩ (all_cons ⟨_,6,rfl,rfl,rfl,List.mem_of_getElem? (i:=0) rfl,(all_cons (fun h=>by cases h) (all_cons (fun h=>⟨rfl,rfl⟩) za9)),za9,fun _ _ _ _ hg hd=>ziw (F:=IsV (.agg #[.bool b3,.slice x3.A x3.n x3.c,.slice y3.A y3.n y3.c,.bool d3,.slice z3.A z3.n z3.c,.slice w3.A w3.n w3.c])) rfl ⟨[.bool b3,.slice x3.A x3.n x3.c,.slice y3.A y3.n y3.c,.bool d3,.slice z3.A z3.n z3.c,.slice w3.A w3.n w3.c],rfl,rfl,rfl,rfl⟩ rfl hg (hd.v 18 rfl rfl) zaY⟩ za9)) za9 ?_
   ·refine va (fun _ _ S _ _ _=>sv rfl (zat rfl (S.at 9 rfl) (hbl S.below) (Tryz.isAgg30 _) rfl)) ?_
    refine va (fun _ _ S _ _ _=>sv rfl (zab rfl (S.at 0 rfl))) ?_
    refine va (fun _ _ S _ _ _=>sv rfl (zat rfl (S.at 9 rfl) (hbl S.below) (Tryz.isAgg30 _) rfl)) ?_
    refine va (fun _ _ _ _ hd _=>sv rfl (zcj rfl (hd.v 2 rfl rfl))) ?_
    refine va (fun _ _ _ _ hd _=>sv rfl (zch (k:=k) (m:=l.length) rfl (hd.v 1 rfl rfl) (hd.v 3 rfl rfl) (by omega))) ?_
    refine va (fun _ _ _ _ hd _=>sv rfl (zqT (k:=k+l.length) (m:=1) (by omega) rfl (hd.v 4 rfl rfl) rfl (by omega))) ?_
    refine va (fun _ _ S _ _ _=>sv rfl (zat rfl (S.at 9 rfl) (hbl S.below) (Tryz.isAgg30 _) rfl)) ?_
    refine va (fun _ _ _ _ hd _=>sv rfl (zcj rfl (hd.v 6 rfl rfl))) ?_
    refine va (fun _ _ _ _ hd _=>sv rfl (zlU (k:=(k+l.length) - 1) (m:=l.length) (by omega) rfl (hd.v 5 rfl rfl) (hd.v 7 rfl rfl) (by omega))) ?_
    refine va (fun _ _ _ _ hd _=>sv rfl (zcI (hR.el hl1 hel1).s hl1 rfl (hd.v 0 rfl rfl) (hd.v 8 rfl rfl))) ?_
    refine va (fun _ _ S _ hd _=>sv rfl (zlh ((hR.below S.below).el hl1 hel1) rfl (hd.v 9 rfl rfl))) ?_
    refine va (fun _ _ S _ _ _=>sv rfl (zat rfl (S.at 9 rfl) (hbl S.below) (Tryz.isAgg30 _) rfl)) ?_
    refine va (fun _ _ S _ _ _=>sv rfl (zab rfl (S.at 0 rfl))) ?_
    refine va (fun _ _ _ _ hd _=>sv rfl (zch (k:=k) (m:=1) rfl (hd.v 12 rfl rfl) rfl (by omega))) ?_
    refine va (fun _ _ S _ _ _=>sv rfl (zat rfl (S.at 9 rfl) (hbl S.below) (Tryz.isAgg30 _) rfl)) ?_
    refine va (fun _ _ _ _ hd _=>sv rfl (zcj rfl (hd.v 14 rfl rfl))) ?_
    refine va (fun _ _ _ _ hd _=>sv rfl (zlU (k:=k+1) (m:=l.length) (by omega) rfl (hd.v 13 rfl rfl) (hd.v 15 rfl rfl) (by omega))) ?_
    refine va (fun _ _ _ _ hd _=>sv rfl (zcI (hR.el hl3 hel3).s hl3 rfl (hd.v 11 rfl rfl) (hd.v 16 rfl rfl))) ?_
    refine va (fun _ _ S _ hd _=>sv rfl (zlh ((hR.below S.below).el hl3 hel3) rfl (hd.v 17 rfl rfl))) ?_
    refine vb ?_
    refine vb ?_
    refine vs ?_
    refine vs ?_
    exact vn
   ·intro a1 V3 S hB hf hl hdis hs hp
    obtain⟨g2,csg2,hvg2,hgg2,hbg2,hlg2,hng2,hkg2⟩:=hl _ (List.mem_of_getElem? (i:=0) rfl)
    obtain⟨g3,csg3,hvg3,hgg3,hbg3,hlg3,hng3,hkg3⟩:=hl _ (List.mem_of_getElem? (i:=1) rfl)
    have hne_g2_g3:g2≠g3:=fun h=>hdis _ (List.mem_of_getElem? (i:=0) rfl) _ (List.mem_of_getElem? (i:=1) rfl) (by decide) (hvg2.trans (h▸hvg3.symm))
    obtain⟨gs1,vsgs1,hvgs1,-,hbgs1,hngs1,hPgs1⟩:=hs _ (List.mem_of_getElem? (i:=0) rfl)
    have hegs1:=zgg ((hvg2).symm.trans hvgs1)
    subst hegs1
    have hvsgs1:=zgh (ws:=[.bool b1,.slice x1.A x1.n x1.c,.slice y1.A y1.n y1.c,.bool d1,.slice z1.A z1.n z1.c,.slice w1.A w1.n w1.c]) hPgs1
    subst hvsgs1
    obtain⟨gs2,vsgs2,hvgs2,-,hbgs2,hngs2,hPgs2⟩:=hs _ (List.mem_of_getElem? (i:=1) rfl)
    have hegs2:=zgg ((hvg3).symm.trans hvgs2)
    subst hegs2
    have hvsgs2:=zgh (ws:=[.bool b3,.slice x3.A x3.n x3.c,.slice y3.A y3.n y3.c,.bool d3,.slice z3.A z3.n z3.c,.slice w3.A w3.n w3.c]) hPgs2
    subst hvsgs2
    have S:=Frm.readd (S.add hvg2) (ztM S0.below.size hgg2) hbgs1 rfl (zdj (zcO (S0.lt 0 rfl) hgg2) ziv)
    have S:=Frm.readd (S.add hvg3) (ztM S0.below.size hgg3) hbgs2 rfl (zdj (zcO (S0.lt 0 rfl) hgg3) (zdj hne_g2_g3 ziv))
    have S:Frm 44 [(6,.pointer (some ⟨g3,0,none⟩)),(5,.pointer (some ⟨g2,0,none⟩)),(3,.int .i64 (((k:Nat):Int))),(4,.pointer (some ⟨g1,0,none⟩)),(16,.agg #[.bool b2,.slice x2.A x2.n x2.c,.slice y2.A y2.n y2.c,.bool d2,.slice z2.A z2.n z2.c,.slice w2.A w2.n w2.c]),(15,.pointer (some (zbh A (k*6)))),(14,.int .i64 (((k:Nat):Int))),(12,.int .i64 (((k:Nat):Int))),(11,.int .i64 (((l.length:Nat):Int))),(10,.slice A l.length c),(0,.func (.yield lp) #[] #[]),(1,.pointer (some ⟨bl,0,none⟩))] [⟨g1,29,[.bool b2,.slice x2.A x2.n x2.c,.slice y2.A y2.n y2.c,.bool d2,.slice z2.A z2.n z2.c,.slice w2.A w2.n w2.c]⟩,⟨g2,29,[.bool b1,.slice x1.A x1.n x1.c,.slice y1.A y1.n y1.c,.bool d1,.slice z1.A z1.n z1.c,.slice w1.A w1.n w1.c]⟩,⟨g3,29,[.bool b3,.slice x3.A x3.n x3.c,.slice y3.A y3.n y3.c,.bool d3,.slice z3.A z3.n z3.c,.slice w3.A w3.n w3.c]⟩] V _ _ _:=S
    clear hf hl hdis hs hp S0
    refine hK4 _ _ ?_
    have hs3:=G hs S.below
    have X:=S.jf
    have hco:zdc l k=((b1,x1,y1,d1,z1,w1),(b2,x2,y2,d2,z2,w2),(b3,x3,y3,d3,z3,w3)):=by unfold zdc;rw[zfJ hl1,zfJ hl2,zfJ hl3,hel1,hel2,hel3]
    have hy:=hY k (zdc l k) _ hs3 ⟨by rw[hcn];exact hlt,rfl⟩
    rw[hco]at hy
    refine wpIn_seq (wpIn_region_lit ?_)
    refine zar (fun _=>trivial) X (zab rfl (X.get rfl)) rfl rfl rfl (by decide) rfl (fun a X=>?_)
    refine zar (fun _=>trivial) X (v:= .agg (zbx (b1,x1,y1,d1,z1,w1)).toArray) (zaj rfl (X.get rfl) (S.bx 1 rfl) Tryz.underlying29 rfl (vs:=zbx (b1,x1,y1,d1,z1,w1)) zaY rfl) rfl rfl rfl (by decide) rfl (fun a X=>?_)
    refine zar (fun _=>trivial) X (v:= .agg (zbx (b2,x2,y2,d2,z2,w2)).toArray) (zaj rfl (X.get rfl) (S.bx 0 rfl) Tryz.underlying29 rfl (vs:=zbx (b2,x2,y2,d2,z2,w2)) zaY rfl) rfl rfl rfl (by decide) rfl (fun a X=>?_)
    refine zar (fun _=>trivial) X (v:= .agg (zbx (b3,x3,y3,d3,z3,w3)).toArray) (zaj rfl (X.get rfl) (S.bx 2 rfl) Tryz.underlying29 rfl (vs:=zbx (b3,x3,y3,d3,z3,w3)) zaY rfl) rfl rfl rfl (by decide) rfl (fun a X=>?_)
    refine zar (fun _=>trivial) X (zk8 rfl (X.get rfl) (X.get rfl) (X.get rfl)) rfl rfl rfl (by decide) rfl (fun a X=>?_)
    refine zgE X ⟨_,rfl⟩ (X.get rfl) (X.get rfl) rfl hy rfl rfl rfl (by decide) rfl (fun e W h=>by obtain⟨b,h,-⟩:=h;exact⟨b,h⟩) ?_
    rintro b a V4 ⟨b',hb',hJ1,hJ2⟩ X
    have hbb:b=b':=by injection hb' with hb';injection hb'
    subst hbb
    refine zar (fun _=>trivial) X (zb8 rfl (X.at 0 rfl)) rfl rfl rfl (by decide) rfl (fun a X=>?_)
    refine wpIn_cond (t:= !b) (X.at 0 rfl) ?_
    cases b with
    |false=>
     refine wpIn_ret ?_
     simp only[Exit.inBlock,Exit.then]
     exact bodyPost_ret (results_none rfl _ _ _) X.defers ⟨⟨_,rfl⟩,.inr ⟨_,trivial,hJ2 rfl⟩⟩
    |true=>
     refine wpIn_skip ?_
     replace X:=X.keep [12,11,10,0,1] rfl
     refine wpIn_region_lit ?_
     refine zar (fun _=>trivial) X (zch (k:=k) (m:=1) rfl (X.get rfl) rfl (by omega)) rfl rfl rfl (by decide) rfl (fun a X=>?_)
     refine zar (fun _=>trivial) X (zab rfl (X.get rfl)) rfl rfl rfl (by decide) rfl (fun a X=>?_)
     refine⟨⟨k+1,hlt,X.keep [12,11,10,0,1] rfl,hJ1 rfl⟩,?_⟩
     have e1:=zer (X.get rfl:a.tmps.getD 12 undef= .int .i64 ((k+1:Nat):Int))
     rw[e1,hsl]
     omega
  ·rw[if_neg (by rw[decide_eq_true_eq];omega)]
   obtain rfl:k=l.length:=by omega
   refine wpIn_exit ?_
   simp only[Exit.inBlock,Exit.then,if_true]
   exact bodyPost_end (results_none rfl _ _ _) S.defers ⟨⟨_,rfl⟩,.inl ⟨_,hcn.symm,hs⟩⟩
def czC (x:Cor):Rat:=cz (pv x.1) (pv x.2.1) (pv x.2.2)
def zdF (l:List PEl):List Int:=(List.range (zfK l)).map fun k=>zag (czC (zdc l k)) 0
theorem zhS (l:List PEl):(zdF l).length=zfK l:=by simp[zdF]
theorem zlW (l:List PEl):zfK l≤l.length:=by unfold zfK;split <;> omega
theorem zk9 {l:List PEl}{k:Nat}(hk:k<zfK l):(zdF l).take (k+1)=(zdF l).take k++[zag (czC (zdc l k)) 0]:=by
 rw[List.take_succ_eq_append_getElem (by rw[zhS];exact hk)]
 simp[zdF]
theorem zqX {l:List PEl}{k:Nat}(hk:k<zfK l):(zdc l k).1∈l∧(zdc l k).2.1∈l∧(zdc l k).2.2∈l:=by
 have h:=zlW l
 have h1:((k+l.length) - 1)%l.length<l.length:=Nat.mod_lt _ (by omega)
 have h3:(k+1)%l.length<l.length:=Nat.mod_lt _ (by omega)
 unfold zdc
 rw[zfJ h1,zfJ (show k<l.length by omega),zfJ h3]
 exact⟨List.getElem_mem _,List.getElem_mem _,List.getElem_mem _⟩
def okP (V:World)(p:PEl):Prop:=(p.2.1.ok V V.heap.size∧p.2.2.1.ok V V.heap.size)∧p.2.2.2.2.1.ok V V.heap.size∧p.2.2.2.2.2.ok V V.heap.size
theorem PRds.mem {V:World}{A:Option Addr}{l:List PEl}(h:PRds V V.heap.size A l){p:PEl}(hp:p∈l):okP V p:=by
 obtain⟨k,hk,rfl⟩:=List.mem_iff_getElem.1 hp
 exact(h k hk).2
def Smd (M:Nat)(l:List PEl):Prop:=∀p∈l,∀q∈l,Sm M ((pv q).1 - (pv p).1)∧Sm M ((pv q).2 - (pv p).2)
theorem zpC {K:Nat}{x:Cor}{V:World}(T:TT V)(o1:okP V x.1)(o2:okP V x.2.1)(o3:okP V x.2.2)(k1:zek K x.1)(k2:zek K x.2.1)(k3:zek K x.2.2)(hK:K≤400)
  (s2:Sm 250 ((pv x.2.1).1 - (pv x.1).1)∧Sm 250 ((pv x.2.1).2 - (pv x.1).2)) (s3:Sm 250 ((pv x.2.2).1 - (pv x.1).1)∧Sm 250 ((pv x.2.2).2 - (pv x.1).2)):
  Calls Tryz.prog 43 #[.agg (zbG x).toArray] V (zam V fun v _=>v= .int .i64 (zag (czC x) 0)):=by
 obtain⟨⟨b1,x1,y1,d1,z1,w1⟩,⟨b2,x2,y2,d2,z2,w2⟩,b3,x3,y3,d3,z3,w3⟩:=x
 exact zst (Ka:=K) (Kb:=K) (Kc:=K) T rfl rfl k1.1.1 k1.1.2 k1.2.1 k1.2.2 o1.1.1 o1.1.2 o1.2.1 o1.2.2 rfl rfl k2.1.1 k2.1.2 k2.2.1 k2.2.2 o2.1.1 o2.1.2 o2.2.1 o2.2.2 rfl rfl k3.1.1 k3.1.2 k3.2.1 k3.2.2 o3.1.1 o3.1.2 o3.2.1 o3.2.2 hK hK hK s2.1 s2.2 s3.1 s3.2
theorem zhT:(Tryz.prog.info? 62).map (·.size)=some 18:=by kernel_rfl
theorem zgZ (x:Cor):(zbG x).all za4=true:=rfl
def zno:List Value:=zbG (z6,z6,z6)
theorem zfp {W:World}{base b:Nat}{e T:TypeId}{k:Nat}{v:Value}{xs:List Value}{cs:Array Value}(h:W.ownsRow base e 1 v k xs)(hb:W.heap[b]?=some (.cells cs T (0,0)))(hT:T≠e):v.ownBlock=none∨v.ownBlock≠some b:=by
 rcases h.2 with⟨rfl,_⟩|⟨g,cap,cur,rfl,hg,hgg,_⟩
 ·exact .inl rfl
 ·refine .inr fun he=>?_
  simp only[Value.ownBlock,Option.some.injEq]at he
  subst he
  rw[hb]at hgg
  cases hgg
  exact hT rfl
theorem ziS:36≠3:=by decide
theorem zsw {ops:Array Oper}{Q:Exit→Act→World→Prop}{kk:Nat}{F:Value→World→Prop}{C:World→Prop}{i:Nat}{o:Oper}{a:Act}{V:World}{t:Tmp}(ho:ops[i]?=some o)(hg:o.guard=none)(hnd:zbq o=true)(hd:o.dst=some t)(hl:zeX o a V F)(hC:∀V',Below V.heap.size V V'→C V'):
  wpOpIn Fence.wide kk Tryz.prog ops Q i (fun a' w'=>∃v,a'=a.put (some t) v∧F v w'∧Below V.heap.size V w'∧C w') a V:=by
 obtain⟨v,V',hr,hF,hb⟩:=hl
 exact zc6 ho hg hnd hd hr hb (hC _ hb) hF
structure TurI (V0:World) (g bl:Nat) (A:Option Addr) (c:Nat) (l:List PEl) (s:Nat) (W:World):Prop where
 src:W.heap[bl]?=some (.cells #[.slice A l.length c] 30 (0,0))
 below:Below V0.heap.size V0 W
 row:∃v,W.heap[g]?=some (.cells [v].toArray 36 (0,0))∧W.ownsRow V0.heap.size 3 1 v ((zdF l).take s).length (zhm ((zdF l).take s))
section
variable {V0:World}{g bl c:Nat}{A:Option Addr}{l:List PEl}
theorem TurI.own {B:Nat}(h0:V0.heap.size≤B)(hg:g<B)(hbl:bl<B):OwnFrom B (TurI V0 g bl A c l):=by
 intro s W W' row h hgr hr
 have hr':=fun r e=>(hr r e).2
 have k:∀ {b:Nat} {o:Obj},b<B→W.heap[b]?=some o→W'.heap[b]?=some o:=fun {b o} hb ho=>
  (hgr.block b (Array.getElem?_eq_some_iff.1 ho).1 (by rintro e;have:=(hr b e.symm).1;omega)).trans ho
 obtain⟨v,h1,h2⟩:=h.row
 exact⟨k hbl h.src,h.below.grown hgr h.below.size (fun r e=>by have:=(hr r e).1;omega),v,k hg h1,zdX h2 hgr hr'⟩
theorem zqY {K:Nat}{V:World}(T:TT V)(hR:PRds V V.heap.size A l)(hl:l.length≤1000)(hK:∀p∈l,zek K p)(hK4:K≤400)(hS:Smd 250 l):
  CallsIn Fence.wide 10 Tryz.prog 13 #[.slice A l.length c] V (zam V (IRow (zdF l))):=by
 have hcl:=zlW l
 have htl:=zhS l
 refine callsIn_of_wp_marks Tryz.func13 rfl trivial ?_ rfl
 have S:=zd9 (n:=17) #[.slice A l.length c] (ztJ rfl)
 refine wpIn_seq (wpIn_region_lit ?_)
 refine zar (fun _=>trivial) S (zaB rfl) rfl rfl rfl (by decide) rfl (fun a S=>?_)
 refine wpIn_seq (wpIn_region_lit ?_)
 refine zar (fun _=>trivial) S (zab rfl (S.get rfl)) rfl rfl rfl (by decide) rfl (fun a S=>?_)
 refine zar (fun _=>trivial) S (zcj rfl (S.get rfl)) rfl rfl rfl (by decide) rfl (fun a S=>?_)
 obtain⟨i0,hi,hz0,hz1,hz2⟩:=info_parts zj1
 obtain⟨W1,hrun,hown1,hg1⟩:=run_make_own (P:=Tryz.prog) (w:=V) V.heap.size 36 3 i0 (.int .i64 0) 1 Tryz.underlying36 hi hz0 hz1 .i64 .i64 l.length (by rw[hz2];omega) (by simp only[maxLen];omega) ztK
 refine zar (fun _=>trivial) S (V':=W1) (v:= .slice (some ⟨V.heap.size,0,none⟩) 0 l.length) (by
  have e1:a.eval (.tmp 6)= .int .i64 ((l.length:Nat):Int):=S.get rfl
  unfold execOp;simp only[e1]
  simp[go_sem,Act.eval,hrun]) rfl rfl rfl (by decide) rfl (fun a S=>?_)
 obtain⟨u0,hu0⟩:∃u,Value.slice (some ⟨V.heap.size,0,none⟩) 0 l.length=u:=⟨_,rfl⟩
 have hb1:Below V.heap.size V W1:=(Below.refl _ V).grown hg1 ztK (fun r e=>by cases e)
 rw[hu0]at hown1 S
 clear hrun hg1
 refine zar (fun _=>trivial) S (V':=W1.alloc (.cells [Value.slice none 0 0].toArray 36)) (zaz rfl (Tryz.zeroValue36 _) rfl) rfl rfl rfl (by decide) rfl (fun a S=>?_)
 have hbx:(W1.alloc (.cells [Value.slice none 0 0].toArray 36)).heap[W1.heap.size]?=some (.cells [Value.slice none 0 0].toArray 36 (0,0)):=World.alloc_heap_new _ _
 have hb2:=(Below.refl W1.heap.size W1).alloc ztK (.cells [Value.slice none 0 0].toArray 36)
 have hown2:=World.ownsRow.alloc (w:=W1) hown1 (.cells [Value.slice none 0 0].toArray 36)
 have hb02:=hb1.trans (hb2.mono hb1.size)
 obtain⟨g,hgd⟩:∃g,W1.heap.size=g:=⟨_,rfl⟩
 have hVg:V.heap.size≤g:=by have:=hb1.size;omega
 rw[hgd]at S hbx
 have hug:u0.ownBlock=none∨u0.ownBlock≠some g:=by
  rcases zfp hown2 hbx ziS with h|h
  ·exact .inl h
  ·exact .inr h
 generalize W1.alloc (.cells [Value.slice none 0 0].toArray 36)=W2 at hbx hown2 hb02 ⊢
 clear hb1 hb2 hown1 hgd
 have hSn:=zb4 (o:=0) (vs:=[u0]) hbx rfl (by subst hu0;rfl)
 refine zcw (fun _=>trivial) S (V':=W2.setCells g 0 [u0]) (zc2 (m:=1) rfl (S.get rfl) (S.get rfl) (by go_simp) (by subst hu0;rfl) (by subst hu0;rfl) ztK (fun j hj=>?_)) rfl rfl rfl (fun a S=>?_)
 ·obtain rfl:j=0:=by omega
  constructor
  ·rw[cell_of_row W2 g 0 _ _ (0,0) hbx];rfl
  ·simp[World.frozen?,hbx]
 have hbx3:=hSn.cells hbx
 have hown3:=hown2.kept hSn.grown hug
 have hb03:=hb02.trans (hSn.below hVg)
 generalize W2.setCells g 0 [u0]=W3 at hbx3 hown3 hb03 ⊢
 clear hSn hbx hown2 hb02
 replace S:Jf 17 [(3,.pointer (some ⟨g,0,none⟩)),(0,.slice A l.length c)] [] a:=S.keep [3,0] rfl
 refine wpIn_seq (wpIn_seq (wpIn_region_lit ?_))
 refine zar (fun _=>trivial) S (zab rfl (S.get rfl)) rfl rfl rfl (by decide) rfl (fun a S=>?_)
 obtain⟨bl,hbl⟩:∃bl,W3.heap.size=bl:=⟨_,rfl⟩
 refine zff S (zec ⟨_,rfl⟩ (S.get rfl) (enters_of Tryz.func42 (by kernel_rfl) rfl)) (zj2 A l.length c W3) rfl rfl rfl (by decide) rfl (fun v a W4 hv hb4 S=>?_)
 obtain⟨rfl,hl4⟩:=hv
 rw[hbl]at hl4 S
 have hgs:g<W3.heap.size:=(Array.getElem?_eq_some_iff.1 hbx3).1
 have hb04:=hb03.trans (hb4.mono hb03.size)
 have hbx4:=(hb4.block g hgs).trans hbx3
 have hown4:=hown3.kept (zbN hb4 none) (by rcases hu:u0.ownBlock with _|b <;> simp)
 replace S:Jf 17 [(9,.func (.func 70) #[] #[.pointer (some ⟨bl,0,none⟩)]),(3,.pointer (some ⟨g,0,none⟩)),(0,.slice A l.length c)] [] a:=S.keep [9,3,0] rfl
 have hI0:TurI V g bl A c l 0 W4:=⟨hl4,hb04,u0,hbx4,by simpa[zhm]using hown4⟩
 have hblt:bl<W4.heap.size:=(Array.getElem?_eq_some_iff.1 hl4).1
 have hown:OwnFrom W4.heap.size (TurI V g bl A c l):=TurI.own hb04.size (by omega) hblt
 have hcs:∀s W,TurI V g bl A c l s W→zsv bl A c l W:=fun s W h=>⟨h.src,(hR.below h.below).more h.below.size⟩
 clear hbx4 hown4 hl4 hbx3 hown3
 refine wpIn_block (zcL rfl (by omega) (gf:=70) (lb:= #[.pointer (some ⟨bl,0,none⟩)]) (S.get rfl) trivial (enters_of Tryz.func70 (by kernel_rfl) rfl)
  (fun _=>rfl) (TurI V g bl A c l) (fun _ _ _=>False) hown (fun _ _ _ _ _ h _ _=>h) hI0
  (zgY hl _ hcs)
  (fun s x a W=>∃gx,Jf 17 [(4,.pointer (some ⟨gx,0,none⟩)),(3,.pointer (some ⟨g,0,none⟩))] [] a∧W.heap[gx]?=some (.cells (zbG x).toArray 62 (0,0))∧TurI V g bl A c l s W)
  ?own2 ?assign ?body ?done ?stop)
 case own2=>
  rintro s x a _ W W' row ⟨gx,h1,h3,h4⟩ hgr hr
  refine⟨gx,h1,(hgr.block gx (Array.getElem?_eq_some_iff.1 h3).1 ?_).trans h3,hown s W W' row h4 hgr hr⟩
  rintro e
  obtain⟨-,o,ho,hc⟩:=hr gx e.symm
  rw[h3]at ho
  cases ho
  cases hc
 case stop=>
  rintro D c s W _ _ h _
  exact h.elim
 case assign=>
  rintro lp s x W hI -
  have X0:=S.put (.agg (zbG x).toArray) (t:=10) (by decide) rfl
  have X:Jf 17 [(10,.agg (zbG x).toArray),(3,.pointer (some ⟨g,0,none⟩))] [] { tmps:=((#[10]:Array Tmp).zip #[.agg (zbG x).toArray]).foldl (fun t p=>t.setIfInBounds p.1 p.2) a.tmps,defers:=[] }:=by
   have e:((#[10]:Array Tmp).zip #[.agg (zbG x).toArray]).foldl (fun t p=>t.setIfInBounds p.1 p.2) a.tmps=(a.put (some 10) (.agg (zbG x).toArray)).tmps:=by simp[Act.put]
   rw[e]
   exact⟨X0.size,rfl,fun p hp=>X0.slots p (by
    rcases List.mem_cons.1 hp with rfl|hp
    ·exact List.mem_cons_self
    ·rw[List.mem_singleton.1 hp];simp[zeb])⟩
  refine wpIn_region_lit ?_
  refine zar (F:=Fence.wide.inRound lp) (fun _=>trivial) X (V':=W.alloc (.cells zno.toArray 62)) (zaz rfl (Tryz.zeroValue62 _) rfl) rfl rfl rfl (by decide) rfl (fun a X=>?_)
  have hbw:(W.alloc (.cells zno.toArray 62)).heap[W.heap.size]?=some (.cells zno.toArray 62 (0,0)):=World.alloc_heap_new _ _
  have hSw:=zb4 (o:=0) (vs:=zbG x) hbw rfl (zgZ x)
  refine zcw (F:=Fence.wide.inRound lp) (fun _=>trivial) X (V':=(W.alloc (.cells zno.toArray 62)).setCells W.heap.size 0 (zbG x)) (zav (m:=18) rfl (X.get rfl) (X.get rfl) zhT rfl ztK (fun j hj=>?_)) rfl rfl rfl (fun a X=>?_)
  ·constructor
   ·rw[cell_of_row _ W.heap.size j _ _ (0,0) hbw,List.getElem?_toArray,List.getElem?_eq_getElem (show j<zno.length from hj)];rfl
   ·exact zil hbw
  have hbel:Below W.heap.size W ((W.alloc (.cells zno.toArray 62)).setCells W.heap.size 0 (zbG x)):=(ztL.alloc ztK _).trans (hSw.below ztK)
  have hgw:=zbN hbel none
  exact⟨hgw,W.heap.size,X.keep [4,3] rfl,hSw.cells hbw,hown s W _ none hI hgw (fun r e=>by cases e)⟩
 case body=>
  rintro lp s x a W ⟨gx,X,hbw,hI⟩ ⟨hsc,rfl⟩
  obtain⟨u,hbu,hownu⟩:=hI.row
  obtain⟨m1,m2,m3⟩:=zqX hsc
  have hRW:PRds W W.heap.size A l:=(hcs _ _ hI).2
  have hTW:=T.keep hI.below
  refine wpIn_block (zdE 4 [11,12,13,14] (fun i v V'=>match i with
   |0=>v=u
   |1=>v= .agg (zbG (zdc l s)).toArray
   |2=>v= .int .i64 (zag (czC (zdc l s)) 0)
   |_=>IL1 (zag (czC (zdc l s)) 0) v V') (fun V'=>Below W.heap.size W V') (by kernel_rfl) (by kernel_rfl) (by kernel_rfl) rfl (by decide) (fun t ht=>by rw[X.size];revert t;decide) ztL.drew ?_ ?_ ?_)
  ·intro i v V1 V2 hf hb _
   match i,hf with
   |0,hf=>exact hf
   |1,hf=>exact hf
   |2,hf=>exact hf
   |_+3,hf=>exact IL1.keep hf hb
  ·intro i t ht a V' hC hF hd'
   have Y:=X.frame hF rfl
   have k:∀ {b:Nat} {o:Obj},W.heap[b]?=some o→V'.heap[b]?=some o:=fun {b o} ho=>(hC.block b (Array.getElem?_eq_some_iff.1 ho).1).trans ho
   match i,ht with
   |0,ht=>cases ht;exact zc6 rfl rfl rfl rfl (zat rfl (Y.get rfl) (k hbu) (Tryz.isAgg36 _) rfl) ztL hC rfl
   |1,ht=>cases ht;exact zc6 rfl rfl rfl rfl (zaj rfl (Y.get rfl) (k hbw) Tryz.underlying62 rfl (vs:=zbG (zdc l s)) zhT rfl) ztL hC rfl
   |2,ht=>
    cases ht
    have hRV:PRds V' V'.heap.size A l:=(hRW.below hC).more hC.size
    exact zlw rfl rfl rfl rfl (zec ⟨_,rfl⟩ (hd' 1 12 rfl (by kernel_rfl)) (enters_of Tryz.func43 (by kernel_rfl) rfl))
     (zpC (hTW.keep hC) (hRV.mem m1) (hRV.mem m2) (hRV.mem m3) (hK _ m1) (hK _ m2) (hK _ m3) hK4 (hS _ m1 _ m2) (hS _ m1 _ m3)) (fun V2 hb=>hC.trans (hb.mono hC.size))
   |3,ht=>
    cases ht
    exact zsw rfl rfl rfl rfl (zqU rfl (hd' 2 13 rfl (by kernel_rfl))) (fun V2 hb=>hC.trans (hb.mono hC.size))
   |k+4,ht=>simp at ht
  ·intro a V2 hC hF hf
   have Y:=X.frame hF rfl
   have f0:a.tmps.getD 11 undef=u:=hf 0 11 rfl
   obtain⟨gl,hgl,hgc⟩:=(hf 3 14 rfl:IL1 _ (a.tmps.getD 14 undef) V2)
   have hown2:=hownu.kept (zbN hC none) (by rcases hu:u.ownBlock with _|b <;> simp)
   have hle:((zdF l).take s).length≤1000:=by rw[List.length_take];omega
   have hbs:=hI.below.trans (hC.mono hI.below.size)
   have hbu2:=(hC.block g (Array.getElem?_eq_some_iff.1 hbu).1).trans hbu
   obtain⟨v',W',hrun,hown3,hgr3,hb3⟩:=zqV hown2 hbs.size hle hgc 36
   refine zar (fun _=>trivial) Y (znn rfl f0 hgl hrun) rfl rfl rfl (by decide) rfl (fun a Y=>?_)
   have hbu3:=zcB hown2 hgr3 hbu2 ziS
   obtain⟨A',n',c',hv'⟩:=zel hown3
   have hSn:=zb4 (o:=0) (vs:=[v']) hbu3 (by obtain⟨A2,n2,c2,rfl⟩:=zel hown2;rfl) (by subst hv';rfl)
   have hng:=zfp hown3 hbu3 ziS
   refine zcw (fun _=>trivial) Y (V':=W'.setCells g 0 [v']) (zc2 (m:=1) rfl (Y.get rfl) (Y.get rfl) (by go_simp) (by subst hv';rfl) (by subst hv';rfl) ztK (fun j hj=>?_)) rfl rfl rfl (fun a Y=>?_)
   ·obtain rfl:j=0:=by omega
    constructor
    ·rw[cell_of_row W' g 0 _ _ (0,0) hbu3];rfl
    ·simp[World.frozen?,hbu3]
   ·have hg4:g<W4.heap.size:=by omega
    have hbl2:=(hC.block bl (Array.getElem?_eq_some_iff.1 hI.src).1).trans hI.src
    have hpt:30≠3:=by decide
    have hgbl:g≠bl:=by omega
    refine⟨((KeepsFrom.of_grownBy (zbN hC none) (fun j e=>by cases e)).trans (zcJ hgr3 (zdn hown2))).trans (KeepsFrom.of_grownBy hSn.grown (fun j e=>by cases e;exact hg4)),(hSn.other (Ne.symm hgbl)).trans (zcB hown2 hgr3 hbl2 hpt),(hbs.trans hb3).trans (hSn.below hVg),v',hSn.cells hbu3,?_⟩
    rw[zk9 hsc]
    exact hown3.kept hSn.grown hng
 case done=>
  rintro D s W hD rfl hI hDd
  simp only[Exit.inBlock,Exit.then]
  obtain⟨u,hbu,hownu⟩:=hI.row
  rw[←htl,List.take_length]at hownu
  have X:Jf 17 [(9,.func (.func 70) #[] #[.pointer (some ⟨bl,0,none⟩)]),(3,.pointer (some ⟨g,0,none⟩)),(0,.slice A l.length c)] [mkD D] { a with defers:= { target:= .collected D,args:= #[] }::a.defers }:=⟨S.size,by simp[S.defers],S.slots⟩
  refine wpIn_seq (wpIn_region_lit ?_)
  refine zar (fun _=>trivial) X (v:=u) (zat rfl (X.get rfl) hbu (Tryz.isAgg36 _) rfl) rfl rfl rfl (by decide) rfl (fun a X=>?_)
  refine zar (fun _=>trivial) X (zak rfl (X.get rfl)) rfl rfl rfl (by decide) rfl (fun a X=>?_)
  refine wpIn_ret ?_
  show LeavesInM _ _ _ _ a.tmps _ a.defers _ _
  rw[X.defers]
  have hr2:a.tmps.getD 2 undef=u:=X.get rfl
  have hir:=zpB hownu (by rw[htl];omega)
  refine zdL (fun W=>Below V.heap.size V W∧IRow (zdF l) u W) ?_ [D] _ (by simp) (by simpa using hDd) ⟨hI.below,hir⟩ ?_
  ·rintro W ⟨h1,h2⟩
   exact⟨_,results_tmp rfl _ _ _,u,by rw[←hr2],h2,h1⟩
  ·rintro r hr W ⟨h1,h2⟩ hd
   obtain rfl:r=D:=by simpa using hr
   have hgr:=grownBy_putObj' W r (.deferred none)
   refine⟨h1.grown hgr h1.size (fun r' e=>by cases e;omega),?_⟩
   obtain⟨A',c',h3,h4,h5⟩:=h2
   refine⟨A',c',h3,h4,fun k hk=>?_⟩
   obtain⟨ad,e,h6,h7⟩:=h5 k hk
   exact⟨ad,e,ztN h6 hgr.size,cell_kept h7 hgr (fun r' e=>by cases e;exact⟨_,hd,rfl⟩)⟩
end
section
variable {n:Nat}{ls:List (Tmp × Value)}{lb:List Bx}{w V V0:World}{e:List Num}{a:Act}
theorem Frm.get (S:Frm n ls lb w e a V){t:Tmp}{v:Value}(h:ls.find? (fun p=>p.1==t)=some (t,v)):a.tmps.getD t undef=v:=S.slots _ (List.mem_of_find?_eq_some h)
end
section
variable {V:World}{a:Act}{o:Oper}{t1 t2:Tmp}{g n c k off:Nat}
end
structure Cps (ps ps':List PEl):Prop where
 mem:∀x,x∈ps.map pv↔x∈ps'.map pv
 ne:∀i (h:i+1<ps'.length),pv ps'[i]≠pv ps'[i+1]
 sub:∀p∈ps',p∈ps
structure Cpi (ps rs:List PEl) (K j:Nat):Prop where
 le:K≤j
 jl:j<ps.length
 lo:1≤K
 len:rs.length=ps.length
 rest:∀i (h:i<ps.length) (h':i<rs.length),K≤i→rs[i]=ps[i]
 cps:Cps (ps.take (j+1)) (rs.take K)
 last:∀(h:K - 1<rs.length),pv rs[K - 1]=pv ps[j]
section
variable {ps rs:List PEl}{K j:Nat}
theorem ze0 {α:Type}{l:List α}{k:Nat}(h:k<l.length):l.take (k+1)=l.take k++[l[k]]:=List.take_succ_eq_append_getElem h
theorem Cpi.start (hK:1≤K)(hl:K<ps.length)(hne:∀i (h:i+1<ps.length),i+1<K→pv ps[i]≠pv ps[i+1])(he:pv ps[K]=pv (ps[K - 1]'(by omega))):Cpi ps ps K K:=by
 refine⟨Nat.le_refl _,hl,hK,rfl,fun _ _ _ _=>rfl,⟨fun x=>?_,fun i h=>?_,fun p hp=>List.mem_of_mem_take (i:=K) (by rw[List.take_take];rwa [Nat.min_eq_left (by omega)])⟩,fun _=>he.symm⟩
 ·rw[ze0 hl,List.map_append,List.mem_append]
  constructor
  ·rintro(h|h)
   ·exact h
   ·rw[List.map_singleton,List.mem_singleton]at h
    rw[h,he]
    refine List.mem_map.2 ⟨_,List.mem_iff_getElem.2 ⟨K - 1,by rw[List.length_take];omega,List.getElem_take⟩,rfl⟩
  ·exact .inl
 ·rw[List.length_take]at h
  rw[List.getElem_take,List.getElem_take]
  exact hne i (by omega) (by omega)
theorem Cpi.skip (h:Cpi ps rs K j)(hj:j+1<ps.length)(he:pv ps[j+1]=pv (ps[j]'(by omega))):Cpi ps rs K (j+1):=by
 refine⟨Nat.le_succ_of_le h.le,hj,h.lo,h.len,h.rest,⟨fun x=>?_,h.cps.ne,fun p hp=>List.mem_of_mem_take (i:=j+1) (by rw[List.take_take,Nat.min_eq_left (by omega)];exact h.cps.sub p hp)⟩,fun h'=>(h.last h').trans he.symm⟩
 rw[ze0 hj,List.map_append,List.mem_append,←h.cps.mem x]
 refine⟨fun h'=>?_,.inl⟩
 rcases h' with h'|h'
 ·exact h'
 ·rw[List.map_singleton,List.mem_singleton]at h'
  rw[h',he]
  exact List.mem_map.2 ⟨_,List.mem_iff_getElem.2 ⟨j,by rw[List.length_take];omega,List.getElem_take⟩,rfl⟩
theorem Cpi.put (h:Cpi ps rs K j)(hj:j+1<ps.length)(he:pv ps[j+1]≠pv (ps[j]'(by omega))):Cpi ps (rs.set K ps[j+1]) (K+1) (j+1):=by
 have hle:=h.le
 have hlo:=h.lo
 have hlen:=h.len
 have hK:K<rs.length:=by omega
 have e1:(rs.set K ps[j+1]).take (K+1)=rs.take K++[ps[j+1]]:=by
  rw[List.take_succ_eq_append_getElem (by rw[List.length_set];exact hK),List.take_set_of_le ztK,List.getElem_set_self]
 refine⟨by omega,hj,by omega,by rw[List.length_set];exact h.len,fun i h1 h2 h3=>?_,⟨fun x=>?_,fun i hi=>?_,fun p hp=>?_⟩,fun h'=>?_⟩
 ·rw[List.getElem_set_ne (by omega)]
  exact h.rest i h1 (by rw[List.length_set]at h2;exact h2) (by omega)
 ·rw[e1,ze0 hj,List.map_append,List.map_append,List.mem_append,List.mem_append,h.cps.mem x]
 ·have hi':i<K:=by rw[e1,List.length_append,List.length_take,List.length_singleton]at hi;omega
  simp only[e1]
  rcases ztQ (i+1) K with h4|h4
  ·have l1:i<(rs.take K).length:=by rw[List.length_take];omega
   have l2:i+1<(rs.take K).length:=by rw[List.length_take];omega
   rw[List.getElem_append_left l1,List.getElem_append_left l2]
   exact h.cps.ne i l2
  ·obtain rfl:i=K - 1:=by omega
   have l1:K - 1<(rs.take K).length:=by rw[List.length_take];omega
   have l2:(rs.take K).length≤K - 1+1:=by rw[List.length_take];omega
   rw[List.getElem_append_left l1,List.getElem_append_right l2]
   have e2:K - 1+1 - (rs.take K).length=0:=by rw[List.length_take];omega
   simp only[e2,List.getElem_singleton,List.getElem_take]
   rw[h.last (by omega)]
   exact Ne.symm he
 ·rw[e1]at hp
  rcases List.mem_append.1 hp with h4|h4
  ·exact List.mem_of_mem_take (i:=j+1) (by rw[List.take_take,Nat.min_eq_left (by omega)];exact h.cps.sub p h4)
  ·rw[List.mem_singleton.1 h4]
   exact List.mem_iff_getElem.2 ⟨j+1,by rw[List.length_take];omega,List.getElem_take⟩
 ·simp only[Nat.add_sub_cancel,List.getElem_set_self]
theorem Cpi.done (h:Cpi ps rs K j)(hj:j+1=ps.length):Cps ps (rs.take K):=by
 have:=h.cps
 rwa [hj,List.take_length]at this
end
instance {l:List QQ}:Decidable (zpq l):=by unfold zpq;infer_instance
section
variable {P:Program}{ops:Array Oper}{Q:Exit → Act → World → Prop}{kk n:Nat}{F:Fence}{ls ls':List (Tmp × Value)}{D:List Deferred}{a:Act}{V V':World}{o:Oper}{rest:List Oper}{t t1:Tmp}
end
section
variable {a:Act}{V:World}{o:Oper}{t1 t2:Tmp}{g p:Nat}
end
def iv (z:Int):Value:= .int .i64 z
def sdc (x y z:Int):List Value:=[.int .i64 x,.int .i64 y,.int .i64 z]
structure AlI (V0:World) (gt bl:Nat) (A:Option Addr) (c:Nat) (r:List PEl) (s:Nat) (b0 b1 b2:Int) (W:World):Prop where
 src:W.heap[bl]?=some (.cells #[.slice A r.length c] 30 (0,0))
 below:Below V0.heap.size V0 W
 box:W.heap[gt]?=some (.cells (sdc b0 b1 b2).toArray 67 (0,0))
theorem AlI.own {V0:World}{gt bl c B:Nat}{A:Option Addr}{r:List PEl}{b0 b1 b2:Nat→Int}{Pp:Nat→Prop}(h0:V0.heap.size≤B)(hg:gt<B)(hbl:bl<B):OwnFrom B (fun s W=>AlI V0 gt bl A c r s (b0 s) (b1 s) (b2 s) W∧Pp s):=by
 rintro s W W' row ⟨h,hp⟩ hgr hr
 have k:∀ {b:Nat} {o:Obj},b<B→W.heap[b]?=some o→W'.heap[b]?=some o:=fun {b o} hb ho=>
  (hgr.block b (Array.getElem?_eq_some_iff.1 ho).1 (by rintro e;have:=(hr b e.symm).1;omega)).trans ho
 exact⟨⟨k hbl h.src,h.below.grown hgr h.below.size (fun r e=>by have:=(hr r e).1;omega),k hg h.box⟩,hp⟩
end Go.Proofs.YtdeelcoipmdoiaaGreatDoor
