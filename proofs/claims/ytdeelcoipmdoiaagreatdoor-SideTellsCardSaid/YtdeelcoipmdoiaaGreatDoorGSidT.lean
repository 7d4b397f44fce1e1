/- A part. -/
import Derived.Laws.MakeOwn
import Derived.Test.YtdeelcoipmdoiaaGreatDoorGSidA
set_option maxHeartbeats 8000000
set_option maxRecDepth 100000
namespace Go.Proofs.YtdeelcoipmdoiaaGreatDoor
open Go Go.RowKit
section
variable {P:Program}{ops:Array Oper}{Q:Exit → Act → World → Prop}{kk n:Nat}{ls ls':List (Tmp × Value)}{D:List Deferred}{a:Act}{V V':World}{o:Oper}{rest:List Oper}{t t1 t2:Tmp}{v v1:Value}
theorem zdV {id lp:Nat}{l:List Oper}{w0:World}{a0:Act}(n:Nat)(dst:List Tmp)(fact:Nat→Value→World→Prop)(C:World→Prop)(hm:P.follows .mixedOrders=true)(hnd:l.toArray.all zbq=true)(hB:zcG .any l.toArray n=true)(hdl:dst.length=n)(hnd2:dst.Nodup)(hds:∀t∈dst,t<a0.tmps.size)(hC:C w0.drew)
  (hmono:∀i v w w',fact i v w→Below w.heap.size w w'→C w'→fact i v w')
  (hstep:∀i t,dst[i]?=some t→∀a w,C w→FrameOf dst a0 a→(∀j t',dst[j]?=some t'→Region.waitsFor .any l.toArray i j=true→fact j (a.tmps.getD t' undef) w)→
   wpOpIn Fence.wide kk P l.toArray Q i (fun a' w'=>∃v,a'=a.put (some t) v∧fact i v w'∧Below w.heap.size w w'∧C w') a w)
  (hfin:∀a w,C w→FrameOf dst a0 a→(∀j t',dst[j]?=some t'→fact j (a.tmps.getD t' undef) w)→wpListIn Fence.wide kk P l.toArray Q (l.drop n) a w):
  (Code.region id l.toArray true).wpIn (Fence.wide.inRound lp) kk P Q a0 w0:=by
 refine zca hm hnd ?_
 have hn:n≤l.toArray.size:=by simp only[zcG,Bool.and_eq_true,decide_eq_true_eq]at hB;exact hB.1.1.1
 have hu:∀k,k≤l.toArray.size→unl (Array.replicate l.toArray.size false) k=k:=zgX _
 have H:=ze3 (P:=P) (Q:=Q) (C:=C) (fact:=fact) (fresh:=fun _ _ _=>True) (rel:=fun _ _ _ _=>True) (a0:=a0) hB hdl hnd2 hds hmono (fun _ _ _ _ _ _ _=>trivial)
  (fun i t ht a w h1 h2 h3=>wpOpIn_mono (fun _ _ ⟨v,e1,e2,e3,e4⟩=>⟨v,e1,⟨e2,trivial⟩,e3,e4⟩) (hstep i t ht a w h1 h2 h3))
  (fun a w h1 h2 h3 _=>by simpa using hfin a w h1 h2 h3) n (Array.replicate l.toArray.size false) a0 w0.drew
  ⟨by simp,fun j oj _ hl=>(by rw[getD_replicate_false]at hl;cases hl),fun t _ ht=>getD_in (by simpa using ht) (getD_replicate_false _ _)⟩ (hu n hn) hC ⟨rfl,rfl,fun _ _=>rfl⟩ (fun j t' _ hl=>(by rw[getD_replicate_false]at hl;cases hl)) (fun i j t t' _ _ _ hl=>(by rw[getD_replicate_false]at hl;cases hl))
 rwa [show n+(l.toArray.size - n)=l.toArray.size by omega]at H
theorem zqQ {lp:Nat}{G:Value→World→Prop}{f:FuncId}{args:Array Value}(S:Jf n ls D a)(hr:(execOp a.eval o).run P V= .ok (.enter f args) V)(hc:Calls P f args V (zaj V G))(hg:o.guard=none)(hnd:zbq o=true)(hd:o.dst=some t)(ht:t<n)(hl:zdD t ls=ls')
  (k:∀v a' V',G v V'→Below V.heap.size V V'→Jf n ((t,v)::ls') D a'→wpListIn (Fence.wide.inRound lp) kk P ops Q rest a' V'):wpListIn (Fence.wide.inRound lp) kk P ops Q (o::rest) a V:=by
 refine zif (K:=fun a' V2=>∃v,a'=a.put (some t) v∧G v V2∧Below V.heap.size V V2) (fun _=>trivial) hg hnd ?_ ?_
 ·rw[hr]
  simp only[Oper.uponIn,hd]
  refine⟨fun h=>by simp[Fence.wide,Fence.inRound]at h,(CallsIn.inRound lp (callsIn_wide.2 hc)).mono ?_⟩
  rintro en V2 ⟨v,rfl,h1,h2⟩
  exact⟨v,rfl,h1,h2⟩
 ·rintro a' V2 ⟨v,rfl,h1,h2⟩
  exact k _ _ _ h1 h2 (S.put v ht hl)
theorem zgu {x y:Code}(h:∀K:Act→World→Prop,(∀a w,y.wpIn Fence.wide kk P Q a w→K a w)→x.wp P (Exit.then K Q) a V):(x.seq y).wpIn Fence.wide kk P Q a V:=
 wpIn_seq (wpIn_wide.2 (h _ (fun _ _ h=>h)))
theorem Jf.frm {e:List Num}(S:Jf n ls [] a)(he:∀z∈e,z.ok V V.heap.size):Frm n ls [] V e a V:=⟨S.size,S.defers,S.slots,⟨fun _ h=>(by cases h),List.Pairwise.nil⟩,Env.start he⟩
theorem Frm.jf {lb:List Bx}{w:World}{e:List Num}(S:Frm n ls lb w e a V):Jf n ls [] a:=⟨S.size,S.defers,S.slots⟩
end
section
variable {a:Act}{V:World}{o:Oper}{X Y:Operand}{k m:Nat}
theorem zgQ (hm:0<m)(ho:o.op= .binOp .rem 3 X Y 3) (h:a.eval X= .int .i64 (k:Nat)) (h':a.eval Y= .int .i64 (m:Nat)) (hk:k<9223372036854775808):(execOp a.eval o).run Tryz.prog V= .ok (.value (.int .i64 ((k%m:Nat):Int))) V:=by
 obtain⟨q,e⟩:∃q,k%m=q:=⟨_,rfl⟩
 have hlt:k%m≤k:=Nat.mod_le k m
 have e4:(k:Int).tmod (m:Int)=(q:Int):=by rw[←e];rfl
 have h0: ¬((m:Nat):Int)=0:=by omega
 have h0': ¬m=0:=by omega
 have hw:IntKind.i64.wrap (q:Int)=(q:Int):=zgM ⟨by omega,by omega⟩
 rw[e]
 clear e
 obtain⟨dst,op,ty,pos,after,guard⟩:=o
 simp only at ho
 subst ho
 unfold execOp;simp only[h,h'];go_simp
theorem zgR (hle:m≤k)(ho:o.op= .binOp .sub 3 X Y 3) (h:a.eval X= .int .i64 (k:Nat)) (h':a.eval Y= .int .i64 (m:Nat)) (hi:k<9223372036854775808):(execOp a.eval o).run Tryz.prog V= .ok (.value (.int .i64 ((k - m:Nat):Int))) V:=by
 have:=ztf (V:=V) ho h h' ⟨by omega,by omega⟩
 rwa [show((k:Nat):Int) - (m:Nat)=((k - m:Nat):Int) by omega]at this
end
def zfL (L:List Int):List Value:=L.map fun z=> .int .i64 z
def IRow (L:List Int)(v:Value)(V:World):Prop:=∃(A:Option Addr) (c:Nat),v= .slice A L.length c∧L.length≤1000∧∀k (h:k<L.length),∃ad:Addr,A=some ad∧ad.block<V.heap.size∧V.cell? (ad.add k)=some (.int .i64 L[k])
section
variable {L:List Int}{v:Value}{V V' W:World}{base g:Nat}{z:Int}
theorem IRow.keep (h:IRow L v V)(hb:Below V.heap.size V V'):IRow L v V':=by
 obtain⟨A,c,h1,h2,h3⟩:=h
 refine⟨A,c,h1,h2,fun k hk=>?_⟩
 obtain⟨ad,e,h4,h5⟩:=h3 k hk
 exact⟨ad,e,zu4 h4 hb.size,(hb.cell (by rw[zaG];exact h4)).trans h5⟩
instance:Keeps (IRow L):=⟨fun h hb=>IRow.keep h hb⟩
theorem zkX:(Tryz.prog.info? 3).map (fun i=>(i.zero,i.size,i.bytes))=some (some (.int .i64 0),1,8):=by kernel_rfl
theorem zkY (h:W.ownsRow base 3 1 v L.length (zfL L)) (hL:L.length≤1000):IRow L v W:=by
 rcases h.2 with⟨rfl,h0⟩|⟨g,cap,cur,rfl,_,hgg,_⟩
 ·exact⟨none,0,by rw[h0],hL,fun k hk=>by omega⟩
 ·refine⟨some ⟨g,0,none⟩,cap,rfl,hL,fun k hk=>⟨_,rfl,(Array.getElem?_eq_some_iff.1 hgg).1,?_⟩⟩
  have:=h.cellAt k (by omega)
  rw[zaR,this]
  simp[zfL,hk]
def IL1 (z:Int)(v:Value)(V:World):Prop:=∃g,v= .slice (some ⟨g,0,none⟩) 1 1∧V.heap[g]?=some (.cells #[.int .i64 z] 3 (0,0))
theorem IL1.keep (h:IL1 z v V)(hb:Below V.heap.size V V'):IL1 z v V':=by
 obtain⟨g,h1,h2⟩:=h
 exact⟨g,h1,(hb.block g (Array.getElem?_eq_some_iff.1 h2).1).trans h2⟩
instance:Keeps (IL1 z):=⟨fun h hb=>IL1.keep h hb⟩
theorem zm0 {a:Act}{o:Oper}{t1:Tmp}(hop:o.op= .buildSlice 36 1 #[(0,.tmp t1)]) (h1:a.tmps.getD t1 undef= .int .i64 z):zfI o a V (IL1 z):=by
 refine⟨.slice (some ⟨V.heap.size,0,none⟩) 1 1,V.alloc (.cells #[.int .i64 z] 3),?_,⟨V.heap.size,rfl,World.alloc_heap_new' V _⟩,zu2.alloc zu1 _⟩
 rw[zaf]at h1
 obtain⟨dst,op,ty,pos,after,guard⟩:=o
 simp only at hop
 subst hop
 go_simp
theorem zm1 (h:W.ownsRow base 3 1 v L.length (zfL L)) (hb:base≤W.heap.size) (hL:L.length≤1000) (hg:W.heap[g]?=some (.cells #[.int .i64 z] 3 (0,0))) (ty:TypeId):
  ∃v' W',(Builtin.append_ #[36,36] ty #[v,.slice (some ⟨g,0,none⟩) 1 1]).run Tryz.prog W= .ok v' W'∧W'.ownsRow base 3 1 v' (L++[z]).length (zfL (L++[z]))∧W.grownBy W' v.ownBlock∧Below base W W':=by
 obtain⟨i0,hi,hz0,hz1,hz2⟩:=info_parts zkX
 obtain⟨v',W',h1,h2,h3,-,h4⟩:=run_append_own_at (P:=Tryz.prog) (w:=W) base 36 ty 3 i0 (.int .i64 0) 1 8 Tryz.underlying36 hi hz0 hz1 hz2 rfl (by decide) v L.length (zfL L) h
  ⟨g,0,none⟩ 1 1 [.int .i64 z] rfl (by
   intro j u hj
   match j,hj with
   |0,hj=>rw[zaR,cell_of_row W g 0 _ _ (0,0) hg];exact hj) (by simp[Value.oneCell']) (by simp only[maxLen];omega) (by omega) hb
 refine⟨v',W',h1,?_,h3,?_⟩
 ·rw[List.length_append,show zfL (L++[z])=zfL L++[.int .i64 z] by simp[zfL]]
  exact h2
 ·refine(Below.refl base W).grown h3 hb (fun r e=>?_)
  exact(h.lt r e).1
theorem zgS {a:Act}{o:Oper}{t1:Tmp}{X:Operand}{A:Option Addr}{c n k:Nat}{ad:Addr}(hA:A=some ad)(hk:k<n)(ho:o.op= .indexAddr 36 (.tmp t1) X) (h1:a.tmps.getD t1 undef= .slice A n c) (h2:a.eval X= .int .i64 (k:Nat)):
  (execOp a.eval o).run Tryz.prog V= .ok (.value (.pointer (some (ad.add k)))) V:=by
 subst hA
 rw[zaf]at h1
 obtain⟨dst,op,ty,pos,after,guard⟩:=o
 simp only at ho
 subst ho
 have h3:(k:Int)<(n:Int):=by omega
 unfold execOp;simp only[h2];go_simp
theorem zqR {a:Act}{o:Oper}{t1:Tmp}{ad:Addr}{k:Nat}(hc:V.cell? (ad.add k)=some (.int .i64 z))(ho:o.op= .load 3 (.tmp t1)) (h1:a.tmps.getD t1 undef= .pointer (some (ad.add k))):
  (execOp a.eval o).run Tryz.prog V= .ok (.value (.int .i64 z)) V:=by
 rw[zaf]at h1
 generalize ad.add k=p at*
 obtain⟨dst,op,ty,pos,after,guard⟩:=o
 simp only at ho
 subst ho
 go_simp
theorem zgT {a:Act}{o:Oper}{t1:Tmp}{A:Option Addr}{n c:Nat}(ho:o.op= .call { callee:= .builtin .len,args:= #[.tmp t1],argTypes:= #[36] }) (h:a.tmps.getD t1 undef= .slice A n c):(execOp a.eval o).run Tryz.prog V= .ok (.value (.int .i64 ((n:Nat):Int))) V:=by
 rw[zaf]at h
 obtain⟨dst,op,ty,pos,after,guard⟩:=o
 simp only at ho
 subst ho
 go_simp
theorem zgb {a:Act}{o:Oper}{s x:Tmp}{ts:Array TypeId}{v u v':Value}(hop:o.op=Op.call { callee:=Callee.builtin Builtin.append,args:= #[.tmp s,.tmp x],argTypes:=ts })(hs:a.tmps.getD s undef=v)(hx:a.tmps.getD x undef=u)
  (hrun:(Builtin.append_ ts o.type #[v,u]).run Tryz.prog W= .ok v' V):(execOp a.eval o).run Tryz.prog W= .ok (.value v') V:=by
 rw[zaf]at hs hx
 have hs':a.eval (.tmp s)=v:=by simpa[Act.eval]using hs
 have hx':a.eval (.tmp x)=u:=by simpa[Act.eval]using hx
 simp[execOp,hop,resolve,invoke,builtin,hs',hx',hrun,Result.andThen]
end
abbrev Cor:=PEl×PEl×PEl
def za4 (x:Cor):List Value:=zaD x.1++zaD x.2.1++zaD x.2.2
def el (l:List PEl)(i:Nat):PEl:=l.getD i z6
theorem zbR {l:List PEl}{i:Nat}(h:i<l.length):el l i=l[i]:=by unfold el;rw[List.getD_eq_getElem?_getD,List.getElem?_eq_getElem h];rfl
def zbH (l:List PEl)(k:Nat):Cor:=(el l (((k+l.length) - 1)%l.length),el l k,el l ((k+1)%l.length))
def zcV (l:List PEl):Nat:=if l.length<3 then 0 else l.length
theorem zgv (A:Option Addr)(n c:Nat)(V:World):Calls Tryz.prog 42 #[.slice A n c] V (zaj V fun v V'=>v= .func (.func 70) #[] #[.pointer (some ⟨V.heap.size,0,none⟩)]∧V'.heap[V.heap.size]?=some (.cells #[.slice A n c] 30 (0,0))):=by
 go_enter Tryz.func42,Tryz.ntmps42
 go_wp2
 go_ret
 exact⟨_,rfl,⟨rfl,World.alloc_heap_new' V _⟩,zu2.alloc zu1 _⟩
theorem zmc {a:Act}{V:World}{o:Oper}{t1 t2 t3:Tmp}{x y z:PEl}(ho:o.op= .build 62 #[(0,.tmp t1),(1,.tmp t2),(2,.tmp t3)]) (h1:a.tmps.getD t1 undef= .agg (zaD x).toArray) (h2:a.tmps.getD t2 undef= .agg (zaD y).toArray) (h3:a.tmps.getD t3 undef= .agg (zaD z).toArray):
  (execOp a.eval o).run Tryz.prog V= .ok (.value (.agg (za4 (x,y,z)).toArray)) V:=by
 rw[zaf]at h1 h2 h3
 obtain⟨dst,op,ty,pos,after,guard⟩:=o
 simp only at ho
 subst ho
 simp only[za4,zaD,List.cons_append,List.nil_append]at*
 go_simp
def ztK (bl:Nat)(A:Option Addr)(c:Nat)(l:List PEl)(W:World):Prop:=W.heap[bl]?=some (.cells #[.slice A l.length c] 30 (0,0))∧PRds W W.heap.size A l
theorem zez {bl:Nat}{A:Option Addr}{c:Nat}{l:List PEl}(hl:l.length≤1000)(I:Nat→World→Prop)(hI:∀s W,I s W→ztK bl A c l W):
  ze0 Fence.wide 9 Tryz.prog 70 #[.pointer (some ⟨bl,0,none⟩)] (fun x:Cor=> #[.agg (za4 x).toArray])
   (fun s x=>s<zcV l∧x=zbH l s) (fun s _=>s+1) 0 (fun s=>s=zcV l) (fun _=>True) I:=by
 intro lp J Jx W hJI hJ hJx hY h0
 have G:∀ {s V V'},J s V→Below V.heap.size V V'→J s V':=fun h hb=>hJ _ _ _ h (zbt hb none)
 have SR:∀ {s V},J s V→ztK bl A c l V:=fun h=>hI _ _ (hJI _ _ h)
 refine callsIn_of_wp Tryz.func70 rfl trivial ?_ rfl
 have S:=zdm (n:=44) #[.func (.yield lp) #[] #[],.pointer (some ⟨bl,0,none⟩)] (zu0 rfl)
 obtain⟨hb0,hR0⟩:=SR h0
 refine wpIn_seq (wpIn_seq (wpIn_region_lit ?_))
 refine zal (fun _=>trivial) S (v:= .slice A l.length c) (zar rfl (S.at 1 rfl) hb0 (Tryz.isAgg30 _) rfl) rfl rfl rfl (by decide) rfl (fun a S=>?_)
 refine zal (fun _=>trivial) S (zbf rfl (S.at 0 rfl)) rfl rfl rfl (by decide) rfl (fun a S=>?_)
 refine zal (fun _=>trivial) S (zb7 rfl (S.at 0 rfl) rfl) rfl rfl rfl (by decide) rfl (fun a S=>?_)
 refine wpIn_cond (t:=decide (((l.length:Nat):Int)<3)) (S.at 0 rfl) ?_
 by_cases h3:l.length<3
 ·rw[if_pos (decide_eq_true (by omega))]
  refine wpIn_ret ?_
  simp only[Exit.then]
  exact bodyPost_ret (results_none rfl _ _ _) S.defers ⟨⟨_,rfl⟩,.inl ⟨0,by unfold zcV;rw[if_pos h3],h0⟩⟩
 ·rw[if_neg (by rw[decide_eq_true_eq];omega)]
  refine wpIn_skip ?_
  have hcn:zcV l=l.length:=by unfold zcV;rw[if_neg h3]
  replace S:=S.keep [1,0] rfl
  refine wpIn_seq (wpIn_region_lit ?_)
  refine zal (fun _=>trivial) S (v:= .slice A l.length c) (zar rfl (S.get rfl) hb0 (Tryz.isAgg30 _) rfl) rfl rfl rfl (by decide) rfl (fun a S=>?_)
  refine zal (fun _=>trivial) S (zbf rfl (S.get rfl)) rfl rfl rfl (by decide) rfl (fun a S=>?_)
  refine zal (fun _=>trivial) S (zky rfl) rfl rfl rfl (by decide) rfl (fun a S=>?_)
  refine wpIn_block (wpIn_loop (fun aI VI=>∃k:Nat,k≤l.length∧Jf 44 [(12,.int .i64 ((k:Nat):Int)),(11,.int .i64 ((l.length:Nat):Int)),(10,.slice A l.length c),(0,.func (.yield lp) #[] #[]),(1,.pointer (some ⟨bl,0,none⟩))] [] aI∧J k VI) (fun aI _=>l.length - ze5 12 aI)
   ⟨0,Nat.zero_le _,S.keep [12,11,10,1,0] rfl,h0⟩ ?_)
  clear S h0 hb0 hR0 a
  rintro a V ⟨k,hk,S,hs⟩
  have hsl:=zeK (S.at 0 rfl)
  generalize ze5 12 a=mu at hsl ⊢
  obtain⟨hbl0,hR⟩:=SR hs
  refine wpIn_seq (wpIn_region_lit ?_)
  refine zal (fun _=>trivial) S (zb7 rfl (S.at 0 rfl) (S.at 1 rfl)) rfl rfl rfl (by decide) rfl (fun a S=>?_)
  refine wpIn_seq (wpIn_cond (t:=decide (((k:Nat):Int)<((l.length:Nat):Int))) (S.at 0 rfl) ?_)
  replace S:=S.keep [12,11,10,1,0] rfl
  by_cases hlt:k<l.length
  ·rw[if_pos (decide_eq_true (by omega))]
   refine wpIn_skip ?_
   refine wpIn_seq (wpIn_block ?_)
   have hl1:((k+l.length) - 1)%l.length<l.length:=Nat.mod_lt _ (by omega)
   have hl3:(k+1)%l.length<l.length:=Nat.mod_lt _ (by omega)
   have hl2:=hlt
   obtain⟨b1,x1,y1,d1,z1,w1,hel1⟩:∃b x y b' x' y',l[((k+l.length) - 1)%l.length]=(b,x,y,b',x',y'):=⟨_,_,_,_,_,_,rfl⟩
   obtain⟨b2,x2,y2,d2,z2,w2,hel2⟩:∃b x y b' x' y',l[k]=(b,x,y,b',x',y'):=⟨_,_,_,_,_,_,rfl⟩
   obtain⟨b3,x3,y3,d3,z3,w3,hel3⟩:∃b x y b' x' y',l[(k+1)%l.length]=(b,x,y,b',x',y'):=⟨_,_,_,_,_,_,rfl⟩
   have hbl:∀ {V'},Below V.heap.size V V'→V'.heap[bl]?=some (.cells #[.slice A l.length c] 30 (0,0)):=fun hb=>(hb.block bl (Array.getElem?_eq_some_iff.1 hbl0).1).trans hbl0
   obtain⟨⟨oa1,ob1⟩,oc1,od1⟩:=hR.oks hl1 hel1
   obtain⟨⟨oa2,ob2⟩,oc2,od2⟩:=hR.oks hl2 hel2
   obtain⟨⟨oa3,ob3⟩,oc3,od3⟩:=hR.oks hl3 hel3
   replace S:=S.frm (V:=V) (e:=[x3,y3,z3,w3,x2,y2,z2,w2,x1,y1,z1,w1]) (by simp[*])
   refine zgu fun K3 hK3=>?_
   refine zam ?_
   refine tv S (zab rfl (S.at 0 rfl)) fun a S=>?_
   refine tv S (zcq (hR.el hl2 hel2).s hl2 rfl (S.at 3 rfl) (S.at 1 rfl)) fun a S=>?_
   refine tv S (zjK ((hR.below S.below).el hl2 hel2) rfl (S.at 0 rfl)) fun a S=>?_
   refine ti S (cs:=[.bool false,.slice none 0 0,.slice none 0 0,.bool false,.slice none 0 0,.slice none 0 0]) (zay rfl (Tryz.zeroValue29 _) rfl) (fun g1=>[⟨g1,29,[.bool false,.slice none 0 0,.slice none 0 0,.bool false,.slice none 0 0,.slice none 0 0]⟩]) fun g1 a V1 hgg1 S=>?_
   refine tv S (zac rfl (S.at 3 rfl)) fun a S=>?_
   refine zaB S (i:=0) (vs:=[.bool b2,.slice x2.A x2.n x2.c,.slice y2.A y2.n y2.c,.bool d2,.slice z2.A z2.n z2.c,.slice w2.A w2.n w2.c]) rfl (fun ht=>zaw rfl (S.at 1 rfl) (S.at 2 rfl) zba rfl (zu0 rfl) ht) (zu0 rfl) rfl rfl rfl (lb':=[⟨g1,29,[.bool b2,.slice x2.A x2.n x2.c,.slice y2.A y2.n y2.c,.bool d2,.slice z2.A z2.n z2.c,.slice w2.A w2.n w2.c]⟩]) rfl (fun V2 S=>?_)
   refine hK3 _ _ ?_
   refine zgu fun K4 hK4=>?_
   obtain⟨W1,hW1⟩:∃W,W=V2:=⟨_,rfl⟩
   rw[←hW1]at S ⊢
   have S0:=S
   refine frs [(29,6)] [some 17,some 18,some 19,some 20,some 21,some 22,some 23,some 24,some 25,some 26,some 27,some 28,some 29,some 30,some 31,some 32,some 33,some 34,some 35,some 5,some 6,none,none] [IsV (.slice A l.length c),IsV (.int .i64 (((k:Nat):Int))),IsV (.slice A l.length c),IsV (.int .i64 (((l.length:Nat):Int))),IsV (.int .i64 (((k+l.length:Nat):Int))),IsV (.int .i64 ((((k+l.length) - 1:Nat):Int))),IsV (.slice A l.length c),IsV (.int .i64 (((l.length:Nat):Int))),IsV (.int .i64 (((((k+l.length) - 1)%l.length:Nat):Int))),IsV (.pointer (some (zbc A ((((k+l.length) - 1)%l.length)*6)))),IsV (.agg #[.bool b1,.slice x1.A x1.n x1.c,.slice y1.A y1.n y1.c,.bool d1,.slice z1.A z1.n z1.c,.slice w1.A w1.n w1.c]),IsV (.slice A l.length c),IsV (.int .i64 (((k:Nat):Int))),IsV (.int .i64 (((k+1:Nat):Int))),IsV (.slice A l.length c),IsV (.int .i64 (((l.length:Nat):Int))),IsV (.int .i64 ((((k+1)%l.length:Nat):Int))),IsV (.pointer (some (zbc A (((k+1)%l.length)*6)))),IsV (.agg #[.bool b3,.slice x3.A x3.n x3.c,.slice y3.A y3.n y3.c,.bool d3,.slice z3.A z3.n z3.c,.slice w3.A w3.n w3.c]),zjp,zjp,zjp,zjp] [⟨19,5,29,[.bool false,.slice none 0 0,.slice none 0 0,.bool false,.slice none 0 0,.slice none 0 0]⟩,⟨20,6,29,[.bool false,.slice none 0 0,.slice none 0 0,.bool false,.slice none 0 0,.slice none 0 0]⟩] [⟨21,5,29,IsV (.agg #[.bool b1,.slice x1.A x1.n x1.c,.slice y1.A y1.n y1.c,.bool d1,.slice z1.A z1.n z1.c,.slice w1.A w1.n w1.c])⟩,⟨22,6,29,IsV (.agg #[.bool b3,.slice x3.A x3.n x3.c,.slice y3.A y3.n y3.c,.bool d3,.slice z3.A z3.n z3.c,.slice w3.A w3.n w3.c])⟩] [] (lb:=[⟨g1,29,[.bool b2,.slice x2.A x2.n x2.c,.slice y2.A y2.n y2.c,.bool d2,.slice z2.A z2.n z2.c,.slice w2.A w2.n w2.c]⟩]) S (all_cons (zl0 0 rfl rfl) (all_cons (zl0 1 rfl rfl) zbe)) ?_ (all_cons ⟨rfl,_,rfl,rfl,rfl,fun _ _ _=>(zay rfl (Tryz.zeroValue29 _) rfl)⟩ (all_cons ⟨rfl,_,rfl,rfl,rfl,fun _ _ _=>(zay rfl (Tryz.zeroValue29 _) rfl)⟩ zbe)) (all_cons ⟨_,6,rfl,rfl,rfl,List.mem_of_getElem? (i:=0) rfl,(all_cons (fun h=>⟨rfl,rfl⟩) (all_cons (fun h=>by cases h) zbe)),zbe,fun _ _ _ _ hg hd=>zjh (F:=IsV (.agg #[.bool b1,.slice x1.A x1.n x1.c,.slice y1.A y1.n y1.c,.bool d1,.slice z1.A z1.n z1.c,.slice w1.A w1.n w1.c])) rfl ⟨[.bool b1,.slice x1.A x1.n x1.c,.slice y1.A y1.n y1.c,.bool d1,.slice z1.A z1.n z1.c,.slice w1.A w1.n w1.c],rfl,rfl,rfl,rfl⟩ rfl hg (hd.v 10 rfl rfl) zba⟩ (all_cons ⟨_,6,rfl,rfl,rfl,List.mem_of_getElem? (i:=0) rfl,(all_cons (fun h=>by cases h) (all_cons (fun h=>⟨rfl,rfl⟩) zbe)),zbe,fun _ _ _ _ hg hd=>zjh (F:=IsV (.agg #[.bool b3,.slice x3.A x3.n x3.c,.slice y3.A y3.n y3.c,.bool d3,.slice z3.A z3.n z3.c,.slice w3.A w3.n w3.c])) rfl ⟨[.bool b3,.slice x3.A x3.n x3.c,.slice y3.A y3.n y3.c,.bool d3,.slice z3.A z3.n z3.c,.slice w3.A w3.n w3.c],rfl,rfl,rfl,rfl⟩ rfl hg (hd.v 18 rfl rfl) zba⟩ zbe)) zbe ?_
   ·refine va (fun _ _ S _ _ _=>sv rfl (zar rfl (S.at 9 rfl) (hbl S.below) (Tryz.isAgg30 _) rfl)) ?_
    refine va (fun _ _ S _ _ _=>sv rfl (zab rfl (S.at 0 rfl))) ?_
    refine va (fun _ _ S _ _ _=>sv rfl (zar rfl (S.at 9 rfl) (hbl S.below) (Tryz.isAgg30 _) rfl)) ?_
    refine va (fun _ _ _ _ hd _=>sv rfl (zbf rfl (hd.v 2 rfl rfl))) ?_
    refine va (fun _ _ _ _ hd _=>sv rfl (zbj (k:=k) (m:=l.length) rfl (hd.v 1 rfl rfl) (hd.v 3 rfl rfl) (by omega))) ?_
    refine va (fun _ _ _ _ hd _=>sv rfl (zgR (k:=k+l.length) (m:=1) (by omega) rfl (hd.v 4 rfl rfl) rfl (by omega))) ?_
    refine va (fun _ _ S _ _ _=>sv rfl (zar rfl (S.at 9 rfl) (hbl S.below) (Tryz.isAgg30 _) rfl)) ?_
    refine va (fun _ _ _ _ hd _=>sv rfl (zbf rfl (hd.v 6 rfl rfl))) ?_
    refine va (fun _ _ _ _ hd _=>sv rfl (zgQ (k:=(k+l.length) - 1) (m:=l.length) (by omega) rfl (hd.v 5 rfl rfl) (hd.v 7 rfl rfl) (by omega))) ?_
    refine va (fun _ _ _ _ hd _=>sv rfl (zcq (hR.el hl1 hel1).s hl1 rfl (hd.v 0 rfl rfl) (hd.v 8 rfl rfl))) ?_
    refine va (fun _ _ S _ hd _=>sv rfl (zjK ((hR.below S.below).el hl1 hel1) rfl (hd.v 9 rfl rfl))) ?_
    refine va (fun _ _ S _ _ _=>sv rfl (zar rfl (S.at 9 rfl) (hbl S.below) (Tryz.isAgg30 _) rfl)) ?_
    refine va (fun _ _ S _ _ _=>sv rfl (zab rfl (S.at 0 rfl))) ?_
    refine va (fun _ _ _ _ hd _=>sv rfl (zbj (k:=k) (m:=1) rfl (hd.v 12 rfl rfl) rfl (by omega))) ?_
    refine va (fun _ _ S _ _ _=>sv rfl (zar rfl (S.at 9 rfl) (hbl S.below) (Tryz.isAgg30 _) rfl)) ?_
    refine va (fun _ _ _ _ hd _=>sv rfl (zbf rfl (hd.v 14 rfl rfl))) ?_
    refine va (fun _ _ _ _ hd _=>sv rfl (zgQ (k:=k+1) (m:=l.length) (by omega) rfl (hd.v 13 rfl rfl) (hd.v 15 rfl rfl) (by omega))) ?_
    refine va (fun _ _ _ _ hd _=>sv rfl (zcq (hR.el hl3 hel3).s hl3 rfl (hd.v 11 rfl rfl) (hd.v 16 rfl rfl))) ?_
    refine va (fun _ _ S _ hd _=>sv rfl (zjK ((hR.below S.below).el hl3 hel3) rfl (hd.v 17 rfl rfl))) ?_
    refine vb ?_
    refine vb ?_
    refine vs ?_
    refine vs ?_
    exact vn
   ·intro a1 V3 S hB hf hl hdis hs hp
    obtain⟨g2,csg2,hvg2,hgg2,hbg2,hlg2,hng2,hkg2⟩:=hl _ (List.mem_of_getElem? (i:=0) rfl)
    obtain⟨g3,csg3,hvg3,hgg3,hbg3,hlg3,hng3,hkg3⟩:=hl _ (List.mem_of_getElem? (i:=1) rfl)
    have hne_g2_g3:g2≠g3:=fun h=>hdis _ (List.mem_of_getElem? (i:=0) rfl) _ (List.mem_of_getElem? (i:=1) rfl) (by decide) (hvg2.trans (h▸hvg3.symm))
    obtain⟨gs1,vsgs1,hvgs1,-,hbgs1,hngs1,hPgs1⟩:=hs _ (List.mem_of_getElem? (i:=0) rfl)
    have hegs1:=zgK ((hvg2).symm.trans hvgs1)
    subst hegs1
    have hvsgs1:=zgL (ws:=[.bool b1,.slice x1.A x1.n x1.c,.slice y1.A y1.n y1.c,.bool d1,.slice z1.A z1.n z1.c,.slice w1.A w1.n w1.c]) hPgs1
    subst hvsgs1
    obtain⟨gs2,vsgs2,hvgs2,-,hbgs2,hngs2,hPgs2⟩:=hs _ (List.mem_of_getElem? (i:=1) rfl)
    have hegs2:=zgK ((hvg3).symm.trans hvgs2)
    subst hegs2
    have hvsgs2:=zgL (ws:=[.bool b3,.slice x3.A x3.n x3.c,.slice y3.A y3.n y3.c,.bool d3,.slice z3.A z3.n z3.c,.slice w3.A w3.n w3.c]) hPgs2
    subst hvsgs2
    have S:=Frm.readd (S.add hvg2) (zu3 S0.below.size hgg2) hbgs1 rfl (zdx (zc2 (S0.lt 0 rfl) hgg2) zjg)
    have S:=Frm.readd (S.add hvg3) (zu3 S0.below.size hgg3) hbgs2 rfl (zdx (zc2 (S0.lt 0 rfl) hgg3) (zdx hne_g2_g3 zjg))
    have S:Frm 44 [(6,.pointer (some ⟨g3,0,none⟩)),(5,.pointer (some ⟨g2,0,none⟩)),(3,.int .i64 (((k:Nat):Int))),(4,.pointer (some ⟨g1,0,none⟩)),(16,.agg #[.bool b2,.slice x2.A x2.n x2.c,.slice y2.A y2.n y2.c,.bool d2,.slice z2.A z2.n z2.c,.slice w2.A w2.n w2.c]),(15,.pointer (some (zbc A (k*6)))),(14,.int .i64 (((k:Nat):Int))),(12,.int .i64 (((k:Nat):Int))),(11,.int .i64 (((l.length:Nat):Int))),(10,.slice A l.length c),(0,.func (.yield lp) #[] #[]),(1,.pointer (some ⟨bl,0,none⟩))] [⟨g1,29,[.bool b2,.slice x2.A x2.n x2.c,.slice y2.A y2.n y2.c,.bool d2,.slice z2.A z2.n z2.c,.slice w2.A w2.n w2.c]⟩,⟨g2,29,[.bool b1,.slice x1.A x1.n x1.c,.slice y1.A y1.n y1.c,.bool d1,.slice z1.A z1.n z1.c,.slice w1.A w1.n w1.c]⟩,⟨g3,29,[.bool b3,.slice x3.A x3.n x3.c,.slice y3.A y3.n y3.c,.bool d3,.slice z3.A z3.n z3.c,.slice w3.A w3.n w3.c]⟩] V _ _ _:=S
    clear hf hl hdis hs hp S0
    refine hK4 _ _ ?_
    have hs3:=G hs S.below
    have X:=S.jf
    have hco:zbH l k=((b1,x1,y1,d1,z1,w1),(b2,x2,y2,d2,z2,w2),(b3,x3,y3,d3,z3,w3)):=by unfold zbH;rw[zbR hl1,zbR hl2,zbR hl3,hel1,hel2,hel3]
    have hy:=hY k (zbH l k) _ hs3 ⟨by rw[hcn];exact hlt,rfl⟩
    rw[hco]at hy
    refine wpIn_seq (wpIn_region_lit ?_)
    refine zal (fun _=>trivial) X (zab rfl (X.get rfl)) rfl rfl rfl (by decide) rfl (fun a X=>?_)
    refine zal (fun _=>trivial) X (v:= .agg (zaD (b1,x1,y1,d1,z1,w1)).toArray) (zak rfl (X.get rfl) (S.bx 1 rfl) Tryz.underlying29 rfl (vs:=zaD (b1,x1,y1,d1,z1,w1)) zba rfl) rfl rfl rfl (by decide) rfl (fun a X=>?_)
    refine zal (fun _=>trivial) X (v:= .agg (zaD (b2,x2,y2,d2,z2,w2)).toArray) (zak rfl (X.get rfl) (S.bx 0 rfl) Tryz.underlying29 rfl (vs:=zaD (b2,x2,y2,d2,z2,w2)) zba rfl) rfl rfl rfl (by decide) rfl (fun a X=>?_)
    refine zal (fun _=>trivial) X (v:= .agg (zaD (b3,x3,y3,d3,z3,w3)).toArray) (zak rfl (X.get rfl) (S.bx 2 rfl) Tryz.underlying29 rfl (vs:=zaD (b3,x3,y3,d3,z3,w3)) zba rfl) rfl rfl rfl (by decide) rfl (fun a X=>?_)
    refine zal (fun _=>trivial) X (zmc rfl (X.get rfl) (X.get rfl) (X.get rfl)) rfl rfl rfl (by decide) rfl (fun a X=>?_)
    refine zhf X ⟨_,rfl⟩ (X.get rfl) (X.get rfl) rfl hy rfl rfl rfl (by decide) rfl (fun e W h=>by obtain⟨b,h,-⟩:=h;exact⟨b,h⟩) ?_
    rintro b a V4 ⟨b',hb',hJ1,hJ2⟩ X
    have hbb:b=b':=by injection hb' with hb';injection hb'
    subst hbb
    refine zal (fun _=>trivial) X (zcz rfl (X.at 0 rfl)) rfl rfl rfl (by decide) rfl (fun a X=>?_)
    refine wpIn_cond (t:= !b) (X.at 0 rfl) ?_
    cases b with
    |false=>
     refine wpIn_ret ?_
     simp only[Exit.inBlock,Exit.then]
     exact bodyPost_ret (results_none rfl _ _ _) X.defers ⟨⟨_,rfl⟩,.inr ⟨_,trivial,hJ2 rfl⟩⟩
    |true=>
     refine wpIn_skip ?_
     replace X:=X.keep [12,11,10,0,1] rfl
     refine wpIn_region_lit ?_
     refine zal (fun _=>trivial) X (zbj (k:=k) (m:=1) rfl (X.get rfl) rfl (by omega)) rfl rfl rfl (by decide) rfl (fun a X=>?_)
     refine zal (fun _=>trivial) X (zab rfl (X.get rfl)) rfl rfl rfl (by decide) rfl (fun a X=>?_)
     refine⟨⟨k+1,hlt,X.keep [12,11,10,0,1] rfl,hJ1 rfl⟩,?_⟩
     have e1:=zeK (X.get rfl:a.tmps.getD 12 undef= .int .i64 ((k+1:Nat):Int))
     rw[e1,hsl]
     omega
  ·rw[if_neg (by rw[decide_eq_true_eq];omega)]
   obtain rfl:k=l.length:=by omega
   refine wpIn_exit ?_
   simp only[Exit.inBlock,Exit.then,if_true]
   exact bodyPost_end (results_none rfl _ _ _) S.defers ⟨⟨_,rfl⟩,.inl ⟨_,hcn.symm,hs⟩⟩
def czC (x:Cor):Rat:=cz (pv x.1) (pv x.2.1) (pv x.2.2)
def zck (l:List PEl):List Int:=(List.range (zcV l)).map fun k=>zag (czC (zbH l k)) 0
theorem zgc (l:List PEl):(zck l).length=zcV l:=by simp[zck]
theorem zjD (l:List PEl):zcV l≤l.length:=by unfold zcV;split <;> omega
theorem zhD {l:List PEl}{k:Nat}(hk:k<zcV l):(zck l).take (k+1)=(zck l).take k++[zag (czC (zbH l k)) 0]:=by
 rw[List.take_succ_eq_append_getElem (by rw[zgc];exact hk)]
 simp[zck]
theorem zjE {l:List PEl}{k:Nat}(hk:k<zcV l):(zbH l k).1∈l∧(zbH l k).2.1∈l∧(zbH l k).2.2∈l:=by
 have h:=zjD l
 have h1:((k+l.length) - 1)%l.length<l.length:=Nat.mod_lt _ (by omega)
 have h3:(k+1)%l.length<l.length:=Nat.mod_lt _ (by omega)
 unfold zbH
 rw[zbR h1,zbR (show k<l.length by omega),zbR h3]
 exact⟨List.getElem_mem _,List.getElem_mem _,List.getElem_mem _⟩
def okP (V:World)(p:PEl):Prop:=(p.2.1.ok V V.heap.size∧p.2.2.1.ok V V.heap.size)∧p.2.2.2.2.1.ok V V.heap.size∧p.2.2.2.2.2.ok V V.heap.size
theorem PRds.mem {V:World}{A:Option Addr}{l:List PEl}(h:PRds V V.heap.size A l){p:PEl}(hp:p∈l):okP V p:=by
 obtain⟨k,hk,rfl⟩:=List.mem_iff_getElem.1 hp
 exact(h k hk).2
def Smd (M:Nat)(l:List PEl):Prop:=∀p∈l,∀q∈l,Sm M ((pv q).1 - (pv p).1)∧Sm M ((pv q).2 - (pv p).2)
theorem zkZ {K:Nat}{x:Cor}{V:World}(T:TT V)(o1:okP V x.1)(o2:okP V x.2.1)(o3:okP V x.2.2)(k1:zbX K x.1)(k2:zbX K x.2.1)(k3:zbX K x.2.2)(hK:K≤400)
  (s2:Sm 250 ((pv x.2.1).1 - (pv x.1).1)∧Sm 250 ((pv x.2.1).2 - (pv x.1).2)) (s3:Sm 250 ((pv x.2.2).1 - (pv x.1).1)∧Sm 250 ((pv x.2.2).2 - (pv x.1).2)):
  Calls Tryz.prog 43 #[.agg (za4 x).toArray] V (zaj V fun v _=>v= .int .i64 (zag (czC x) 0)):=by
 obtain⟨⟨b1,x1,y1,d1,z1,w1⟩,⟨b2,x2,y2,d2,z2,w2⟩,b3,x3,y3,d3,z3,w3⟩:=x
 exact ztF (Ka:=K) (Kb:=K) (Kc:=K) T rfl rfl k1.1.1 k1.1.2 k1.2.1 k1.2.2 o1.1.1 o1.1.2 o1.2.1 o1.2.2 rfl rfl k2.1.1 k2.1.2 k2.2.1 k2.2.2 o2.1.1 o2.1.2 o2.2.1 o2.2.2 rfl rfl k3.1.1 k3.1.2 k3.2.1 k3.2.2 o3.1.1 o3.1.2 o3.2.1 o3.2.2 hK hK hK s2.1 s2.2 s3.1 s3.2
theorem zeU:(Tryz.prog.info? 62).map (·.size)=some 18:=by kernel_rfl
theorem zeA (x:Cor):(za4 x).all za1=true:=rfl
def zgA:List Value:=za4 (z6,z6,z6)
theorem zfM {W:World}{base b:Nat}{e T:TypeId}{k:Nat}{v:Value}{xs:List Value}{cs:Array Value}(h:W.ownsRow base e 1 v k xs)(hb:W.heap[b]?=some (.cells cs T (0,0)))(hT:T≠e):v.ownBlock=none∨v.ownBlock≠some b:=by
 rcases h.2 with⟨rfl,_⟩|⟨g,cap,cur,rfl,hg,hgg,_⟩
 ·exact .inl rfl
 ·refine .inr fun he=>?_
  simp only[Value.ownBlock,Option.some.injEq]at he
  subst he
  rw[hb]at hgg
  cases hgg
  exact hT rfl
theorem zjF:36≠3:=by decide
theorem ztL {ops:Array Oper}{Q:Exit→Act→World→Prop}{kk:Nat}{F:Value→World→Prop}{C:World→Prop}{i:Nat}{o:Oper}{a:Act}{V:World}{t:Tmp}(ho:ops[i]?=some o)(hg:o.guard=none)(hnd:zbq o=true)(hd:o.dst=some t)(hl:zfI o a V F)(hC:∀V',Below V.heap.size V V'→C V'):
  wpOpIn Fence.wide kk Tryz.prog ops Q i (fun a' w'=>∃v,a'=a.put (some t) v∧F v w'∧Below V.heap.size V w'∧C w') a V:=by
 obtain⟨v,V',hr,hF,hb⟩:=hl
 exact zdl ho hg hnd hd hr hb (hC _ hb) hF
structure TurI (V0:World) (g bl:Nat) (A:Option Addr) (c:Nat) (l:List PEl) (s:Nat) (W:World):Prop where
 src:W.heap[bl]?=some (.cells #[.slice A l.length c] 30 (0,0))
 below:Below V0.heap.size V0 W
 row:∃v,W.heap[g]?=some (.cells [v].toArray 36 (0,0))∧W.ownsRow V0.heap.size 3 1 v ((zck l).take s).length (zfL ((zck l).take s))
section
variable {V0:World}{g bl c:Nat}{A:Option Addr}{l:List PEl}
theorem TurI.own {B:Nat}(h0:V0.heap.size≤B)(hg:g<B)(hbl:bl<B):OwnFrom B (TurI V0 g bl A c l):=by
 intro s W W' row h hgr hr
 have hr':=fun r e=>(hr r e).2
 have k:∀ {b:Nat} {o:Obj},b<B→W.heap[b]?=some o→W'.heap[b]?=some o:=fun {b o} hb ho=>
  (hgr.block b (Array.getElem?_eq_some_iff.1 ho).1 (by rintro e;have:=(hr b e.symm).1;omega)).trans ho
 obtain⟨v,h1,h2⟩:=h.row
 exact⟨k hbl h.src,h.below.grown hgr h.below.size (fun r e=>by have:=(hr r e).1;omega),v,k hg h1,zef h2 hgr hr'⟩
theorem zm2 {K:Nat}{V:World}(T:TT V)(hR:PRds V V.heap.size A l)(hl:l.length≤1000)(hK:∀p∈l,zbX K p)(hK4:K≤400)(hS:Smd 250 l):
  CallsIn Fence.wide 10 Tryz.prog 13 #[.slice A l.length c] V (zaj V (IRow (zck l))):=by
 have hcl:=zjD l
 have htl:=zgc l
 refine callsIn_of_wp_marks Tryz.func13 rfl trivial ?_ rfl
 have S:=zdm (n:=17) #[.slice A l.length c] (zu0 rfl)
 refine wpIn_seq (wpIn_region_lit ?_)
 refine zal (fun _=>trivial) S (zcx rfl) rfl rfl rfl (by decide) rfl (fun a S=>?_)
 refine wpIn_seq (wpIn_region_lit ?_)
 refine zal (fun _=>trivial) S (zab rfl (S.get rfl)) rfl rfl rfl (by decide) rfl (fun a S=>?_)
 refine zal (fun _=>trivial) S (zbf rfl (S.get rfl)) rfl rfl rfl (by decide) rfl (fun a S=>?_)
 obtain⟨i0,hi,hz0,hz1,hz2⟩:=info_parts zkX
 obtain⟨W1,hrun,hown1,hg1⟩:=run_make_own (P:=Tryz.prog) (w:=V) V.heap.size 36 3 i0 (.int .i64 0) 1 Tryz.underlying36 hi hz0 hz1 .i64 .i64 l.length (by rw[hz2];omega) (by simp only[maxLen];omega) zu1
 refine zal (fun _=>trivial) S (V':=W1) (v:= .slice (some ⟨V.heap.size,0,none⟩) 0 l.length) (by
  have e1:a.eval (.tmp 6)= .int .i64 ((l.length:Nat):Int):=S.get rfl
  unfold execOp;simp only[e1]
  simp[go_sem,Act.eval,hrun]) rfl rfl rfl (by decide) rfl (fun a S=>?_)
 obtain⟨u0,hu0⟩:∃u,Value.slice (some ⟨V.heap.size,0,none⟩) 0 l.length=u:=⟨_,rfl⟩
 have hb1:Below V.heap.size V W1:=(Below.refl _ V).grown hg1 zu1 (fun r e=>by cases e)
 rw[hu0]at hown1 S
 clear hrun hg1
 refine zal (fun _=>trivial) S (V':=W1.alloc (.cells [Value.slice none 0 0].toArray 36)) (zay rfl (Tryz.zeroValue36 _) rfl) rfl rfl rfl (by decide) rfl (fun a S=>?_)
 have hbx:(W1.alloc (.cells [Value.slice none 0 0].toArray 36)).heap[W1.heap.size]?=some (.cells [Value.slice none 0 0].toArray 36 (0,0)):=World.alloc_heap_new _ _
 have hb2:=(Below.refl W1.heap.size W1).alloc zu1 (.cells [Value.slice none 0 0].toArray 36)
 have hown2:=World.ownsRow.alloc (w:=W1) hown1 (.cells [Value.slice none 0 0].toArray 36)
 have hb02:=hb1.trans (hb2.mono hb1.size)
 obtain⟨g,hgd⟩:∃g,W1.heap.size=g:=⟨_,rfl⟩
 have hVg:V.heap.size≤g:=by have:=hb1.size;omega
 rw[hgd]at S hbx
 have hug:u0.ownBlock=none∨u0.ownBlock≠some g:=by
  rcases zfM hown2 hbx zjF with h|h
  ·exact .inl h
  ·exact .inr h
 generalize W1.alloc (.cells [Value.slice none 0 0].toArray 36)=W2 at hbx hown2 hb02 ⊢
 clear hb1 hb2 hown1 hgd
 have hSn:=zbW (o:=0) (vs:=[u0]) hbx rfl (by subst hu0;rfl)
 refine zco (fun _=>trivial) S (V':=W2.setCells g 0 [u0]) (zcR (m:=1) rfl (S.get rfl) (S.get rfl) (by go_simp) (by subst hu0;rfl) (by subst hu0;rfl) zu1 (fun j hj=>?_)) rfl rfl rfl (fun a S=>?_)
 ·obtain rfl:j=0:=by omega
  constructor
  ·rw[cell_of_row W2 g 0 _ _ (0,0) hbx];rfl
  ·simp[World.frozen?,hbx]
 have hbx3:=hSn.cells hbx
 have hown3:=hown2.kept hSn.grown hug
 have hb03:=hb02.trans (hSn.below hVg)
 generalize W2.setCells g 0 [u0]=W3 at hbx3 hown3 hb03 ⊢
 clear hSn hbx hown2 hb02
 replace S:Jf 17 [(3,.pointer (some ⟨g,0,none⟩)),(0,.slice A l.length c)] [] a:=S.keep [3,0] rfl
 refine wpIn_seq (wpIn_seq (wpIn_region_lit ?_))
 refine zal (fun _=>trivial) S (zab rfl (S.get rfl)) rfl rfl rfl (by decide) rfl (fun a S=>?_)
 obtain⟨bl,hbl⟩:∃bl,W3.heap.size=bl:=⟨_,rfl⟩
 refine zd1 S (zc3 ⟨_,rfl⟩ (S.get rfl) (enters_of Tryz.func42 (by kernel_rfl) rfl)) (zgv A l.length c W3) rfl rfl rfl (by decide) rfl (fun v a W4 hv hb4 S=>?_)
 obtain⟨rfl,hl4⟩:=hv
 rw[hbl]at hl4 S
 have hgs:g<W3.heap.size:=(Array.getElem?_eq_some_iff.1 hbx3).1
 have hb04:=hb03.trans (hb4.mono hb03.size)
 have hbx4:=(hb4.block g hgs).trans hbx3
 have hown4:=hown3.kept (zbt hb4 none) (by rcases hu:u0.ownBlock with _|b <;> simp)
 replace S:Jf 17 [(9,.func (.func 70) #[] #[.pointer (some ⟨bl,0,none⟩)]),(3,.pointer (some ⟨g,0,none⟩)),(0,.slice A l.length c)] [] a:=S.keep [9,3,0] rfl
 have hI0:TurI V g bl A c l 0 W4:=⟨hl4,hb04,u0,hbx4,by simpa[zfL]using hown4⟩
 have hblt:bl<W4.heap.size:=(Array.getElem?_eq_some_iff.1 hl4).1
 have hown:OwnFrom W4.heap.size (TurI V g bl A c l):=TurI.own hb04.size (by omega) hblt
 have hcs:∀s W,TurI V g bl A c l s W→ztK bl A c l W:=fun s W h=>⟨h.src,(hR.below h.below).more h.below.size⟩
 clear hbx4 hown4 hl4 hbx3 hown3
 refine wpIn_block (zcc rfl (by omega) (gf:=70) (lb:= #[.pointer (some ⟨bl,0,none⟩)]) (S.get rfl) trivial (enters_of Tryz.func70 (by kernel_rfl) rfl)
  (fun _=>rfl) (TurI V g bl A c l) (fun _ _ _=>False) hown (fun _ _ _ _ _ h _ _=>h) hI0
  (zez hl _ hcs)
  (fun s x a W=>∃gx,Jf 17 [(4,.pointer (some ⟨gx,0,none⟩)),(3,.pointer (some ⟨g,0,none⟩))] [] a∧W.heap[gx]?=some (.cells (za4 x).toArray 62 (0,0))∧TurI V g bl A c l s W)
  ?own2 ?assign ?body ?done ?stop)
 case own2=>
  rintro s x a _ W W' row ⟨gx,h1,h3,h4⟩ hgr hr
  refine⟨gx,h1,(hgr.block gx (Array.getElem?_eq_some_iff.1 h3).1 ?_).trans h3,hown s W W' row h4 hgr hr⟩
  rintro e
  obtain⟨-,o,ho,hc⟩:=hr gx e.symm
  rw[h3]at ho
  cases ho
  cases hc
 case stop=>
  rintro D c s W _ _ h _
  exact h.elim
 case assign=>
  rintro lp s x W hI -
  have X0:=S.put (.agg (za4 x).toArray) (t:=10) (by decide) rfl
  have X:Jf 17 [(10,.agg (za4 x).toArray),(3,.pointer (some ⟨g,0,none⟩))] [] { tmps:=((#[10]:Array Tmp).zip #[.agg (za4 x).toArray]).foldl (fun t p=>t.setIfInBounds p.1 p.2) a.tmps,defers:=[] }:=by
   have e:((#[10]:Array Tmp).zip #[.agg (za4 x).toArray]).foldl (fun t p=>t.setIfInBounds p.1 p.2) a.tmps=(a.put (some 10) (.agg (za4 x).toArray)).tmps:=by simp[Act.put]
   rw[e]
   exact⟨X0.size,rfl,fun p hp=>X0.slots p (by
    rcases List.mem_cons.1 hp with rfl|hp
    ·exact List.mem_cons_self
    ·rw[List.mem_singleton.1 hp];simp[zdD])⟩
  refine wpIn_region_lit ?_
  refine zal (F:=Fence.wide.inRound lp) (fun _=>trivial) X (V':=W.alloc (.cells zgA.toArray 62)) (zay rfl (Tryz.zeroValue62 _) rfl) rfl rfl rfl (by decide) rfl (fun a X=>?_)
  have hbw:(W.alloc (.cells zgA.toArray 62)).heap[W.heap.size]?=some (.cells zgA.toArray 62 (0,0)):=World.alloc_heap_new _ _
  have hSw:=zbW (o:=0) (vs:=za4 x) hbw rfl (zeA x)
  refine zco (F:=Fence.wide.inRound lp) (fun _=>trivial) X (V':=(W.alloc (.cells zgA.toArray 62)).setCells W.heap.size 0 (za4 x)) (zaw (m:=18) rfl (X.get rfl) (X.get rfl) zeU rfl zu1 (fun j hj=>?_)) rfl rfl rfl (fun a X=>?_)
  ·constructor
   ·rw[cell_of_row _ W.heap.size j _ _ (0,0) hbw,List.getElem?_toArray,List.getElem?_eq_getElem (show j<zgA.length from hj)];rfl
   ·exact zgJ hbw
  have hbel:Below W.heap.size W ((W.alloc (.cells zgA.toArray 62)).setCells W.heap.size 0 (za4 x)):=(zu2.alloc zu1 _).trans (hSw.below zu1)
  have hgw:=zbt hbel none
  exact⟨hgw,W.heap.size,X.keep [4,3] rfl,hSw.cells hbw,hown s W _ none hI hgw (fun r e=>by cases e)⟩
 case body=>
  rintro lp s x a W ⟨gx,X,hbw,hI⟩ ⟨hsc,rfl⟩
  obtain⟨u,hbu,hownu⟩:=hI.row
  obtain⟨m1,m2,m3⟩:=zjE hsc
  have hRW:PRds W W.heap.size A l:=(hcs _ _ hI).2
  have hTW:=T.keep hI.below
  refine wpIn_block (zdV 4 [11,12,13,14] (fun i v V'=>match i with
   |0=>v=u
   |1=>v= .agg (za4 (zbH l s)).toArray
   |2=>v= .int .i64 (zag (czC (zbH l s)) 0)
   |_=>IL1 (zag (czC (zbH l s)) 0) v V') (fun V'=>Below W.heap.size W V') (by kernel_rfl) (by kernel_rfl) (by kernel_rfl) rfl (by decide) (fun t ht=>by rw[X.size];revert t;decide) zu2.drew ?_ ?_ ?_)
  ·intro i v V1 V2 hf hb _
   match i,hf with
   |0,hf=>exact hf
   |1,hf=>exact hf
   |2,hf=>exact hf
   |_+3,hf=>exact IL1.keep hf hb
  ·intro i t ht a V' hC hF hd'
   have Y:=X.frame hF rfl
   have k:∀ {b:Nat} {o:Obj},W.heap[b]?=some o→V'.heap[b]?=some o:=fun {b o} ho=>(hC.block b (Array.getElem?_eq_some_iff.1 ho).1).trans ho
   match i,ht with
   |0,ht=>cases ht;exact zdl rfl rfl rfl rfl (zar rfl (Y.get rfl) (k hbu) (Tryz.isAgg36 _) rfl) zu2 hC rfl
   |1,ht=>cases ht;exact zdl rfl rfl rfl rfl (zak rfl (Y.get rfl) (k hbw) Tryz.underlying62 rfl (vs:=za4 (zbH l s)) zeU rfl) zu2 hC rfl
   |2,ht=>
    cases ht
    have hRV:PRds V' V'.heap.size A l:=(hRW.below hC).more hC.size
    exact zmC rfl rfl rfl rfl (zc3 ⟨_,rfl⟩ (hd' 1 12 rfl (by kernel_rfl)) (enters_of Tryz.func43 (by kernel_rfl) rfl))
     (zkZ (hTW.keep hC) (hRV.mem m1) (hRV.mem m2) (hRV.mem m3) (hK _ m1) (hK _ m2) (hK _ m3) hK4 (hS _ m1 _ m2) (hS _ m1 _ m3)) (fun V2 hb=>hC.trans (hb.mono hC.size))
   |3,ht=>
    cases ht
    exact ztL rfl rfl rfl rfl (zm0 rfl (hd' 2 13 rfl (by kernel_rfl))) (fun V2 hb=>hC.trans (hb.mono hC.size))
   |k+4,ht=>simp at ht
  ·intro a V2 hC hF hf
   have Y:=X.frame hF rfl
   have f0:a.tmps.getD 11 undef=u:=hf 0 11 rfl
   obtain⟨gl,hgl,hgc⟩:=(hf 3 14 rfl:IL1 _ (a.tmps.getD 14 undef) V2)
   have hown2:=hownu.kept (zbt hC none) (by rcases hu:u.ownBlock with _|b <;> simp)
   have hle:((zck l).take s).length≤1000:=by rw[List.length_take];omega
   have hbs:=hI.below.trans (hC.mono hI.below.size)
   have hbu2:=(hC.block g (Array.getElem?_eq_some_iff.1 hbu).1).trans hbu
   obtain⟨v',W',hrun,hown3,hgr3,hb3⟩:=zm1 hown2 hbs.size hle hgc 36
   refine zal (fun _=>trivial) Y (zgb rfl f0 hgl hrun) rfl rfl rfl (by decide) rfl (fun a Y=>?_)
   have hbu3:=zcM hown2 hgr3 hbu2 zjF
   obtain⟨A',n',c',hv'⟩:=zeE hown3
   have hSn:=zbW (o:=0) (vs:=[v']) hbu3 (by obtain⟨A2,n2,c2,rfl⟩:=zeE hown2;rfl) (by subst hv';rfl)
   have hng:=zfM hown3 hbu3 zjF
   refine zco (fun _=>trivial) Y (V':=W'.setCells g 0 [v']) (zcR (m:=1) rfl (Y.get rfl) (Y.get rfl) (by go_simp) (by subst hv';rfl) (by subst hv';rfl) zu1 (fun j hj=>?_)) rfl rfl rfl (fun a Y=>?_)
   ·obtain rfl:j=0:=by omega
    constructor
    ·rw[cell_of_row W' g 0 _ _ (0,0) hbu3];rfl
    ·simp[World.frozen?,hbu3]
   ·have hg4:g<W4.heap.size:=by omega
    have hbl2:=(hC.block bl (Array.getElem?_eq_some_iff.1 hI.src).1).trans hI.src
    have hpt:30≠3:=by decide
    have hgbl:g≠bl:=by omega
    refine⟨((KeepsFrom.of_grownBy (zbt hC none) (fun j e=>by cases e)).trans (zcX hgr3 (zdA hown2))).trans (KeepsFrom.of_grownBy hSn.grown (fun j e=>by cases e;exact hg4)),(hSn.other (Ne.symm hgbl)).trans (zcM hown2 hgr3 hbl2 hpt),(hbs.trans hb3).trans (hSn.below hVg),v',hSn.cells hbu3,?_⟩
    rw[zhD hsc]
    exact hown3.kept hSn.grown hng
 case done=>
  rintro D s W hD rfl hI hDd
  simp only[Exit.inBlock,Exit.then]
  obtain⟨u,hbu,hownu⟩:=hI.row
  rw[←htl,List.take_length]at hownu
  have X:Jf 17 [(9,.func (.func 70) #[] #[.pointer (some ⟨bl,0,none⟩)]),(3,.pointer (some ⟨g,0,none⟩)),(0,.slice A l.length c)] [mkD D] { a with defers:= { target:= .collected D,args:= #[] }::a.defers }:=⟨S.size,by simp[S.defers],S.slots⟩
  refine wpIn_seq (wpIn_region_lit ?_)
  refine zal (fun _=>trivial) X (v:=u) (zar rfl (X.get rfl) hbu (Tryz.isAgg36 _) rfl) rfl rfl rfl (by decide) rfl (fun a X=>?_)
  refine zal (fun _=>trivial) X (zac rfl (X.get rfl)) rfl rfl rfl (by decide) rfl (fun a X=>?_)
  refine wpIn_ret ?_
  show LeavesInM _ _ _ _ a.tmps _ a.defers _ _
  rw[X.defers]
  have hr2:a.tmps.getD 2 undef=u:=X.get rfl
  have hir:=zkY hownu (by rw[htl];omega)
  refine zda (fun W=>Below V.heap.size V W∧IRow (zck l) u W) ?_ [D] _ (by simp) (by simpa using hDd) ⟨hI.below,hir⟩ ?_
  ·rintro W ⟨h1,h2⟩
   exact⟨_,results_tmp rfl _ _ _,u,by rw[←hr2],h2,h1⟩
  ·rintro r hr W ⟨h1,h2⟩ hd
   obtain rfl:r=D:=by simpa using hr
   have hgr:=grownBy_putObj' W r (.deferred none)
   refine⟨h1.grown hgr h1.size (fun r' e=>by cases e;omega),?_⟩
   obtain⟨A',c',h3,h4,h5⟩:=h2
   refine⟨A',c',h3,h4,fun k hk=>?_⟩
   obtain⟨ad,e,h6,h7⟩:=h5 k hk
   exact⟨ad,e,zu4 h6 hgr.size,cell_kept h7 hgr (fun r' e=>by cases e;exact⟨_,hd,rfl⟩)⟩
end
section
variable {n:Nat}{ls:List (Tmp × Value)}{lb:List Bx}{w V V0:World}{e:List Num}{a:Act}
theorem Frm.get (S:Frm n ls lb w e a V){t:Tmp}{v:Value}(h:ls.find? (fun p=>p.1==t)=some (t,v)):a.tmps.getD t undef=v:=S.slots _ (List.mem_of_find?_eq_some h)
theorem Frm.older (S:Frm n ls [] V e a V)(hb:Below V0.heap.size V0 V){g:Nat}{T:TypeId}{cs:List Value}(hg:V0.heap.size≤g)(hrow:V.heap[g]?=some (.cells cs.toArray T (0,0)))(hn:cs.all za1=true):Frm n ls [⟨g,T,cs⟩] V0 e a V:=
 ⟨S.size,S.defers,S.slots,⟨fun b hb2=>by rw[List.mem_singleton.1 hb2];exact⟨hg,hrow,hn⟩,List.pairwise_singleton _ _⟩,⟨hb,S.env.2⟩⟩
end
theorem zmd (p:PEl):∀u∈zaD p,u.oneCell'=true:=fun u hu=>by
 simp only[zaD,List.mem_cons,List.not_mem_nil,or_false]at hu
 rcases hu with rfl|rfl|rfl|rfl|rfl|rfl <;> rfl
theorem ziC (l:List PEl):∀u∈zaK l,u.oneCell'=true:=fun u hu=>by
 obtain⟨c,hc,hu⟩:=List.mem_flatten.1 hu
 obtain⟨p,-,rfl⟩:=List.mem_map.1 hc
 exact zmd p u hu
theorem zeB {rs:List PEl}{k:Nat}{p:PEl}(h:rs[k]?=some p):((zaK rs).drop (k*6)).take (zaD p).length=zaD p:=by
 obtain⟨hk,rfl⟩:=List.getElem?_eq_some_iff.1 h
 have e:rs=rs.take k++rs[k]::rs.drop (k+1):=by rw[List.getElem_cons_drop,List.take_append_drop]
 obtain⟨x,hx⟩:∃x,rs[k]=x:=⟨_,rfl⟩
 rw[hx]at e ⊢
 have hl:(zaK (rs.take k)).length=k*6:=by rw[zcr,List.length_take];congr 1;omega
 rw[e,zdi,←hl,List.drop_left,zea,List.take_left]
theorem ziD {rs:List PEl}{k:Nat}(hk:k<rs.length)(x:PEl):zbz (zaK rs) (k*6) (zaD x)=zaK (rs.set k x):=by
 have e:rs=rs.take k++rs[k]::rs.drop (k+1):=by rw[List.getElem_cons_drop,List.take_append_drop]
 have h:=zoR (rs.take k) (rs.drop (k+1)) x rs[k]
 rw[←e,List.length_take,Nat.min_eq_left (by omega)]at h
 rw[h,List.set_eq_take_append_cons_drop,if_pos hk]
 simp
section
variable {V:World}{a:Act}{o:Oper}{t1 t2:Tmp}{g n c k off:Nat}
theorem zgU (hk:k<n)(ho:o.op= .indexAddr 30 (.tmp t1) (.tmp t2)) (h1:a.tmps.getD t1 undef= .slice (some ⟨g,off*6,none⟩) n c) (h2:a.tmps.getD t2 undef= .int .i64 (k:Nat)):
  (execOp a.eval o).run Tryz.prog V= .ok (.value (.pointer (some ⟨g,(off+k)*6,none⟩))) V:=by
 have hA:∃ad:Addr,(some (⟨g,off*6,none⟩:Addr))=some ad:=⟨_,rfl⟩
 have h:=zcq (V:=V) hA hk ho h1 h2
 rw[h]
 show Result.ok (Next.value (.pointer (some ((⟨g,off*6,none⟩:Addr).add (k*6))))) V=_
 rw[Addr.add_lit,Nat.add_mul]
theorem zhE (hk:k<n)(ho:o.op= .indexAddr 30 (.tmp t1) (.tmp t2)) (h1:a.tmps.getD t1 undef= .slice (some ⟨g,0,none⟩) n c) (h2:a.tmps.getD t2 undef= .int .i64 (k:Nat)):
  (execOp a.eval o).run Tryz.prog V= .ok (.value (.pointer (some ⟨g,k*6,none⟩))) V:=by
 have h:=zgU (V:=V) (off:=0) hk ho (by rw[Nat.zero_mul];exact h1) h2
 rwa [Nat.zero_add]at h
theorem zqS (hk:k<n)(hc:n≤c)(ho:o.op= .slice 30 (.tmp t1) (some (.tmp t2)) none none) (h1:a.tmps.getD t1 undef= .slice (some ⟨g,0,none⟩) n c) (h2:a.tmps.getD t2 undef= .int .i64 (k:Nat)):
  (execOp a.eval o).run Tryz.prog V= .ok (.value (.slice (some ⟨g,k*6,none⟩) (n - k) (c - k))) V:=by
 have h5: ¬c=k:=by omega
 have h8:k≤n:=by omega
 rw[zaf]at h1 h2
 obtain⟨dst,op,ty,pos,after,guard⟩:=o
 simp only at ho
 subst ho
 simp[execOp,h1,h2,Instr.slice,Instr.sliceBounds,Instr.sliceBound,asIntOf,go_sem,h5,h8,Addr.add_lit]
theorem ztM (hk:k≤c)(ho:o.op= .slice 30 (.tmp t1) none (some (.tmp t2)) none) (h1:a.tmps.getD t1 undef= .slice (some ⟨g,0,none⟩) n c) (h2:a.tmps.getD t2 undef= .int .i64 (k:Nat)):
  (execOp a.eval o).run Tryz.prog V= .ok (.value (.slice (some ⟨g,0,none⟩) k c)) V:=by
 rw[zaf]at h1 h2
 obtain⟨dst,op,ty,pos,after,guard⟩:=o
 simp only at ho
 subst ho
 simp[execOp,h1,h2,Instr.slice,Instr.sliceBounds,Instr.sliceBound,asIntOf,go_sem,hk]
theorem zqT (hn:0<n)(ho:o.op= .call { callee:= .builtin .clear,args:= #[.tmp t1],argTypes:= #[30] }) (h1:a.tmps.getD t1 undef= .slice (some ⟨g,k*6,none⟩) n c)
  (hc:∀j,j<(k+n)*6→(V.cell? ⟨g,j,none⟩).isSome=true∧V.frozen? ⟨g,j,none⟩=false):
  (execOp a.eval o).run Tryz.prog V= .ok (.value (.tuple #[])) (V.setCells g (k*6) (zaK (List.replicate n z6))):=by
 have hl:(zaK (List.replicate n z6)).length=n*6:=by rw[zcr,List.length_replicate]
 have hst:=run_storeCells_cells (P:=Tryz.prog) g (k*6) (zaK (List.replicate n z6)) 0 V (fun j hj=>(hc _ (by rw[hl]at hj;omega)).1) (fun j hj=>(hc _ (by rw[hl]at hj;omega)).2) (ziC _)
 simp only[Nat.add_zero]at hst
 have hz:=zsH n
 rw[zaf]at h1
 obtain⟨dst,op,ty,pos,after,guard⟩:=o
 simp only at ho
 subst ho
 obtain⟨m,rfl⟩:∃m,n=m+1:=⟨n - 1,by omega⟩
 simp[h1,Builtin.clear_,go_sem,Value.cells,hz,hst,Result.andThen]
theorem zqU {m:Nat}{ls:List (Tmp×Value)}{lb:List Bx}{w:World}{e:List Num}{ops:Array Oper}{Q:Exit→Act→World→Prop}{rest:List Oper}{P:Program}{T:TypeId}{cs vs:List Value}{v:Value}(S:Frm m ls lb w e a V)(hi:lb[0]?=some ⟨g,T,cs⟩)(hr:(∀j,j<cs.length→(V.cell? ⟨g,j,none⟩).isSome=true∧V.frozen? ⟨g,j,none⟩=false)→(execOp a.eval o).run P V= .ok (.value v) (V.setCells g off vs))
  (hlen:off+vs.length≤cs.length) (hn:vs.all za1=true) {lb':List Bx} (hlb:lb.set 0 ⟨g,T,zbz cs off vs⟩=lb')
  (k:∀a V',Frm m ls lb' w e a V'→wpList P ops Q rest a V') (hg:o.guard=none:=by exact rfl) (hd:o.dst=none:=by exact rfl):wpList P ops Q (o::rest) a V:=by
 have hb:=S.bx 0 hi
 have hr':=hr (fun j hj=>by
  constructor
  ·rw[cell_of_row V g j cs.toArray T (0,0) hb];simp[hj]
  ·simp[World.frozen?,hb])
 subst hlb
 exact zlQ (K:=fun a' V2=>a'=a.put none v∧V2=V.setCells g off vs) (by simp[Oper.wp,hr',Oper.upon,hd]) hg (by rintro a' V2 ⟨rfl,rfl⟩;exact k _ _ (Frm.stores vs _ _ g 0 off T cs S hi hlen hn))
end
structure Cps (ps ps':List PEl):Prop where
 mem:∀x,x∈ps.map pv↔x∈ps'.map pv
 ne:∀i (h:i+1<ps'.length),pv ps'[i]≠pv ps'[i+1]
 sub:∀p∈ps',p∈ps
theorem Cps.self {ps:List PEl}(h:∀i (h:i+1<ps.length),pv ps[i]≠pv ps[i+1]):Cps ps ps:=⟨fun _=>Iff.rfl,h,fun _ hp=>hp⟩
structure Cpi (ps rs:List PEl) (K j:Nat):Prop where
 le:K≤j
 jl:j<ps.length
 lo:1≤K
 len:rs.length=ps.length
 rest:∀i (h:i<ps.length) (h':i<rs.length),K≤i→rs[i]=ps[i]
 cps:Cps (ps.take (j+1)) (rs.take K)
 last:∀(h:K - 1<rs.length),pv rs[K - 1]=pv ps[j]
section
variable {ps rs:List PEl}{K j:Nat}
theorem zfm {α:Type}{l:List α}{k:Nat}(h:k<l.length):l.take (k+1)=l.take k++[l[k]]:=List.take_succ_eq_append_getElem h
theorem Cpi.start (hK:1≤K)(hl:K<ps.length)(hne:∀i (h:i+1<ps.length),i+1<K→pv ps[i]≠pv ps[i+1])(he:pv ps[K]=pv (ps[K - 1]'(by omega))):Cpi ps ps K K:=by
 refine⟨Nat.le_refl _,hl,hK,rfl,fun _ _ _ _=>rfl,⟨fun x=>?_,fun i h=>?_,fun p hp=>List.mem_of_mem_take (i:=K) (by rw[List.take_take];rwa [Nat.min_eq_left (by omega)])⟩,fun _=>he.symm⟩
 ·rw[zfm hl,List.map_append,List.mem_append]
  constructor
  ·rintro(h|h)
   ·exact h
   ·rw[List.map_singleton,List.mem_singleton]at h
    rw[h,he]
    refine List.mem_map.2 ⟨_,List.mem_iff_getElem.2 ⟨K - 1,by rw[List.length_take];omega,List.getElem_take⟩,rfl⟩
  ·exact .inl
 ·rw[List.length_take]at h
  rw[List.getElem_take,List.getElem_take]
  exact hne i (by omega) (by omega)
theorem Cpi.skip (h:Cpi ps rs K j)(hj:j+1<ps.length)(he:pv ps[j+1]=pv (ps[j]'(by omega))):Cpi ps rs K (j+1):=by
 refine⟨Nat.le_succ_of_le h.le,hj,h.lo,h.len,h.rest,⟨fun x=>?_,h.cps.ne,fun p hp=>List.mem_of_mem_take (i:=j+1) (by rw[List.take_take,Nat.min_eq_left (by omega)];exact h.cps.sub p hp)⟩,fun h'=>(h.last h').trans he.symm⟩
 rw[zfm hj,List.map_append,List.mem_append,←h.cps.mem x]
 refine⟨fun h'=>?_,.inl⟩
 rcases h' with h'|h'
 ·exact h'
 ·rw[List.map_singleton,List.mem_singleton]at h'
  rw[h',he]
  exact List.mem_map.2 ⟨_,List.mem_iff_getElem.2 ⟨j,by rw[List.length_take];omega,List.getElem_take⟩,rfl⟩
theorem Cpi.put (h:Cpi ps rs K j)(hj:j+1<ps.length)(he:pv ps[j+1]≠pv (ps[j]'(by omega))):Cpi ps (rs.set K ps[j+1]) (K+1) (j+1):=by
 have hle:=h.le
 have hlo:=h.lo
 have hlen:=h.len
 have hK:K<rs.length:=by omega
 have e1:(rs.set K ps[j+1]).take (K+1)=rs.take K++[ps[j+1]]:=by
  rw[List.take_succ_eq_append_getElem (by rw[List.length_set];exact hK),List.take_set_of_le zu1,List.getElem_set_self]
 refine⟨by omega,hj,by omega,by rw[List.length_set];exact h.len,fun i h1 h2 h3=>?_,⟨fun x=>?_,fun i hi=>?_,fun p hp=>?_⟩,fun h'=>?_⟩
 ·rw[List.getElem_set_ne (by omega)]
  exact h.rest i h1 (by rw[List.length_set]at h2;exact h2) (by omega)
 ·rw[e1,zfm hj,List.map_append,List.map_append,List.mem_append,List.mem_append,h.cps.mem x]
 ·have hi':i<K:=by rw[e1,List.length_append,List.length_take,List.length_singleton]at hi;omega
  simp only[e1]
  rcases zu7 (i+1) K with h4|h4
  ·have l1:i<(rs.take K).length:=by rw[List.length_take];omega
   have l2:i+1<(rs.take K).length:=by rw[List.length_take];omega
   rw[List.getElem_append_left l1,List.getElem_append_left l2]
   exact h.cps.ne i l2
  ·obtain rfl:i=K - 1:=by omega
   have l1:K - 1<(rs.take K).length:=by rw[List.length_take];omega
   have l2:(rs.take K).length≤K - 1+1:=by rw[List.length_take];omega
   rw[List.getElem_append_left l1,List.getElem_append_right l2]
   have e2:K - 1+1 - (rs.take K).length=0:=by rw[List.length_take];omega
   simp only[e2,List.getElem_singleton,List.getElem_take]
   rw[h.last (by omega)]
   exact Ne.symm he
 ·rw[e1]at hp
  rcases List.mem_append.1 hp with h4|h4
  ·exact List.mem_of_mem_take (i:=j+1) (by rw[List.take_take,Nat.min_eq_left (by omega)];exact h.cps.sub p h4)
  ·rw[List.mem_singleton.1 h4]
   exact List.mem_iff_getElem.2 ⟨j+1,by rw[List.length_take];omega,List.getElem_take⟩
 ·simp only[Nat.add_sub_cancel,List.getElem_set_self]
theorem Cpi.done (h:Cpi ps rs K j)(hj:j+1=ps.length):Cps ps (rs.take K):=by
 have:=h.cps
 rwa [hj,List.take_length]at this
end
theorem ziE {K:Nat}{p q:PEl}{V:World}(T:TT V)(o1:okP V p)(o2:okP V q)(k1:zbX K p)(k2:zbX K q)(hK:K≤400):
  Calls Tryz.prog 48 #[.agg (zaD p).toArray,.agg (zaD q).toArray] V (zaj V fun v _=>v= .bool (decide (pv p=pv q))):=by
 obtain⟨b1,x1,y1,d1,z1,w1⟩:=p
 obtain⟨b2,x2,y2,d2,z2,w2⟩:=q
 refine zbA (zuK (K:=K) (K':=K) T ⟨b1,x1,y1,d1,z1,w1,rfl,rfl,rfl,k1.1,k1.2,o1⟩ ⟨b2,x2,y2,d2,z2,w2,rfl,rfl,rfl,k2.1,k2.2,o2⟩ hK hK) (fun v V2 h=>?_)
 rw[h]
 refine congrArg Value.bool (decide_eq_decide.2 ?_)
 rw[zk9]
 exact⟨fun h=>Prod.ext h.1 h.2,fun h=>⟨congrArg Prod.fst h,congrArg Prod.snd h⟩⟩
theorem zdr {w V:World}{ps:List PEl}(h:Env w (ze8 ps) V){p:PEl}(hp:p∈ps):okP V p:=by
 obtain⟨⟨h1,h2⟩,h3,h4⟩:=zoQ hp
 exact⟨⟨h.2 _ h1,h.2 _ h2⟩,h.2 _ h3,h.2 _ h4⟩
theorem zoA {V:World}{ps:List PEl}(h:∀p∈ps,okP V p):∀z∈ze8 ps,z.ok V V.heap.size:=fun z hz=>by
 obtain⟨l,hl,hz⟩:=List.mem_flatten.1 hz
 obtain⟨p,hp,rfl⟩:=List.mem_map.1 hl
 obtain⟨⟨h1,h2⟩,h3,h4⟩:=h p (List.mem_reverse.1 hp)
 simp only[List.mem_cons,List.not_mem_nil,or_false]at hz
 rcases hz with rfl|rfl|rfl|rfl
 ·exact h1
 ·exact h2
 ·exact h3
 ·exact h4
theorem ziF:∀(vs ws cs:List Value) (o:Nat),zbz cs o (vs++ws)=zbz (zbz cs o vs) (o+vs.length) ws
 |[],_,_,_=>rfl
 |v::vs,ws,cs,o=>by
  show zbz (cs.set o v) (o+1) (vs++ws)=_
  rw[ziF vs ws]
  show _=zbz (zbz (cs.set o v) (o+1) vs) _ ws
  rw[List.length_cons,show o+1+vs.length=o+(vs.length+1) by omega]
theorem zoB (cs:List Value)(o:Nat):zbz cs o []=cs:=rfl
theorem zme {rs xs:List PEl}{k:Nat}(h:k+xs.length≤rs.length):zbz (zaK rs) (k*6) (zaK xs)=zaK (rs.take k++(xs++rs.drop (k+xs.length))):=by
 induction xs generalizing rs k with
 |nil=>simp[zaK,zoB]
 |cons x xs ih=>
  rw[List.length_cons]at h
  rw[zea,ziF,ziD (by omega),show k*6+(zaD x).length=(k+1)*6 by show k*6+6=_;omega,ih (by rw[List.length_set];omega)]
  have e1:(rs.set k x).take (k+1)=rs.take k++[x]:=by
   rw[List.take_succ_eq_append_getElem (by rw[List.length_set];omega),List.take_set_of_le zu1,List.getElem_set_self]
  rw[e1,List.drop_set_of_lt (by omega),List.length_cons,show k+1+xs.length=k+(xs.length+1) by omega]
  simp
abbrev ze6:Value:= .func (.func 48) #[] #[]
theorem zm3:∀args w,(callFunc 48 args).run Tryz.prog w= .ok (.enter 48 args) w:=enters_of Tryz.func48 (by kernel_rfl) rfl
theorem zk0 {K:Nat}{V0 V:World}{g m:Nat}{ps:List PEl}(T:TT V0)(hb:Below V0.heap.size V0 V)(hg:V0.heap.size≤g)(hrow:V.heap[g]?=some (.cells (zaK (ps++List.replicate m z6)).toArray 29 (0,0))) (hok:∀p∈ps,okP V p) (hK:∀p∈ps,zbX K p) (hKb:K≤400) (hl:ps.length≤1000):
  Calls Tryz.prog 46 #[.slice (some ⟨g,0,none⟩) ps.length (ps.length+m),ze6] V (fun en V'=>∃(ps' rest:List PEl),en= .returned (.slice (some ⟨g,0,none⟩) ps'.length (ps.length+m))∧Below V0.heap.size V0 V'∧V'.heap[g]?=some (.cells (zaK (ps'++rest)).toArray 29 (0,0))∧Cps ps ps'∧ps'.length≤ps.length∧∀p∈ps',okP V' p):=by
 obtain⟨c,hc⟩:∃c,ps.length+m=c:=⟨_,rfl⟩
 rw[hc]
 refine zho (e:=ze8 ps) Tryz.func46 rfl Tryz.ntmps46 (zu0 rfl) [(0,.slice (some ⟨g,0,none⟩) ps.length c),(1,ze6)] rfl (zoA hok) (fun a S=>?_)
 replace S:=S.older hb hg hrow (zeb _)
 refine wsp fun K1 hK1=>?_
 refine ac S fun a S=>?_
 refine hK1 _ _ ?_
 refine wp_seq_k fun K2 hK2=>?_
 refine wsp fun K3 hK3=>?_
 refine tv S (zab rfl (S.get rfl)) fun a S=>?_
 refine tv S (zbf rfl (S.get rfl)) fun a S=>?_
 refine tv S (zb7 rfl (S.get rfl) rfl) fun a S=>?_
 refine hK3 _ _ ?_
 rcases zva (decide (((ps.length:Nat):Int)<2))with h2|h2
 ·refine wp_cond_true ((S.get rfl).trans (congrArg Value.bool h2)) ?_
  have hl2:ps.length<2:=by have:=of_decide_eq_true h2;omega
  refine wsp fun K4 hK4=>?_
  refine tv S (zab rfl (S.get rfl)) fun a S=>?_
  refine zav S (zac rfl (S.get rfl)) rfl rfl (by decide) rfl (fun a S=>?_)
  refine hK4 _ _ ?_
  refine wp_ret ?_
  simp only[Exit.then]
  exact zao rfl S (S.at 0 rfl) ⟨ps,_,rfl,S.below,S.bx 0 rfl,Cps.self (fun i h=>by omega),Nat.le_refl _,fun p hp=>zdr S.env hp⟩
 ·refine wp_cond_false ((S.get rfl).trans (congrArg Value.bool h2)) ?_
  have hl2:2≤ps.length:=by have:=of_decide_eq_false h2;omega
  refine wp_skip ?_
  refine hK2 _ _ ?_
  refine wp_seq_k fun K4 hK4=>?_
  refine wp_seq_k fun K5 hK5=>?_
  have S:=S.keep [0,1] rfl
  refine zam ?_
  refine ac S fun a S=>?_
  refine hK5 _ _ ?_
  refine wp_block ?_
  refine wp_loop (fun aI VI=>∃k:Nat,(1≤k∧k≤ps.length∧∀i (h:i+1<ps.length),i+1<k→pv ps[i]≠pv ps[i+1])∧Frm 66 [(5,.int .i64 ((k:Nat):Int)),(0,.slice (some ⟨g,0,none⟩) ps.length c),(1,ze6)] [⟨g,29,zaK (ps++List.replicate m z6)⟩] V0 (ze8 ps) aI VI)
   (fun aI _=>ps.length - (intOf (aI.tmps.getD 5 undef)).toNat) ⟨1,⟨Nat.le_refl _,by omega,fun i _ h=>by omega⟩,S⟩ ?_
  rintro a1 V2 ⟨k,⟨hk1,hkl,hne⟩,S⟩
  have hm0:a1.tmps.getD 5 undef= .int .i64 ((k:Nat):Int):=S.at 0 rfl
  refine wp_seq_k fun K6 hK6=>?_
  refine wsp fun K7 hK7=>?_
  refine tv S (zab rfl (S.get rfl)) fun a S=>?_
  refine tv S (zab rfl (S.get rfl)) fun a S=>?_
  refine tv S (zbf rfl (S.get rfl)) fun a S=>?_
  refine tv S (zb7 rfl (S.get rfl) (S.get rfl)) fun a S=>?_
  refine hK7 _ _ ?_
  have hfl:∀rs:List PEl,rs.length=ps.length→(zaK (rs++List.replicate m z6)).length=c*6:=fun rs hrs=>by rw[zcr,List.length_append,List.length_replicate,hrs,hc]
  rcases zva (decide (((k:Nat):Int)<((ps.length:Nat):Int)))with hlt|hlt
  ·refine wp_cond_true ((S.get rfl).trans (congrArg Value.bool hlt)) ?_
   have hkn:k<ps.length:=by have:=of_decide_eq_true hlt;omega
   have hm1:k - 1<ps.length:=by omega
   refine wp_skip ?_
   refine hK6 _ _ ?_
   refine wp_seq_k fun K8 hK8=>?_
   refine wp_block ?_
   refine wp_seq_k fun K9 hK9=>?_
   have S:=S.keep [5,0,1] rfl
   have e1:(ps++List.replicate m z6)[k]?=some ps[k]:=by rw[List.getElem?_append_left hkn,List.getElem?_eq_getElem hkn]
   have e2:(ps++List.replicate m z6)[k - 1]?=some ps[k - 1]:=by rw[List.getElem?_append_left hm1,List.getElem?_eq_getElem hm1]
   refine fr 11 [18,19,20,21,22,23,24,25,26,27,28] [IsV ze6,IsV (.slice (some ⟨g,0,none⟩) ps.length c),IsV (.int .i64 ((k:Nat):Int)),IsV (.pointer (some ⟨g,k*6,none⟩)),IsV (.agg (zaD ps[k]).toArray),IsV (.slice (some ⟨g,0,none⟩) ps.length c),IsV (.int .i64 ((k:Nat):Int)),IsV (.int .i64 ((k - 1:Nat):Int)),IsV (.pointer (some ⟨g,(k - 1)*6,none⟩)),IsV (.agg (zaD ps[k - 1]).toArray),IsV (.bool (decide (pv ps[k]=pv ps[k - 1])))] S ?_ ?_
   ·refine sc (fun _ _ S _ _=>sv rfl (zab rfl (S.get rfl))) ?_
    refine sc (fun _ _ S _ _=>sv rfl (zab rfl (S.get rfl))) ?_
    refine sc (fun _ _ S _ _=>sv rfl (zab rfl (S.get rfl))) ?_
    refine sc (fun _ _ _ _ hd=>sv rfl (zhE hkn rfl (hd.v 1 rfl rfl) (hd.v 2 rfl rfl))) ?_
    refine sc (fun _ _ S _ hd=>sv rfl (zak rfl (hd.v 3 rfl rfl) (S.bx 0 rfl) Tryz.underlying29 rfl (vs:=zaD ps[k]) zba (zeB e1))) ?_
    refine sc (fun _ _ S _ _=>sv rfl (zab rfl (S.get rfl))) ?_
    refine sc (fun _ _ S _ _=>sv rfl (zab rfl (S.get rfl))) ?_
    refine sc (fun _ _ _ _ hd=>sv rfl (zgR (k:=k) (m:=1) hk1 rfl (hd.v 6 rfl rfl) rfl (by omega))) ?_
    refine sc (fun _ _ _ _ hd=>sv rfl (zhE hm1 rfl (hd.v 5 rfl rfl) (hd.v 7 rfl rfl))) ?_
    refine sc (fun _ _ S _ hd=>sv rfl (zak rfl (hd.v 8 rfl rfl) (S.bx 0 rfl) Tryz.underlying29 rfl (vs:=zaD ps[k - 1]) zba (zeB e2))) ?_
    refine sc (fun _ _ S _ hd=>sl rfl (zfX ⟨_,rfl⟩ (hd.v 0 rfl rfl) (hd.v 4 rfl rfl) (hd.v 9 rfl rfl) zm3) (ziE (T.keep S.below) (zdr S.env (List.getElem_mem hkn)) (zdr S.env (List.getElem_mem hm1)) (hK _ (List.getElem_mem _)) (hK _ (List.getElem_mem _)) hKb)) ?_
    exact sn
   ·intro a2 V3 S hB2 hf
    have S:=S.add (hf.v 10 rfl rfl)
    show wpList _ _ _ [] _ _
    refine hK9 _ _ ?_
    rcases zva (decide (pv ps[k]=pv ps[k - 1]))with hq|hq
    ·refine wp_cond_true ((S.at 0 rfl).trans (congrArg Value.bool hq)) ?_
     have hq':=of_decide_eq_true hq
     have S:=S.keep [5,0,1] rfl
     clear hf
     refine wsp fun K10 hK10=>?_
     refine tv S (zab rfl (S.get rfl)) fun a S=>?_
     refine tv S (zab rfl (S.get rfl)) fun a S=>?_
     refine tv S (zqS hkn (by omega) rfl (S.get rfl) (S.get rfl)) fun a S=>?_
     refine tv S (zac rfl (S.get rfl)) fun a S=>?_
     refine hK10 _ _ ?_
     have S:=S.keep [6,5,0,1] rfl
     refine wp_seq_k fun K11 hK11=>?_
     refine wsp fun K12 hK12=>?_
     refine ac S fun a S=>?_
     refine hK12 _ _ ?_
     refine wp_block ?_
     have e0:∀ {rs:List PEl} (_:rs.length=ps.length) {i:Nat} (hi:i<ps.length) (hi':i<rs.length),(rs++List.replicate m z6)[i]?=some rs[i]:=fun hr i hi hi'=>by rw[List.getElem?_append_left hi',List.getElem?_eq_getElem hi']
     refine wp_loop (fun aI VI=>∃(q Kw:Nat) (rs:List PEl),(1≤q∧Cpi ps rs Kw (k+q - 1))∧Frm 66 [(7,.int .i64 ((q:Nat):Int)),(6,.slice (some ⟨g,k*6,none⟩) (ps.length - k) (c - k)),(5,.int .i64 ((Kw:Nat):Int)),(0,.slice (some ⟨g,0,none⟩) ps.length c),(1,ze6)] [⟨g,29,zaK (rs++List.replicate m z6)⟩] V0 (ze8 ps) aI VI)
      (fun aI _=>ps.length - (intOf (aI.tmps.getD 7 undef)).toNat) ⟨1,k,ps,⟨Nat.le_refl _,by rw[Nat.add_sub_cancel];exact Cpi.start hk1 hkn hne hq'⟩,S⟩ ?_
     clear S
     rintro a4 V4 ⟨q,Kw,rs,⟨hq1,hC⟩,S⟩
     have hm4:a4.tmps.getD 7 undef= .int .i64 ((q:Nat):Int):=S.at 0 rfl
     have hrl:=hC.len
     have hKle:=hC.le
     have hKlo:=hC.lo
     have hjl:=hC.jl
     refine wp_seq_k fun K13 hK13=>?_
     refine wsp fun K14 hK14=>?_
     refine tv S (zab rfl (S.get rfl)) fun a S=>?_
     refine tv S (zab rfl (S.get rfl)) fun a S=>?_
     refine tv S (zbf rfl (S.get rfl)) fun a S=>?_
     refine tv S (zb7 rfl (S.get rfl) (S.get rfl)) fun a S=>?_
     refine hK14 _ _ ?_
     rcases zva (decide (((q:Nat):Int)<((ps.length - k:Nat):Int)))with hl4|hl4
     ·refine wp_cond_true ((S.get rfl).trans (congrArg Value.bool hl4)) ?_
      have hqn:q<ps.length - k:=by have:=of_decide_eq_true hl4;omega
      have hj1:k+q - 1+1<ps.length:=by omega
      have hi1:k+q<ps.length:=by omega
      have hi2:k+(q - 1)<ps.length:=by omega
      have hi1':k+q<rs.length:=by omega
      have hi2':k+(q - 1)<rs.length:=by omega
      have hqm:q - 1<ps.length - k:=by omega
      refine wp_skip ?_
      refine hK13 _ _ ?_
      refine wp_seq_k fun K15 hK15=>?_
      refine wp_block ?_
      refine wp_seq_k fun K16 hK16=>?_
      have S:=S.keep [7,6,5,0,1] rfl
      have g1:(rs++List.replicate m z6)[k+q]?=some ps[k+q]:=by rw[e0 hrl hi1 hi1',hC.rest _ hi1 hi1' (by omega)]
      have g2:(rs++List.replicate m z6)[k+(q - 1)]?=some ps[k+(q - 1)]:=by rw[e0 hrl hi2 hi2',hC.rest _ hi2 hi2' (by omega)]
      refine fr 12 [38,39,40,41,42,43,44,45,46,47,48,49] [IsV ze6,IsV (.slice (some ⟨g,k*6,none⟩) (ps.length - k) (c - k)),IsV (.int .i64 ((q:Nat):Int)),IsV (.pointer (some ⟨g,(k+q)*6,none⟩)),IsV (.agg (zaD ps[k+q]).toArray),IsV (.slice (some ⟨g,k*6,none⟩) (ps.length - k) (c - k)),IsV (.int .i64 ((q:Nat):Int)),IsV (.int .i64 ((q - 1:Nat):Int)),IsV (.pointer (some ⟨g,(k+(q - 1))*6,none⟩)),IsV (.agg (zaD ps[k+(q - 1)]).toArray),IsV (.bool (decide (pv ps[k+q]=pv ps[k+(q - 1)]))),IsV (.bool (!decide (pv ps[k+q]=pv ps[k+(q - 1)])))] S ?_ ?_
      ·refine sc (fun _ _ S _ _=>sv rfl (zab rfl (S.get rfl))) ?_
       refine sc (fun _ _ S _ _=>sv rfl (zab rfl (S.get rfl))) ?_
       refine sc (fun _ _ S _ _=>sv rfl (zab rfl (S.get rfl))) ?_
       refine sc (fun _ _ _ _ hd=>sv rfl (zgU hqn rfl (hd.v 1 rfl rfl) (hd.v 2 rfl rfl))) ?_
       refine sc (fun _ _ S _ hd=>sv rfl (zak rfl (hd.v 3 rfl rfl) (S.bx 0 rfl) Tryz.underlying29 rfl (vs:=zaD ps[k+q]) zba (zeB g1))) ?_
       refine sc (fun _ _ S _ _=>sv rfl (zab rfl (S.get rfl))) ?_
       refine sc (fun _ _ S _ _=>sv rfl (zab rfl (S.get rfl))) ?_
       refine sc (fun _ _ _ _ hd=>sv rfl (zgR (k:=q) (m:=1) hq1 rfl (hd.v 6 rfl rfl) rfl (by omega))) ?_
       refine sc (fun _ _ _ _ hd=>sv rfl (zgU hqm rfl (hd.v 5 rfl rfl) (hd.v 7 rfl rfl))) ?_
       refine sc (fun _ _ S _ hd=>sv rfl (zak rfl (hd.v 8 rfl rfl) (S.bx 0 rfl) Tryz.underlying29 rfl (vs:=zaD ps[k+(q - 1)]) zba (zeB g2))) ?_
       refine sc (fun _ _ S _ hd=>sl rfl (zfX ⟨_,rfl⟩ (hd.v 0 rfl rfl) (hd.v 4 rfl rfl) (hd.v 9 rfl rfl) zm3) (ziE (T.keep S.below) (zdr S.env (List.getElem_mem hi1)) (zdr S.env (List.getElem_mem hi2)) (hK _ (List.getElem_mem _)) (hK _ (List.getElem_mem _)) hKb)) ?_
       refine sc (fun _ _ _ _ hd=>sv rfl (zcz rfl (hd.v 10 rfl rfl))) ?_
       exact sn
      ·intro a5 V5 S hB5 hf
       have S:=S.add (hf.v 11 rfl rfl)
       show wpList _ _ _ [] _ _
       refine hK16 _ _ ?_
       have e4:k+(q - 1)=k+q - 1:=by omega
       have e5:k+q - 1+1=k+q:=by omega
       rcases zva (!decide (pv ps[k+q]=pv ps[k+(q - 1)]))with hw|hw
       ·refine wp_cond_true ((S.at 0 rfl).trans (congrArg Value.bool hw)) ?_
        have hw':pv ps[k+q]≠pv ps[k+(q - 1)]:=by simpa using hw
        have S:=S.keep [7,6,5,0,1] rfl
        clear hf
        refine wsp fun K17 hK17=>?_
        refine tv S (zab rfl (S.get rfl)) fun a S=>?_
        refine tv S (zab rfl (S.get rfl)) fun a S=>?_
        refine tv S (zab rfl (S.get rfl)) fun a S=>?_
        refine tv S (zab rfl (S.get rfl)) fun a S=>?_
        refine tv S (zgU hqn rfl (S.get rfl) (S.get rfl)) fun a S=>?_
        refine tv S (zak rfl (S.at 0 rfl) (S.bx 0 rfl) Tryz.underlying29 rfl (vs:=zaD ps[k+q]) zba (zeB g1)) fun a S=>?_
        refine tv S (zhE (k:=Kw) (by omega) rfl (S.get rfl) (S.get rfl)) fun a S=>?_
        have hlen:=hfl rs hrl
        have hput:zbz (zaK (rs++List.replicate m z6)) (Kw*6) (zaD ps[k+q])=zaK (rs.set Kw ps[k+q]++List.replicate m z6):=by
         rw[ziD (by rw[List.length_append];omega),List.set_append_left _ _ (by omega)]
        refine zaB S (i:=0) (vs:=zaD ps[k+q]) (off:=Kw*6) rfl (fun ht=>zaw rfl (S.at 0 rfl) (S.at 1 rfl) zba rfl (m:=c*6) (by show Kw*6+6≤_;omega) (by rw[←hlen];exact ht)) (by rw[hlen];show Kw*6+6≤_;omega) rfl rfl rfl (lb':=[⟨g,29,zaK (rs.set Kw ps[k+q]++List.replicate m z6)⟩]) (by rw[hput];rfl) (fun V6 S=>?_)
        refine hK17 _ _ ?_
        have S:=S.keep [7,6,5,0,1] rfl
        refine zam ?_
        refine tv S (zab rfl (S.get rfl)) fun a S=>?_
        refine tv S (zbj (k:=Kw) (m:=1) rfl (S.at 0 rfl) rfl (by omega)) fun a S=>?_
        refine zav S (v:= .int .i64 ((Kw+1:Nat):Int)) (zac rfl (S.at 0 rfl)) rfl rfl (by decide) rfl (fun a S=>?_)
        refine hK15 _ _ ?_
        have S:=S.keep [7,6,5,0,1] rfl
        refine zam ?_
        refine tv S (zab rfl (S.get rfl)) fun a S=>?_
        refine tv S (zbj (k:=q) (m:=1) rfl (S.at 0 rfl) rfl (by omega)) fun a S=>?_
        refine zav S (v:= .int .i64 ((q+1:Nat):Int)) (zac rfl (S.at 0 rfl)) rfl rfl (by decide) rfl (fun a S=>?_)
        have hC2:=hC.put hj1 (by simp only[e5];simp only[e4]at hw';exact hw')
        simp only[e5]at hC2
        have S:Frm 66 [(7,.int .i64 ((q+1:Nat):Int)),(5,.int .i64 ((Kw+1:Nat):Int)),(6,.slice (some ⟨g,k*6,none⟩) (ps.length - k) (c - k)),(0,.slice (some ⟨g,0,none⟩) ps.length c),(1,ze6)] _ _ _ _ _:=S.keep [7,5,6,0,1] rfl
        have S:=S.sel [0,2,1,3,4] rfl
        refine⟨⟨q+1,Kw+1,_,⟨by omega,by rw[show k+(q+1) - 1=k+q by omega];exact hC2⟩,S⟩,?_⟩
        have hm5:=S.at 0 rfl
        rw[hm4,hm5]
        simp only[intOf];omega
       ·refine wp_cond_false ((S.at 0 rfl).trans (congrArg Value.bool hw)) ?_
        have hw':pv ps[k+q]=pv ps[k+(q - 1)]:=by simpa using hw
        have S:=S.keep [7,6,5,0,1] rfl
        clear hf
        refine wp_skip ?_
        refine hK15 _ _ ?_
        refine zam ?_
        refine tv S (zab rfl (S.get rfl)) fun a S=>?_
        refine tv S (zbj (k:=q) (m:=1) rfl (S.at 0 rfl) rfl (by omega)) fun a S=>?_
        refine zav S (v:= .int .i64 ((q+1:Nat):Int)) (zac rfl (S.at 0 rfl)) rfl rfl (by decide) rfl (fun a S=>?_)
        have hC2:=hC.skip hj1 (by simp only[e5];simp only[e4]at hw';exact hw')
        simp only[e5]at hC2
        have S:=S.keep [7,6,5,0,1] rfl
        refine⟨⟨q+1,Kw,rs,⟨by omega,by rw[show k+(q+1) - 1=k+q by omega];exact hC2⟩,S⟩,?_⟩
        have hm5:=S.at 0 rfl
        rw[hm4,hm5]
        simp only[intOf];omega
     ·refine wp_cond_false ((S.get rfl).trans (congrArg Value.bool hl4)) ?_
      have hqn:ps.length - k≤q:=by have:=of_decide_eq_false hl4;omega
      refine wp_exit ?_
      refine hK11 _ _ ?_
      have S:=S.keep [7,6,5,0,1] rfl
      have hKn:Kw<ps.length:=by omega
      refine wsp fun K15 hK15=>?_
      refine tv S (zab rfl (S.get rfl)) fun a S=>?_
      refine tv S (zab rfl (S.get rfl)) fun a S=>?_
      refine tv S (zqS hKn (by omega) rfl (S.get rfl) (S.get rfl)) fun a S=>?_
      have hlen:=hfl rs hrl
      have hlz:(zaK (List.replicate (ps.length - Kw) z6)).length=(ps.length - Kw)*6:=by rw[zcr,List.length_replicate]
      obtain⟨rest,hrest⟩:∃rest,zbz (zaK (rs++List.replicate m z6)) (Kw*6) (zaK (List.replicate (ps.length - Kw) z6))=zaK (rs.take Kw++rest):=⟨_,(zme (by rw[List.length_append,List.length_replicate];omega)).trans (by rw[List.take_append_of_le_length (by omega)])⟩
      refine zqU S rfl (fun ht=>zqT (by omega) rfl (S.at 0 rfl) (fun j hj=>ht j (by rw[hlen];omega))) (by rw[hlen,hlz];omega) (zeb _) (lb':=[⟨g,29,zaK (rs.take Kw++rest)⟩]) (by rw[hrest];rfl) fun a V6 S=>?_
      refine hK15 _ _ ?_
      have S:=S.keep [7,6,5,0,1] rfl
      refine wsp fun K16 hK16=>?_
      refine tv S (zab rfl (S.get rfl)) fun a S=>?_
      refine tv S (zab rfl (S.get rfl)) fun a S=>?_
      refine tv S (ztM (k:=Kw) (by omega) rfl (S.get rfl) (S.get rfl)) fun a S=>?_
      refine tv S (zac rfl (S.get rfl)) fun a S=>?_
      refine hK16 _ _ ?_
      refine wp_ret ?_
      simp only[Exit.then,Exit.inBlock]
      have hD:=hC.done (by omega)
      have hKl:(rs.take Kw).length=Kw:=by rw[List.length_take];omega
      exact zao rfl S (S.at 0 rfl) ⟨rs.take Kw,rest,by rw[hKl],S.below,S.bx 0 rfl,hD,by omega,fun p hp=>zdr S.env (hD.sub p hp)⟩
    ·refine wp_cond_false ((S.at 0 rfl).trans (congrArg Value.bool hq)) ?_
     have hq':=of_decide_eq_false hq
     have S:=S.keep [5,0,1] rfl
     clear hf
     refine wp_skip ?_
     refine hK8 _ _ ?_
     refine zam ?_
     refine tv S (zab rfl (S.get rfl)) fun a S=>?_
     refine tv S (zbj (k:=k) (m:=1) rfl (S.at 0 rfl) rfl (by omega)) fun a S=>?_
     refine zav S (v:= .int .i64 ((k+1:Nat):Int)) (zac rfl (S.at 0 rfl)) rfl rfl (by decide) rfl (fun a S=>?_)
     have S:=S.keep [5,0,1] rfl
     refine⟨⟨k+1,⟨by omega,hkn,fun i h h'=>?_⟩,S⟩,?_⟩
     ·rcases zu7 (i+1) k with h3|h3
      ·exact hne i h h3
      ·obtain rfl:i=k - 1:=by omega
       have e3:k - 1+1=k:=by omega
       simp only[e3]
       exact fun h4=>hq' h4.symm
     ·have hm1:=S.at 0 rfl
      rw[hm0,hm1]
      simp only[intOf];omega
  ·refine wp_cond_false ((S.get rfl).trans (congrArg Value.bool hlt)) ?_
   have hkn:ps.length≤k:=by have:=of_decide_eq_false hlt;omega
   refine wp_exit ?_
   refine hK4 _ _ ?_
   have S:=S.keep [5,0,1] rfl
   refine wsp fun K8 hK8=>?_
   refine tv S (zab rfl (S.get rfl)) fun a S=>?_
   refine tv S (zac rfl (S.get rfl)) fun a S=>?_
   refine hK8 _ _ ?_
   refine wp_ret ?_
   exact zao rfl S (S.at 0 rfl) ⟨ps,_,rfl,S.below,S.bx 0 rfl,Cps.self (fun i h=>hne i h (by omega)),Nat.le_refl _,fun p hp=>zdr S.env hp⟩
def ztN (V0:World)(l:List PEl)(v:Value)(V:World):Prop:=(v= .slice none 0 0∧l=[])∨ ∃g m,v= .slice (some ⟨g,0,none⟩) l.length (l.length+m)∧V0.heap.size≤g∧V.heap[g]?=some (.cells (zaK (l++List.replicate m z6)).toArray 29 (0,0))
theorem zoC {V:World}{ad:Addr}{l:List PEl}(h:PRds V V.heap.size (some ad) l):∀j u,(zaK l)[j]?=some u→V.cell? (ad.add j)=some u:=by
 intro j u hu
 have hj:j<l.length*6:=by
  rw[←zcr]
  rcases zu7 j (zaK l).length with h|h
  ·exact h
  ·rw[List.getElem?_eq_none h]at hu;cases hu
 have hk:j/6<l.length:=by omega
 obtain⟨⟨ad',e,-,h0,h1,h2,h3,h4,h5⟩,-⟩:=h (j/6) hk
 cases e
 have e6:j/6*6+j%6=j:=by omega
 have hr:j%6<6:=Nat.mod_lt _ (by omega)
 have hf:=zhO hk hr
 rw[e6]at hf
 rw[hf]at hu
 have key:∀r,r<6→(zaD l[j/6])[r]?=some u→V.cell? (ad.add (j/6*6+r))=some u:=by
  intro r hr hu
  rcases(by omega:r=0∨r=1∨r=2∨r=3∨r=4∨r=5)with rfl|rfl|rfl|rfl|rfl|rfl <;> simp only[zaD,List.getElem?_cons_zero,List.getElem?_cons_succ,Option.some.injEq]at hu <;> subst hu <;> assumption
 have:=key _ hr hu
 rwa [e6]at this
theorem zoD {A:Option Addr}{c:Nat}{l:List PEl}{V:World}(hR:PRds V V.heap.size A l)(hl:l.length≤1000):
  Calls Tryz.prog 47 #[.slice A l.length c] V (zaj V (ztN V l)):=by
 refine(callsIn_wide (n:=0)).1 (callsIn_of_wp Tryz.func47 rfl trivial ?_ rfl)
 have S:=zdm (n:=8) #[.slice A l.length c] (zu0 rfl)
 refine wpIn_seq (wpIn_region_lit ?_)
 refine zal (fun _=>trivial) S (zcx rfl) rfl rfl rfl (by decide) rfl (fun a S=>?_)
 refine wpIn_seq (wpIn_seq (wpIn_region_lit ?_))
 refine zal (fun _=>trivial) S (zab rfl (S.get rfl)) rfl rfl rfl (by decide) rfl (fun a S=>?_)
 refine zal (fun _=>trivial) S (v:= .bool A.isNone) (V':=V) (by
  have e1:a.eval (.tmp 3)= .slice A l.length c:=S.get rfl
  have hq:=Lib.run_eql_slice_nil (P:=Tryz.prog) V _ _ A l.length c 0 0 Tryz.underlying30
  unfold execOp;simp only[e1]
  simp[go_sem,Act.eval,hq]) rfl rfl rfl (by decide) rfl (fun a S=>?_)
 refine wpIn_cond (t:=A.isNone) (S.get rfl) ?_
 cases A with
 |none=>
  have h0:l=[]:=by
   rcases l with _|⟨p,l⟩
   ·rfl
   ·obtain⟨⟨ad,e,-⟩,-⟩:=hR 0 (by simp)
    cases e
  refine wpIn_seq (wpIn_region_lit ?_)
  refine zal (fun _=>trivial) S (zcx rfl) rfl rfl rfl (by decide) rfl (fun a S=>?_)
  refine wpIn_ret ?_
  simp only[Exit.then]
  have hr:a.tmps.getD 2 undef= .slice none 0 0:=S.get rfl
  exact bodyPost_ret (results_tmp rfl _ _ _) S.defers ⟨_,by rw[←hr],.inl ⟨rfl,h0⟩,Below.refl _ _⟩
 |some ad=>
  refine wpIn_skip ?_
  refine wpIn_seq (wpIn_region_lit ?_)
  refine zal (fun _=>trivial) S (v:= .slice (some ⟨V.heap.size,0,none⟩) 0 0) (V':=V.alloc (.cells (zaK []).toArray 29)) (by
   unfold execOp;simp only[zaK];go_simp) rfl rfl rfl (by decide) rfl (fun a S=>?_)
  have hb1:Below V.heap.size V (V.alloc (.cells (zaK []).toArray 29)):=zu2.alloc zu1 _
  have hg1:(V.alloc (.cells (zaK []).toArray 29)).heap[V.heap.size]?=some (.cells (zaK []).toArray 29 (0,0)):=World.alloc_heap_new _ _
  generalize V.alloc (.cells (zaK []).toArray 29)=V1 at hb1 hg1 ⊢
  refine zal (fun _=>trivial) S (zab rfl (S.get rfl)) rfl rfl rfl (by decide) rfl (fun a S=>?_)
  have hR1:PRds V1 V1.heap.size (some ad) l:=(hR.below hb1).more hb1.size
  obtain⟨i0,hi0,hz0,hz1,hz2⟩:=info_parts zsl
  have hsrc:Go.Src Tryz.prog 6 30 (.slice (some ad) l.length c) l.length (zaK l) V1:=Go.Src.ofSlice V1 Tryz.underlying30 ad l.length c (zaK l) (zcr l) (zoC hR1) (ziC l)
  rw[←hz1]at hsrc
  have key:∃v' V2,(Builtin.append_ #[30,30] 30 #[.slice (some ⟨V.heap.size,0,none⟩) 0 0,.slice (some ad) l.length c]).run Tryz.prog V1= .ok v' V2∧ztN V l v' V2∧Below V.heap.size V V2:=by
   rcases zu8 l.length with h0|h0
   ·have hn:l=[]:=List.eq_nil_of_length_eq_zero h0
    subst hn
    have hrun:=run_append_room_src (w:=V1) 30 30 30 29 i0 Tryz.underlying30 hi0 V.heap.size 0 0 0 _ 0 (zaK []) hsrc zu1 (fun j hj=>absurd hj (Nat.not_lt_zero _)) (fun j hj=>absurd hj (Nat.not_lt_zero _))
    exact⟨_,_,hrun,.inr ⟨V.heap.size,0,rfl,Nat.le_refl _,hg1⟩,hb1⟩
   ·have hrun:=run_append_grow_src (w:=V1) 30 30 30 29 i0 _ Tryz.underlying30 hi0 hz0 (some ⟨V.heap.size,0,none⟩) 0 0 [] (run_firstCells_some V1.drew i0.size 0 ⟨V.heap.size,0,none⟩ 0 0 [] (by simp) (fun j u h=>by simp at h)) _ l.length (zaK l) hsrc (by omega) (by omega) (growslice_fits (by omega) (by rw[hz2];omega))
    have hc:=grownCap_ge V1 (0+l.length) 0 29
    simp only[Value.cells,List.nil_append]at hrun
    rw[zsH,show(zaK l).toArray++(zaK (List.replicate (grownCap V1 (0+l.length) 0 29 - (0+l.length)) z6)).toArray=(zaK (l++List.replicate (grownCap V1 (0+l.length) 0 29 - (0+l.length)) z6)).toArray by rw[zdi];simp]at hrun
    refine⟨_,_,hrun,.inr ⟨V1.heap.size,grownCap V1 (0+l.length) 0 29 - (0+l.length),?_,hb1.size,?_⟩,hb1.trans (((Below.refl V1.heap.size V1).drew.alloc zu1 _).mono hb1.size)⟩
    ·rw[show l.length+(grownCap V1 (0+l.length) 0 29 - (0+l.length))=grownCap V1 (0+l.length) 0 29 by omega,Nat.zero_add]
    ·exact World.alloc_heap_new V1.drew _
  obtain⟨v',V2,hrun,hown,hb2⟩:=key
  refine zal (fun _=>trivial) S (zgb rfl (S.get rfl) (S.get rfl) hrun) rfl rfl rfl (by decide) rfl (fun a S=>?_)
  refine zal (fun _=>trivial) S (zac rfl (S.get rfl)) rfl rfl rfl (by decide) rfl (fun a S=>?_)
  refine wpIn_ret ?_
  have hr:a.tmps.getD 2 undef=v':=S.get rfl
  exact bodyPost_ret (results_tmp rfl _ _ _) S.defers ⟨_,by rw[←hr],hown,hb2⟩
theorem zk1 {V:World}:Calls Tryz.prog 46 #[.slice none 0 0,ze6] V (zaj V fun v _=>v= .slice none 0 0):=by
 refine zho (e:=[]) Tryz.func46 rfl Tryz.ntmps46 (zu0 rfl) [(0,.slice none 0 0),(1,ze6)] rfl zaC (fun a S=>?_)
 refine wsp fun K1 hK1=>?_
 refine ac S fun a S=>?_
 refine hK1 _ _ ?_
 refine wp_seq_k fun K2 hK2=>?_
 refine wsp fun K3 hK3=>?_
 refine tv S (zab rfl (S.get rfl)) fun a S=>?_
 refine tv S (zbf rfl (S.get rfl)) fun a S=>?_
 refine tv S (zb7 rfl (S.get rfl) rfl) fun a S=>?_
 refine hK3 _ _ ?_
 refine wp_cond_true ((S.get rfl).trans (congrArg Value.bool (show decide (((0:Nat):Int)<2)=true by decide))) ?_
 refine wsp fun K4 hK4=>?_
 refine tv S (zab rfl (S.get rfl)) fun a S=>?_
 refine zav S (zac rfl (S.get rfl)) rfl rfl (by decide) rfl (fun a S=>?_)
 refine hK4 _ _ ?_
 refine wp_ret ?_
 simp only[Exit.then]
 exact zao rfl S (S.at 0 rfl) ⟨_,rfl,rfl,S.below⟩
theorem zqV {K:Nat}{V0 V:World}{v:Value}{l:List PEl}(T:TT V0)(hb:Below V0.heap.size V0 V)(h:ztN V0 l v V)(hok:∀p∈l,okP V p)(hK:∀p∈l,zbX K p)(hKb:K≤400)(hl:l.length≤1000):
  Calls Tryz.prog 46 #[v,ze6] V (fun en V'=>∃(A':Option Addr) (c':Nat) (ps':List PEl),en= .returned (.slice A' ps'.length c')∧Below V0.heap.size V0 V'∧PRds V' V'.heap.size A' ps'∧Cps l ps'∧ps'.length≤l.length):=by
 rcases h with⟨rfl,rfl⟩|⟨g,m,rfl,hg,hrow⟩
 ·refine zk1.mono ?_
  rintro en V' ⟨v,rfl,rfl,hb2⟩
  exact⟨none,0,[],rfl,hb.trans (hb2.mono hb.size),fun k hk=>absurd hk (Nat.not_lt_zero _),Cps.self (fun i h=>absurd h (Nat.not_lt_zero _)),Nat.le_refl _⟩
 ·refine(zk0 T hb hg hrow hok hK hKb hl).mono ?_
  rintro en V' ⟨ps',rest,rfl,h1,h2,h3,h4,h5⟩
  refine⟨_,_,ps',rfl,h1,PRds.own (rest:=zaK rest) (by rw[←zdi];exact h2) (Array.getElem?_eq_some_iff.1 h2).1 h5,h3,h4⟩
instance {l:List QQ}:Decidable (zbQ l):=by unfold zbQ;infer_instance
section
variable {P:Program}{ops:Array Oper}{Q:Exit → Act → World → Prop}{kk n:Nat}{F:Fence}{ls ls':List (Tmp × Value)}{D:List Deferred}{a:Act}{V V':World}{o:Oper}{rest:List Oper}{t t1:Tmp}
theorem zqW {R:Ending→World→Prop}{f:FuncId}{args:Array Value}(S:Jf n ls D a)(hr:(execOp a.eval o).run P V= .ok (.enter f args) V)(hc:Calls P f args V R)(hR:∀e W,R e W→∃v,e= .returned v)(hg:o.guard=none)(hnd:zbq o=true)(hd:o.dst=some t)(ht:t<n)(hl:zdD t ls=ls')
  (k:∀v a' V',R (.returned v) V'→Jf n ((t,v)::ls') D a'→wpListIn Fence.wide kk P ops Q rest a' V'):wpListIn Fence.wide kk P ops Q (o::rest) a V:=by
 refine zif (K:=fun a' V2=>∃v,a'=a.put (some t) v∧R (.returned v) V2) (fun _=>trivial) hg hnd ?_ ?_
 ·rw[hr]
  simp only[Oper.uponIn,hd]
  refine⟨fun h=>by simp[Fence.wide]at h,(callsIn_wide.2 hc).mono ?_⟩
  intro en V2 h
  obtain⟨v,rfl⟩:=hR _ _ h
  exact⟨v,rfl,h⟩
 ·rintro a' V2 ⟨v,rfl,h1⟩
  exact k _ _ _ h1 (S.put v ht hl)
theorem zmf {x y:Code}(h:∀K:Act→World→Prop,(∀a w,y.wpIn F kk P Q a w→K a w)→x.wpIn F kk P (Exit.then K Q) a V):(x.seq y).wpIn F kk P Q a V:=wpIn_seq (h _ (fun _ _ h=>h))
end
section
variable {a:Act}{V:World}{o:Oper}{t1 t2:Tmp}{g p:Nat}
theorem zeV {X:Operand}(hp:p<3)(ho:o.op= .indexAddr 67 (.tmp t1) X) (h1:a.tmps.getD t1 undef= .pointer (some ⟨g,0,none⟩)) (h2:a.eval X= .int .i64 (p:Nat)):(execOp a.eval o).run Tryz.prog V= .ok (.value (.pointer (some ⟨g,p,none⟩))) V:=by
 rw[zaf]at h1
 obtain⟨dst,op,ty,pos,after,guard⟩:=o
 simp only at ho
 subst ho
 have h3:(p:Int)<3:=by omega
 unfold execOp;simp only[h2]
 rcases(by omega:p=0∨p=1∨p=2)with rfl|rfl|rfl <;> go_simp
theorem zoE {v:Value}{f f0:FuncId}(hop:∃ts,o.op= .call { callee:= .value (.func f),args:= #[.tmp t1,.func f0],argTypes:=ts })(h1:a.tmps.getD t1 undef=v)(en:∀args w,(callFunc f args).run Tryz.prog w= .ok (.enter f args) w):
  (execOp a.eval o).run Tryz.prog V= .ok (.enter f #[v,.func (.func f0) #[] #[]]) V:=by
 rw[zaf]at h1
 obtain⟨dst,op,ty,pos,after,guard⟩:=o
 obtain⟨ts,hop⟩:=hop
 simp only at hop
 subst hop
 have:=en #[v,.func (.func f0) #[] #[]] V
 go_simp
end
def iv (z:Int):Value:= .int .i64 z
def sdc (x y z:Int):List Value:=[.int .i64 x,.int .i64 y,.int .i64 z]
structure AlI (V0:World) (gt bl:Nat) (A:Option Addr) (c:Nat) (r:List PEl) (s:Nat) (b0 b1 b2:Int) (W:World):Prop where
 src:W.heap[bl]?=some (.cells #[.slice A r.length c] 30 (0,0))
 below:Below V0.heap.size V0 W
 box:W.heap[gt]?=some (.cells (sdc b0 b1 b2).toArray 67 (0,0))
theorem AlI.own {V0:World}{gt bl c B:Nat}{A:Option Addr}{r:List PEl}{b0 b1 b2:Nat→Int}{Pp:Nat→Prop}(h0:V0.heap.size≤B)(hg:gt<B)(hbl:bl<B):OwnFrom B (fun s W=>AlI V0 gt bl A c r s (b0 s) (b1 s) (b2 s) W∧Pp s):=by
 rintro s W W' row ⟨h,hp⟩ hgr hr
 have k:∀ {b:Nat} {o:Obj},b<B→W.heap[b]?=some o→W'.heap[b]?=some o:=fun {b o} hb ho=>
  (hgr.block b (Array.getElem?_eq_some_iff.1 ho).1 (by rintro e;have:=(hr b e.symm).1;omega)).trans ho
 exact⟨⟨k hbl h.src,h.below.grown hgr h.below.size (fun r e=>by have:=(hr r e).1;omega),k hg h.box⟩,hp⟩
theorem pvl {l:List PEl}{k:Nat}(h:k<(l.map pv).length):(l.map pv)[k]=pv (l[k]'(by simpa using h)):=by simp
theorem zmg {r:List PEl}(hne:∀i (h:i+1<r.length),pv r[i]≠pv r[i+1])(h:∀k<zcV r,czC (zbH r k)=0):zbQ (r.map pv):=by
 refine zma (fun i hi=>?_) (fun i hi=>?_)
 ·rw[pvl,pvl];exact hne i (by simpa using hi)
 ·have hl:i+2<r.length:=by simpa using hi
  have hc:zcV r=r.length:=by unfold zcV;rw[if_neg (by omega)]
  have h1:=h (i+1) (by omega)
  unfold czC zbH at h1
  have e1:(i+1+r.length - 1)%r.length=i:=by rw[show i+1+r.length - 1=i+r.length by omega,Nat.add_mod_right,Nat.mod_eq_of_lt (by omega)]
  have e2:(i+1+1)%r.length=i+2:=Nat.mod_eq_of_lt (by omega)
  simp only[e1,e2]at h1
  rw[zbR (by omega),zbR (by omega),zbR (by omega)]at h1
  rw[pvl,pvl,pvl]
  exact h1
theorem zmh {r:List PEl}{k:Nat}(hk:k<zcV r)(h:czC (zbH r k)≠0): ¬zbQ (r.map pv):=fun hA=>by
 obtain⟨m1,m2,m3⟩:=zjE hk
 exact h (hA _ (List.mem_map_of_mem m1) _ (List.mem_map_of_mem m2) _ (List.mem_map_of_mem m3))
theorem ziG {l r:List PEl}(h:Cps l r):zbQ (l.map pv)↔zbQ (r.map pv):=zop h.mem
theorem zsb {K:Nat}{V:World}{A:Option Addr}{c:Nat}{l:List PEl}(T:TT V)(hR:PRds V V.heap.size A l)(hl:l.length≤1000)(hK:∀p∈l,zbX K p)(hKb:K≤400)(hS:Smd 250 l):
  CallsIn Fence.wide 10 Tryz.prog 21 #[.slice A l.length c] V (zaj V fun v _=>v= .bool (decide (zbQ (l.map pv)))):=by
 refine callsIn_of_wp_marks Tryz.func21 rfl trivial ?_ rfl
 have S:=zdm (n:=32) #[.slice A l.length c] (zu0 rfl)
 refine wpIn_seq (wpIn_region_lit ?_)
 refine zal (fun _=>trivial) S (zcx rfl) rfl rfl rfl (by decide) rfl (fun a S=>?_)
 refine zc6 ?_
 refine wpIn_seq (wpIn_region_lit ?_)
 refine zal (fun _=>trivial) S (zab rfl (S.get rfl)) rfl rfl rfl (by decide) rfl (fun a S=>?_)
 refine zd1 S (zc3 ⟨_,rfl⟩ (S.get rfl) (enters_of Tryz.func47 (by kernel_rfl) rfl)) (zoD hR hl) rfl rfl rfl (by decide) rfl (fun u a W1 hu hb1 S=>?_)
 have hR1:PRds W1 W1.heap.size A l:=(hR.below hb1).more hb1.size
 refine zqW S (zoE ⟨_,rfl⟩ (S.get rfl) (enters_of Tryz.func46 (by kernel_rfl) rfl)) (zqV T hb1 hu (fun p hp=>hR1.mem hp) hK hKb hl) (by rintro e W ⟨A',c',ps',rfl,-⟩;exact⟨_,rfl⟩) rfl rfl rfl (by decide) rfl (fun v a W2 hv S=>?_)
 obtain⟨A2,c2,r,hv2,hb2,hR2,hCps,hrl⟩:=hv
 obtain rfl:v= .slice A2 r.length c2:=by injection hv2
 refine zal (fun _=>trivial) S (zac rfl (S.get rfl)) rfl rfl rfl (by decide) rfl (fun a S=>?_)
 clear hv2 hu hR1 hb1
 have hrK:∀p∈r,zbX K p:=fun p hp=>hK p (hCps.sub p hp)
 have hrS:Smd 250 r:=fun p hp q hq=>hS p (hCps.sub p hp) q (hCps.sub q hq)
 have hr1:r.length≤1000:=by omega
 have hcl:=zjD r
 refine wpIn_seq (wpIn_region_lit ?_)
 obtain⟨gt,hgt⟩:∃gt,W2.heap.size=gt:=⟨_,rfl⟩
 refine zal (fun _=>trivial) S (V':=W2.alloc (.cells (sdc 0 0 0).toArray 67)) (zay rfl (Tryz.zeroValue67 _) rfl) rfl rfl rfl (by decide) rfl (fun a S=>?_)
 have hbx:(W2.alloc (.cells (sdc 0 0 0).toArray 67)).heap[W2.heap.size]?=some (.cells (sdc 0 0 0).toArray 67 (0,0)):=World.alloc_heap_new _ _
 have hb23:=(Below.refl W2.heap.size W2).alloc zu1 (.cells (sdc 0 0 0).toArray 67)
 have hb3:=hb2.trans (hb23.mono hb2.size)
 have hR3:=hR2.below hb23
 rw[hgt]at hR3
 have hVg:V.heap.size≤gt:=by have:=hb2.size;omega
 rw[hgt]at S hbx
 generalize W2.alloc (.cells (sdc 0 0 0).toArray 67)=W3 at hbx hb3 hR3 ⊢
 clear hb23 hR2 hb2 hgt
 replace S:Jf 32 [(4,.pointer (some ⟨gt,0,none⟩)),(3,.slice A2 r.length c2)] [] a:=S.keep [4,3] rfl
 refine wpIn_seq (wpIn_label ?_)
 refine zmf fun KE hKE=>?_
 have hfin:∀(b0 b1 b2:Int) (D:Nat) (a:Act) (W:World),Jf 32 [(4,.pointer (some ⟨gt,0,none⟩)),(3,.slice A2 r.length c2)] [mkD D] a→W.heap[gt]?=some (.cells (sdc b0 b1 b2).toArray 67 (0,0))→Below V.heap.size V W→V.heap.size≤D→W.heap[D]?=some (.deferred (some []))→
   (0≤b0∧b0≤1)→(0≤b2∧b2≤1)→(b0+b2=0↔zbQ (l.map pv))→KE a W:=by
  intro b0 b1 b2 D a W X hbx hbV hVD hD h0 h2 hA
  refine hKE _ _ ?_
  refine wpIn_seq (wpIn_region_lit ?_)
  refine zal (fun _=>trivial) X (zeV (p:=0) (by decide) rfl (X.get rfl) rfl) rfl rfl rfl (by decide) rfl (fun a X=>?_)
  refine zal (fun _=>trivial) X (v:= .int .i64 b0) (zar rfl (X.get rfl) hbx (Tryz.isAgg3 _) rfl) rfl rfl rfl (by decide) rfl (fun a X=>?_)
  refine zal (fun _=>trivial) X (zeV (p:=2) (by decide) rfl (X.get rfl) rfl) rfl rfl rfl (by decide) rfl (fun a X=>?_)
  refine zal (fun _=>trivial) X (v:= .int .i64 b2) (zar rfl (X.get rfl) hbx (Tryz.isAgg3 _) rfl) rfl rfl rfl (by decide) rfl (fun a X=>?_)
  refine zal (fun _=>trivial) X (zjo rfl (X.get rfl) (X.get rfl) (by unfold Inr;omega)) rfl rfl rfl (by decide) rfl (fun a X=>?_)
  refine zal (fun _=>trivial) X (zbG _ (.inl rfl) rfl (X.get rfl) rfl) rfl rfl rfl (by decide) rfl (fun a X=>?_)
  refine zal (fun _=>trivial) X (zac rfl (X.get rfl)) rfl rfl rfl (by decide) rfl (fun a X=>?_)
  refine wpIn_ret ?_
  rw[Exit.noGoto_ret]
  show LeavesInM _ _ _ _ a.tmps _ a.defers _ _
  rw[X.defers]
  have hr2:a.tmps.getD 2 undef= .bool (decide (b0+b2=0)):=X.get rfl
  refine zda (fun W=>Below V.heap.size V W) ?_ [D] _ (by simp) (by simpa using hD) hbV ?_
  ·intro W h1
   exact⟨_,results_tmp rfl _ _ _,.bool (decide (b0+b2=0)),by rw[←hr2],congrArg Value.bool (decide_eq_decide.2 hA),h1⟩
  ·rintro q hq W h1 hd
   obtain rfl:q=D:=by simpa using hq
   exact h1.grown (grownBy_putObj' W q (.deferred none)) h1.size (fun r' e=>by cases e;exact hVD)
 refine wpIn_seq (wpIn_region_lit ?_)
 refine zal (fun _=>trivial) S (zab rfl (S.get rfl)) rfl rfl rfl (by decide) rfl (fun a S=>?_)
 obtain⟨bl,hbl⟩:∃bl,W3.heap.size=bl:=⟨_,rfl⟩
 refine zd1 S (zc3 ⟨_,rfl⟩ (S.get rfl) (enters_of Tryz.func42 (by kernel_rfl) rfl)) (zgv A2 r.length c2 W3) rfl rfl rfl (by decide) rfl (fun v a W4 hv hb4 S=>?_)
 obtain⟨rfl,hl4⟩:=hv
 rw[hbl]at hl4 S
 have hgs:gt<W3.heap.size:=(Array.getElem?_eq_some_iff.1 hbx).1
 have hb04:=hb3.trans (hb4.mono hb3.size)
 have hbx4:=(hb4.block gt hgs).trans hbx
 have hrow:∀ {W:World},Below gt W3 W→PRds W W.heap.size A2 r:=fun hB=>(hR3.below hB).more (by have:=hB.size;omega)
 have hB4:Below gt W3 W4:=hb4.mono (by omega)
 have hblt:bl<W4.heap.size:=(Array.getElem?_eq_some_iff.1 hl4).1
 replace S:Jf 32 [(10,.func (.func 70) #[] #[.pointer (some ⟨bl,0,none⟩)]),(4,.pointer (some ⟨gt,0,none⟩)),(3,.slice A2 r.length c2)] [] a:=S.keep [10,4,3] rfl
 have hown:OwnFrom W4.heap.size (fun s W=>(AlI V gt bl A2 c2 r s 0 (s:Int) 0 W∧Below gt W3 W)∧(s≤zcV r∧∀k<s,czC (zbH r k)=0)):=by
  rintro s W W' row ⟨⟨h,hp⟩,h2⟩ hgr hr
  refine⟨⟨((AlI.own (r:=r) (b0:=fun _=>0) (b1:=fun s=>(s:Int)) (b2:=fun _=>0) (Pp:=fun _=>True) hb04.size (by omega) hblt) s W W' row ⟨h,trivial⟩ hgr hr).1,?_⟩,h2⟩
  exact hp.grown hgr (by have:=hp.size;omega) (fun r' e=>by have:=(hr r' e).1;omega)
 have hownx:OwnFrom W4.heap.size (fun s W=>∃b0 b1 b2:Int,((0≤b0∧b0≤1)∧(0≤b2∧b2≤1)∧b0+b2≠0)∧AlI V gt bl A2 c2 r s b0 b1 b2 W∧∃k<zcV r,czC (zbH r k)≠0):=by
  rintro s W W' row ⟨b0,b1,b2,h1,h,hp⟩ hgr hr
  exact⟨b0,b1,b2,h1,((AlI.own (r:=r) (b0:=fun _=>b0) (b1:=fun _=>b1) (b2:=fun _=>b2) (Pp:=fun _=>True) hb04.size (by omega) hblt) s W W' row ⟨h,trivial⟩ hgr hr).1,hp⟩
 refine wpIn_block (zcc rfl (by omega) (gf:=70) (lb:= #[.pointer (some ⟨bl,0,none⟩)]) (S.get rfl) trivial (enters_of Tryz.func70 (by kernel_rfl) rfl)
  (fun _=>rfl) (fun s W=>(AlI V gt bl A2 c2 r s 0 (s:Int) 0 W∧Below gt W3 W)∧(s≤zcV r∧∀k<s,czC (zbH r k)=0)) (fun cd s W=>cd= .exit 0∧∃b0 b1 b2:Int,((0≤b0∧b0≤1)∧(0≤b2∧b2≤1)∧b0+b2≠0)∧AlI V gt bl A2 c2 r s b0 b1 b2 W∧∃k<zcV r,czC (zbH r k)≠0)
  hown (fun cd s W W' row h hgr hr=>⟨h.1,hownx s W W' row h.2 hgr hr⟩) ⟨⟨⟨hl4,hb04,hbx4⟩,hB4⟩,Nat.zero_le _,fun k hk=>absurd hk (Nat.not_lt_zero _)⟩
  (zez hr1 _ (fun s W h=>⟨h.1.1.src,hrow h.1.2⟩))
  (fun s x a W=>∃gx,Jf 32 [(5,.pointer (some ⟨gx,0,none⟩)),(4,.pointer (some ⟨gt,0,none⟩))] [] a∧W.heap[gx]?=some (.cells (za4 x).toArray 62 (0,0))∧(AlI V gt bl A2 c2 r s 0 (s:Int) 0 W∧Below gt W3 W)∧(s≤zcV r∧∀k<s,czC (zbH r k)=0))
  ?own2 ?assign ?body ?done ?stop)
 case own2=>
  rintro s x a _ W W' row ⟨gx,h1,h3,h4⟩ hgr hr
  refine⟨gx,h1,(hgr.block gx (Array.getElem?_eq_some_iff.1 h3).1 ?_).trans h3,hown s W W' row h4 hgr hr⟩
  rintro e
  obtain⟨-,o,ho,hc⟩:=hr gx e.symm
  rw[h3]at ho
  cases ho
  cases hc
 case stop=>
  rintro D cd s W hD - ⟨rfl,b0,b1,b2,⟨h0,h2,hne⟩,hI,k,hk,hz⟩ hDd
  refine wpIn_exit ?_
  simp only[Exit.inBlock,Exit.then,if_true]
  refine hfin b0 b1 b2 D _ W ⟨S.size,by simp[S.defers],(S.keep [4,3] rfl).slots⟩ hI.box hI.below (by have:=hb04.size;omega) hDd h0 h2 ⟨fun h=>absurd h hne,fun h=>absurd ((ziG hCps).1 h) (zmh hk hz)⟩
 case assign=>
  rintro lp s x W hI -
  have X0:=S.put (.agg (za4 x).toArray) (t:=11) (by decide) rfl
  have X:Jf 32 [(11,.agg (za4 x).toArray),(4,.pointer (some ⟨gt,0,none⟩))] [] { tmps:=((#[11]:Array Tmp).zip #[.agg (za4 x).toArray]).foldl (fun t p=>t.setIfInBounds p.1 p.2) a.tmps,defers:=[] }:=by
   have e:((#[11]:Array Tmp).zip #[.agg (za4 x).toArray]).foldl (fun t p=>t.setIfInBounds p.1 p.2) a.tmps=(a.put (some 11) (.agg (za4 x).toArray)).tmps:=by simp[Act.put]
   rw[e]
   exact⟨X0.size,rfl,fun p hp=>X0.slots p (by
    rcases List.mem_cons.1 hp with rfl|hp
    ·exact List.mem_cons_self
    ·rw[List.mem_singleton.1 hp];simp[zdD])⟩
  refine wpIn_region_lit ?_
  refine zal (F:=Fence.wide.inRound lp) (fun _=>trivial) X (V':=W.alloc (.cells zgA.toArray 62)) (zay rfl (Tryz.zeroValue62 _) rfl) rfl rfl rfl (by decide) rfl (fun a X=>?_)
  have hbw:(W.alloc (.cells zgA.toArray 62)).heap[W.heap.size]?=some (.cells zgA.toArray 62 (0,0)):=World.alloc_heap_new _ _
  have hSw:=zbW (o:=0) (vs:=za4 x) hbw rfl (zeA x)
  refine zco (F:=Fence.wide.inRound lp) (fun _=>trivial) X (V':=(W.alloc (.cells zgA.toArray 62)).setCells W.heap.size 0 (za4 x)) (zaw (m:=18) rfl (X.get rfl) (X.get rfl) zeU rfl zu1 (fun j hj=>?_)) rfl rfl rfl (fun a X=>?_)
  ·constructor
   ·rw[cell_of_row _ W.heap.size j _ _ (0,0) hbw,List.getElem?_toArray,List.getElem?_eq_getElem (show j<zgA.length from hj)];rfl
   ·exact zgJ hbw
  have hbel:Below W.heap.size W ((W.alloc (.cells zgA.toArray 62)).setCells W.heap.size 0 (za4 x)):=(zu2.alloc zu1 _).trans (hSw.below zu1)
  have hgw:=zbt hbel none
  exact⟨hgw,W.heap.size,X.keep [5,4] rfl,hSw.cells hbw,hown s W _ none hI hgw (fun r e=>by cases e)⟩
 case done=>
  rintro D s W hD rfl ⟨⟨hI,-⟩,-,hz⟩ hDd
  simp only[Exit.inBlock,Exit.then]
  refine hfin 0 _ 0 D _ W ⟨S.size,by simp[S.defers],(S.keep [4,3] rfl).slots⟩ hI.box hI.below (by have:=hb04.size;omega) hDd (by omega) (by omega) ⟨fun _=>(ziG hCps).2 (zmg hCps.ne hz),fun _=>rfl⟩
 case body=>
  rintro lp s x a W ⟨gx,X,hbw,⟨hI,hBW⟩,hsl,hz⟩ ⟨hsc,rfl⟩
  have hRW:=hrow hBW
  obtain⟨m1,m2,m3⟩:=zjE hsc
  refine wpIn_block (wpIn_seq (wpIn_region_lit ?_))
  refine zal (F:=Fence.wide.inRound lp) (fun _=>trivial) X (v:= .agg (za4 (zbH r s)).toArray) (zak rfl (X.get rfl) hbw Tryz.underlying62 rfl (vs:=za4 (zbH r s)) zeU rfl) rfl rfl rfl (by decide) rfl (fun a X=>?_)
  refine zqQ X (zc3 ⟨_,rfl⟩ (X.get rfl) (enters_of Tryz.func43 (by kernel_rfl) rfl)) (zkZ (T.keep hI.below) (hRW.mem m1) (hRW.mem m2) (hRW.mem m3) (hrK _ m1) (hrK _ m2) (hrK _ m3) hKb (hrS _ m1 _ m2) (hrS _ m1 _ m3)) rfl rfl rfl (by decide) rfl (fun v a W5 hv hb5 X=>?_)
  subst hv
  obtain⟨z,hzd⟩:∃z,zag (czC (zbH r s)) 0=z:=⟨_,rfl⟩
  have hz3:z= -1∨z=0∨z=1:=by have:=tri (czC (zbH r s)) 0;rw[hzd]at this;exact this
  rw[hzd]at X
  obtain⟨p,hp⟩:∃p:Nat,z+1=(p:Int):=⟨(z+1).toNat,by omega⟩
  have hp3:p<3:=by omega
  have hbx5:=(hb5.block gt (Array.getElem?_eq_some_iff.1 hI.box).1).trans hI.box
  have hsrc5:=(hb5.block bl (Array.getElem?_eq_some_iff.1 hI.src).1).trans hI.src
  have hbel5:=hI.below.trans (hb5.mono hI.below.size)
  have hB5:Below gt W3 W5:=hBW.trans (hb5.mono (by have:=hBW.size;omega))
  obtain⟨old,b0,b1,b2,hold,hnew,hcase⟩:∃old b0 b1 b2:Int,(sdc 0 (s:Int) 0)[p]?=some (.int .i64 old)∧zbz (sdc 0 (s:Int) 0) p [.int .i64 (old+1)]=sdc b0 b1 b2∧((0≤old∧old≤1000)∧(0≤b0∧b0≤1)∧(0≤b2∧b2≤1)∧((z=0∧b0=0∧b1=(s:Int)+1∧b2=0)∨(z≠0∧b0+b2=1))):=by
   rcases hz3 with rfl|rfl|rfl
   ·obtain rfl:p=0:=by omega
    exact⟨0,1,s,0,rfl,rfl,by omega⟩
   ·obtain rfl:p=1:=by omega
    exact⟨s,0,s+1,0,rfl,rfl,by omega⟩
   ·obtain rfl:p=2:=by omega
    exact⟨0,0,s,1,rfl,rfl,by omega⟩
  obtain⟨ho,h0,h2,hcase⟩:=hcase
  refine zal (F:=Fence.wide.inRound lp) (fun _=>trivial) X (v:= .int .i64 (p:Int)) (by rw[←hp];exact zjo rfl (X.get rfl) rfl (by unfold Inr;omega)) rfl rfl rfl (by decide) rfl (fun a X=>?_)
  refine zal (F:=Fence.wide.inRound lp) (fun _=>trivial) X (zeV hp3 rfl (X.get rfl) (X.get rfl)) rfl rfl rfl (by decide) rfl (fun a X=>?_)
  refine zal (F:=Fence.wide.inRound lp) (fun _=>trivial) X (v:= .int .i64 old) (zar rfl (X.get rfl) hbx5 (Tryz.isAgg3 _) hold) rfl rfl rfl (by decide) rfl (fun a X=>?_)
  refine zal (F:=Fence.wide.inRound lp) (fun _=>trivial) X (v:= .int .i64 (old+1)) (zjo rfl (X.get rfl) rfl (by unfold Inr;omega)) rfl rfl rfl (by decide) rfl (fun a X=>?_)
  refine zal (F:=Fence.wide.inRound lp) (fun _=>trivial) X (zeV hp3 rfl (X.get rfl) (X.get rfl)) rfl rfl rfl (by decide) rfl (fun a X=>?_)
  have hSn:=zbW (o:=p) (vs:=[.int .i64 (old+1)]) hbx5 rfl rfl
  rw[hnew]at hSn
  refine zco (F:=Fence.wide.inRound lp) (fun _=>trivial) X (V':=W5.setCells gt p [.int .i64 (old+1)]) (zcR (m:=3) rfl (X.get rfl) (X.get rfl) (by go_simp) rfl rfl (by omega) (fun j hj=>?_)) rfl rfl rfl (fun a X=>?_)
  ·constructor
   ·rw[cell_of_row W5 gt j _ _ (0,0) hbx5,List.getElem?_toArray,List.getElem?_eq_getElem (show j<(sdc 0 (s:Int) 0).length from hj)];rfl
   ·simp[World.frozen?,hbx5]
  have hg4:gt<W4.heap.size:=by omega
  have hgbl:gt≠bl:=by omega
  have hbx6:=hSn.cells hbx5
  have hI6:AlI V gt bl A2 c2 r (s+1) b0 b1 b2 (W5.setCells gt p [.int .i64 (old+1)]):=⟨(hSn.other (Ne.symm hgbl)).trans hsrc5,hbel5.trans (hSn.below hVg),hbx6⟩
  have hB6:Below gt W3 (W5.setCells gt p [.int .i64 (old+1)]):=hB5.trans (hSn.below zu1)
  have hKf:KeepsFrom W4.heap.size W (W5.setCells gt p [.int .i64 (old+1)]):=(KeepsFrom.of_grownBy (zbt hb5 none) (fun j e=>by cases e)).trans (KeepsFrom.of_grownBy hSn.grown (fun j e=>by cases e;exact hg4))
  clear hSn hbx5 hsrc5 hbel5 hB5 hb5
  generalize W5.setCells gt p [.int .i64 (old+1)]=W6 at hbx6 hI6 hB6 hKf ⊢
  replace X:Jf 32 [(4,.pointer (some ⟨gt,0,none⟩))] [] a:=X.keep [4] rfl
  have hnorm:b0=0→b2=0→(AlI V gt bl A2 c2 r (s+1) 0 ((s+1:Nat):Int) 0 W6∧Below gt W3 W6)∧(s+1≤zcV r∧∀k<s+1,czC (zbH r k)=0):=by
   intro e0 e2
   have hzz:z=0∧b1=(s:Int)+1:=by omega
   obtain⟨rfl,rfl⟩:=hzz
   subst e0 e2
   refine⟨⟨by rw[Int.natCast_add];exact hI6,hB6⟩,hsc,fun k hk=>?_⟩
   rcases zu7 k s with h|h
   ·exact hz k h
   ·obtain rfl:k=s:=by omega
    exact zcE.1 hzd
  have hexit:b0+b2≠0→∃k<zcV r,czC (zbH r k)≠0:=by
   intro hne
   refine⟨s,hsc,fun h=>?_⟩
   rw[h,zd5]at hzd
   omega
  refine wpIn_block (wpIn_seq ?_)
  refine wpIn_seq (wpIn_region_lit ?_)
  refine zal (F:=Fence.wide.inRound lp) (fun _=>trivial) X (zeV (p:=0) (by decide) rfl (X.get rfl) rfl) rfl rfl rfl (by decide) rfl (fun a X=>?_)
  refine zal (F:=Fence.wide.inRound lp) (fun _=>trivial) X (v:= .int .i64 b0) (zar rfl (X.get rfl) hbx6 (Tryz.isAgg3 _) rfl) rfl rfl rfl (by decide) rfl (fun a X=>?_)
  refine zal (F:=Fence.wide.inRound lp) (fun _=>trivial) X (zb8 rfl (X.get rfl) rfl) rfl rfl rfl (by decide) rfl (fun a X=>?_)
  refine zal (F:=Fence.wide.inRound lp) (fun _=>trivial) X (zac rfl (X.get rfl)) rfl rfl rfl (by decide) rfl (fun a X=>?_)
  refine wpIn_cond (t:=decide ((0:Int)<b0)) (X.get rfl) ?_
  by_cases hb0:(0:Int)<b0
  ·rw[if_pos (decide_eq_true hb0)]
   refine wpIn_skip ?_
   refine wpIn_cond (t:=decide ((0:Int)<b0)) (X.get rfl) ?_
   rw[if_pos (decide_eq_true hb0)]
   refine wpIn_exit ?_
   simp only[Exit.inBlock]
   exact⟨hKf,rfl,b0,b1,b2,⟨h0,h2,by omega⟩,hI6,hexit (by omega)⟩
  ·rw[if_neg (by simpa using hb0)]
   replace X:Jf 32 [(4,.pointer (some ⟨gt,0,none⟩))] [] a:=X.keep [4] rfl
   refine wpIn_region_lit ?_
   refine zal (F:=Fence.wide.inRound lp) (fun _=>trivial) X (zeV (p:=2) (by decide) rfl (X.get rfl) rfl) rfl rfl rfl (by decide) rfl (fun a X=>?_)
   refine zal (F:=Fence.wide.inRound lp) (fun _=>trivial) X (v:= .int .i64 b2) (zar rfl (X.get rfl) hbx6 (Tryz.isAgg3 _) rfl) rfl rfl rfl (by decide) rfl (fun a X=>?_)
   refine zal (F:=Fence.wide.inRound lp) (fun _=>trivial) X (zb8 rfl (X.get rfl) rfl) rfl rfl rfl (by decide) rfl (fun a X=>?_)
   refine zal (F:=Fence.wide.inRound lp) (fun _=>trivial) X (zac rfl (X.get rfl)) rfl rfl rfl (by decide) rfl (fun a X=>?_)
   refine wpIn_cond (t:=decide ((0:Int)<b2)) (X.get rfl) ?_
   by_cases hb2:(0:Int)<b2
   ·rw[if_pos (decide_eq_true hb2)]
    refine wpIn_exit ?_
    simp only[Exit.inBlock]
    exact⟨hKf,rfl,b0,b1,b2,⟨h0,h2,by omega⟩,hI6,hexit (by omega)⟩
   ·rw[if_neg (by simpa using hb2)]
    refine wpIn_skip ?_
    simp only[Exit.inBlock]
    exact⟨hKf,hnorm (by omega) (by omega)⟩
end Go.Proofs.YtdeelcoipmdoiaaGreatDoor
