/- A part. -/
import Derived.Test.YtipckjmgdghkiaaGreatDoorGQuotC
set_option maxHeartbeats 4000000
set_option maxRecDepth 100000
namespace Go.Proofs.YtipckjmgdghkiaaGreatDoor
open Go Go.RowKit
section
attribute [local go_sem] Oper.semAt_some
section
variable {ops:Array Oper}{md:Region.Mode}{P:Program}{Q:Exit -> Act -> World -> Prop}{F:Fence}{n i:Nat}{oi:Oper}{v:Value}{fuel:Nat}{listed:Array Bool}{a:Act}{w:World}
theorem zie (i:Nat)(h:wpAnyIn F n P md ops Q fuel (listed.setIfInBounds i true) (a.put oi.dst v) w)(hro:F.round=none:=by exact rfl)(hi:ops[i]?=some oi:=by exact rfl)
 (hs:Region.noSelect ops=true:=by kernel_rfl) (hf:Region.free md ops listed i=true:=by kernel_rfl) (hr:(Region.ready md ops listed).contains i=true:=by kernel_rfl)
 (hQ:∀c a w,Q (.panic c) (a.put oi.dst v) w->Q (.panic c) a w:=by exact fun _ _ _ h=>h) (hy:YieldsFenced P ops oi v a:=by exact⟨Or.inl ⟨by rfl,fun w=>BigFrame.run_move _ rfl w⟩,fun _=>rfl⟩):wpAnyIn F n P md ops Q (fuel+1) listed a w:=wpAnyIn_take hro hi hs hf hr hQ hy h
theorem zdj (i:Nat)(v:Value)(h:wpAnyIn F n P md ops Q fuel (listed.setIfInBounds i true) (a.put oi.dst v) w)(hro:F.round=none:=by exact rfl)(hi:ops[i]?=some oi:=by exact rfl)
 (hs:Region.noSelect ops=true:=by kernel_rfl) (hf:Region.free md ops listed i=true:=by kernel_rfl) (hr:(Region.ready md ops listed).contains i=true:=by kernel_rfl)
 (hQ:∀c a w,Q (.panic c) (a.put oi.dst v) w->Q (.panic c) a w:=by exact fun _ _ _ h=>h) (hy:YieldsFenced P ops oi v a:=by exact⟨Or.inl ⟨by rfl,fun w=>by go_simp⟩,fun _=>rfl⟩):wpAnyIn F n P md ops Q (fuel+1) listed a w:=wpAnyIn_take hro hi hs hf hr hQ hy h
theorem zbx (rs:List Nat)(h:AllReadyIn F n P md ops Q fuel listed a w rs)(hr:Region.ready md ops listed=rs:=by kernel_rfl)(hne:rs≠[]:=by simp):wpAnyIn F n P md ops Q (fuel+1) listed a w:=wpAnyIn_ready hr hne h
theorem zbf {o:Oper}{rs:List Nat}(h:∀K':Act->World->Prop,(∀a w,wpAnyIn F n P md ops Q fuel (listed.setIfInBounds i true) a w->K' a w)->if Region.wanted o (yielded ops a.tmps)=true then Oper.wpIn F n P o a w K' Q else(∀f,o.about P w a.eval=some f->F.fn f)/\K' (a.put o.dst undef) w)
 (hs:AllReadyIn F n P md ops Q fuel listed a w rs) (ho:ops[i]?=some o:=by exact rfl):AllReadyIn F n P md ops Q fuel listed a w (i::rs):=AllReadyIn.cons ho h hs
end
theorem zoq (w:World)(r x M:Nat)(hr:r<M)(hx:x<4294967296)(hM:M<4294967296):
  Calls Tryz.prog 234 #[.int .u32 r,.int .u32 x,.int .u32 M] w fun e w'=>e= .returned (.tuple #[.int .u32 ((r*4294967296+x)/M:Nat),.int .u32 ((r*4294967296+x)%M:Nat)])/\∃k,w'=w.drewN k:=by
 have ho:=zjy (show r<4294967296 by omega) hx
 obtain⟨z,hz⟩:∃z,r*4294967296+x=z:=⟨_,rfl⟩
 rw[hz]at ho
 have hzb:z<18446744073709551616:=by omega
 have hq:z/M<4294967296:=by
  rw[Nat.div_lt_iff_lt_mul (by omega)]
  have:(r+1)*4294967296<=M*4294967296:=Nat.mul_le_mul_right _ hr
  rw[Nat.mul_comm 4294967296]
  omega
 have hm:z%M<M:=Nat.mod_lt _ (by omega)
 obtain⟨dq,hdq⟩:∃dq,z/M=dq:=⟨_,rfl⟩
 obtain⟨dr,hdr⟩:∃dr,z%M=dr:=⟨_,rfl⟩
 rw[hdq]at hq
 rw[hdr]at hm
 have e1:IntKind.u64.wrap ((z:Int)/(M:Int))%4294967296=(dq:Int):=by rw[zbT,<-Int.natCast_ediv,hdq];omega
 have e2:(z:Int)%(M:Int)%4294967296=(dr:Int):=by rw[<-Int.natCast_emod,hdr];omega
 have HD:=zvY (show(r*4294967296+x)/M=dq/\(r*4294967296+x)%M=dr from⟨by rw[hz];exact hdq,by rw[hz];exact hdr⟩)
 rw[HD.out.1,HD.out.2]
 have E1:=zvY e1
 have E2:=zvY e2
 have HZ:=zvY hz
 have hM0:(M:Int)≠0:=by omega
 have hMr: ¬(M:Int)<=(r:Int):=by omega
 clear e1 e2 hz hq hm hdq hdr
 go_enter Tryz.func234,Tryz.ntmps234
 go_wp2
 go_quiet (fail)
 rw[E1.out,E2.out]
 go_wp2
 go_ret2
 exact⟨rfl,_,rfl⟩
theorem zkP (A:Option Addr)(n c:Nat)(w:World):
  CallsIn Fence.wide 0 Tryz.prog 233 #[.slice A n c] w fun e w'=>
   e= .returned (.func (.func 242) #[] #[.pointer (some ⟨w.heap.size,0,none⟩)])/\w'=w.alloc (.cells #[.slice A n c] 23):=by
 refine callsIn_wide.2 ?_
 go_enter Tryz.func233,Tryz.ntmps233
 go_wp2
 go_ret
 exact⟨rfl,rfl⟩
def zu3 (b:Nat)(A:Option Addr)(n c:Nat)(d:Nat->Nat)(s:Nat)(W:World):Prop:=
 W.cell? ⟨b,0,none⟩=some (.slice A n c)/\s<=n/\∀i,s=i+1->∃ad:Addr,A=some ad/\W.cell? (ad.add i)=some (.int .u32 (d i:Nat))
theorem zgT (b:Nat)(A:Option Addr)(n c:Nat)(d:Nat->Nat)(hn:n<=9223372036854775806)(hd:∀i,d i<4294967296)(I:Nat->World->Prop)(hI:∀s W,I s W->zu3 b A n c d s W)(F:Fence)(hF:F=Fence.wide):
  zfH F 9 Tryz.prog 242 #[.pointer (some ⟨b,0,none⟩)] (fun x:Nat×Nat=> #[.int .i64 (x.1:Nat),.int .u32 (x.2:Nat)])
   (fun s x=>s=x.1+1/\x.2=d x.1) (fun _ x=>x.1) n (fun s=>s=0) (fun _=>True) I:=by
 subst hF
 intro l J Jx W hJI hJ hJx hY h0
 obtain⟨hb1,_⟩:=hI _ _ (hJI _ _ h0)
 refine callsIn_of_wp Tryz.func242 rfl trivial ?_ rfl
 simp only[Tryz.ntmps242,List.size_toArray,List.length_cons,List.length_nil,Nat.reduceAdd,Nat.reduceSub,Array.replicate_succ,Array.replicate_zero,List.push_toArray,List.append_toArray,List.nil_append,List.cons_append]
 gi_wp2
 gi_loopw [3] (fun i wr=>∃k:Nat,k<=n/\i= .int .i64 ((k:Int) - 1)/\J k wr) (fun i _=>(intOf i+1).toNat)
 case atStart=>exact⟨n,Nat.le_refl _,rfl,h0⟩
 case round=>
  obtain⟨k,hk,rfl,hJs⟩:=hrel
  obtain⟨hc1,hkn,hR⟩:=hI _ _ (hJI _ _ hJs)
  rcases zv7 k with h0|h0
  ·subst h0
   clear hR
   gi_wp2
   go_end0
   exact⟨⟨_,rfl⟩,.inl ⟨_,rfl,hJs⟩⟩
  ·obtain⟨i,rfl⟩:∃i,k=i+1:=⟨k - 1,by omega⟩
   obtain⟨ad,rfl,hcw⟩:=hR i rfl
   have hx:=hd i
   have hii:(((i+1:Nat):Int) - 1)=(i:Int):=by omega
   rw[hii]
   obtain⟨fn,tmps,assign,body,hy,hRd⟩:=hY (i+1) (i,d i) wr hJs ⟨rfl,rfl⟩
   dsimp only at hy
   clear hR
   have hin:i<n:=by omega
   gi_wp2
   refine hRd.mono ?_
   rintro e W3 ⟨b,rfl,hb1,hb2⟩
   have g1:=zvY hb1
   have g2:=zvY hb2
   clear hb1 hb2
   cases b
   ·gi_wp2
    refine bodyPost_ret (results_none rfl _ _ _) rfl ?_
    exact⟨⟨_,rfl⟩,.inr ⟨_,(by first|exact⟨trivial,g2.out (by first|rfl|trivial)⟩|exact g2.out (by first|rfl|trivial))⟩⟩
   ·gi_wp2
    go_roundw
    case rel=>exact⟨i,by omega,by go_num,g1.out (by first|rfl|trivial)⟩
    case measure=>simp[intOf]
theorem zch {fn:Func}{p q u:Tmp}{ty ty':TypeId}(h:fn.results= #[.cell p ty,.cell q ty',.tmp u])(tmps:Array Value)(P:Program)(w:World):
  (results fn tmps).run P w=
   ((asAddr (tmps.getD p undef)).run P w).andThen fun a w₁=>((loadVar ty a).run P w₁).andThen fun v w₂=>((asAddr (tmps.getD q undef)).run P w₂).andThen fun a' w₃=>((loadVar ty' a').run P w₃).andThen fun v' w₄=> .ok (.tuple #[v,v',tmps.getD u undef]) w₄:=by
 simp only[results,h]
 simp[Sem.run_bind,Result.andThen]
def sRest (N M k:Nat):Nat:=N/Bw^k%M
def zfZ (N M k:Nat):Nat:=N%Bw^k+Bw^k*(N/Bw^k/M)
theorem zor (N M:Nat):zfZ N M 0=N/M:=by simp[zfZ,Nat.mod_one]
theorem zl7 (N M:Nat):sRest N M 0=N%M:=by simp[sRest]
theorem zqm {N n:Nat}(M:Nat)(h:N<Bw^n):zfZ N M n=N:=by simp[zfZ,Nat.mod_eq_of_lt h,Nat.div_eq_of_lt h]
theorem zos {N n:Nat}(M:Nat)(h:N<Bw^n):sRest N M n=0:=by simp[sRest,Nat.div_eq_of_lt h]
theorem zsb {N n k:Nat}(M:Nat)(h:N<Bw^n):zfZ N M k<Bw^n:=by
 have h1:N/Bw^k/M<=N/Bw^k:=Nat.div_le_self _ _
 have h2:=Nat.mul_le_mul_left (Bw^k) h1
 have h3:=Nat.mod_add_div N (Bw^k)
 unfold zfZ
 omega
theorem zu4 {N M i:Nat}:dig (zfZ N M (i+1)) i=dig N i:=by
 unfold zfZ
 rw[zdG (Nat.mod_lt _ (zag _)),if_pos (by omega)]
 have:=zdG (Y:=N/Bw^(i+1)) (Nat.mod_lt N (zag (i+1))) i
 rw[if_pos (by omega),Nat.mod_add_div]at this
 exact this.symm
theorem zu5 (N i:Nat):N/Bw^i=N/Bw^(i+1)*4294967296+dig N i:=by
 unfold dig
 rw[Nat.pow_succ,<-Nat.div_div_eq_div_mul,<-za4,Nat.mul_comm,Nat.div_add_mod]
theorem zvH {x M q r d B:Nat}(h:r+M*q=x):x*B+d=(r*B+d)+M*(q*B):=by
 rw[<-h,Nat.add_mul,Nat.mul_assoc]
 omega
theorem zti {N M i:Nat}(hM:0<M):sRest N M i=(sRest N M (i+1)*4294967296+dig N i)%M/\N/Bw^i/M=N/Bw^(i+1)/M*4294967296+(sRest N M (i+1)*4294967296+dig N i)/M:=by
 unfold sRest
 rw[zu5 N i,zvH (B:=4294967296) (d:=dig N i) (Nat.mod_add_div (N/Bw^(i+1)) M)]
 exact⟨Nat.add_mul_mod_self_left _ _ _,by rw[Nat.add_mul_div_left _ _ hM,Nat.add_comm]⟩
theorem zvI {N M i O':Nat}(hM:0<M)(h:O'+dig (zfZ N M (i+1)) i*Bw^i=zfZ N M (i+1)+(sRest N M (i+1)*4294967296+dig N i)/M*Bw^i):O'=zfZ N M i:=by
 have e0:=(zti (N:=N) (i:=i) hM).2
 rw[zu4]at h
 unfold zfZ at h ⊢
 rw[e0,Nat.mul_add]
 rw[zaQ]at h
 obtain⟨y,hy⟩:∃y,(sRest N M (i+1)*4294967296+dig N i)/M=y:=⟨_,rfl⟩
 obtain⟨z,hz⟩:∃z,N/Bw^(i+1)/M=z:=⟨_,rfl⟩
 rw[hy,hz]at h ⊢
 have e1:Bw^(i+1)*z=Bw^i*(z*4294967296):=by rw[Nat.pow_succ,za4];ac_rfl
 have e2:dig N i*Bw^i=Bw^i*dig N i:=Nat.mul_comm _ _
 have e3:y*Bw^i=Bw^i*y:=Nat.mul_comm _ _
 omega
structure ShortI (w:World) (b g n c N M:Nat) (A:Option Addr) (k:Nat) (W:World):Prop where
 kn:k<=n
 sb:W.cell? ⟨b,0,none⟩=some (.slice A n c)
 bN:Boxed W w.heap.size 92 (.int .u32 (M:Nat))
 bQ:Boxed W (w.heap.size+1) 23 (.slice A n c)
 bR:Boxed W (w.heap.size+1+1) 92 (.int .u32 (sRest N M k:Nat))
 row:Buf W g n (zfZ N M k)
 below:Below w.heap.size w W
theorem zhI {w:World}{b g n c N M B:Nat}{A:Option Addr}(hB:w.heap.size<=B):OwnFrom B (ShortI w b g n c N M A):=by
 rintro s W W' row ⟨h0,h1,h2,h3,h4,h5,h6⟩ hg hr
 have hr':=fun r e=>(hr r e).2
 exact⟨h0,cell_kept h1 hg hr',za7 h2 hg hr',za7 h3 hg hr',za7 h4 hg hr',h5.kept hg hr',h6.grown hg h6.size (fun r e=>by have:=(hr r e).1;omega)⟩
theorem zl8 {w:World}{b g n c N M:Nat}{A:Option Addr}(hA:0<n->A=some ⟨g,0,none⟩)(k:Nat)(W:World)(h:ShortI w b g n c N M A k W):zu3 b A n c (dig N) k W:=
 ⟨h.sb,h.kn,fun i hi=>⟨_,hA (by have:=h.kn;omega),by
  subst hi
  rw[zaW,(h.row i (by have:=h.kn;omega)).1,zu4]⟩⟩
theorem zkQ {w:World}{b g n c N M i:Nat}{A:Option Addr}(hN:N<Bw^n)(hM:0<M)(hg:w.heap.size+2<g)(hb:w.heap.size+2<b/\g<b){W:World}(h:ShortI w b g n c N M A (i+1) W):
  ShortI w b g n c N M A i ((W.setCell ⟨g,i,none⟩ (.int .u32 ((sRest N M (i+1)*4294967296+dig N i)/M:Nat))).setCell ⟨w.heap.size+1+1,0,none⟩ (.int .u32 ((sRest N M (i+1)*4294967296+dig N i)%M:Nat))):=by
 obtain⟨h0,h1,h2,h3,h4,h5,h6⟩:=h
 have hr:sRest N M (i+1)<M:=Nat.mod_lt _ hM
 have hy:(sRest N M (i+1)*4294967296+dig N i)/M<4294967296:=by
  rw[Nat.div_lt_iff_lt_mul hM]
  have:(sRest N M (i+1)+1)*4294967296<=M*4294967296:=Nat.mul_le_mul_right _ hr
  have:=zav N i
  rw[Nat.mul_comm 4294967296]
  omega
 obtain⟨O',o1,o2,o3⟩:=h5.set (m:=n) (p:=i) (zsb M hN) (by omega) hy
 rw[zvI hM o3]at o1
 rw[<-(zti (N:=N) (i:=i) hM).1]
 have hG1:=wrote W g i (.int .u32 ((sRest N M (i+1)*4294967296+dig N i)/M:Nat))
 have b1:=h1
 have bx:=(h4.kept hG1 (zaq (by omega)))
 have hG2:=wrote (W.setCell ⟨g,i,none⟩ (.int .u32 ((sRest N M (i+1)*4294967296+dig N i)/M:Nat))) (w.heap.size+1+1) 0 (.int .u32 (sRest N M i:Nat))
 have hgs:g<W.heap.size:=by
  have:=(h5 i (by omega)).1
  rcases zv6 g W.heap.size with h|h
  ·exact h
  ·simp[World.cell?,Array.getElem?_eq_none h]at this
 refine⟨by omega,hG2.cell (hG1.cell h1 (zaq (a:=b) (by omega))) (zaq (a:=b) (by omega)),(h2.kept hG1 (zaq (by omega))).kept hG2 (zaq (by omega)),(h3.kept hG1 (zaq (by omega))).kept hG2 (zaq (by omega)),bx.set _,o1.grown hG2 (zaq (by omega)) (zv3 hgs hG1.size),?_⟩
 exact(h6.setCell (p:=⟨g,i,none⟩) (by simp only;omega) _).setCell (p:=⟨w.heap.size+1+1,0,none⟩) (by simp only;omega) _
def ze1 (w:World)(N M:Nat)(e:Ending)(w':World):Prop:=
 ∃A c,e= .returned (.tuple #[.slice A (lenL (N/M)) c,.int .u32 (N%M:Nat),.int .i64 0])/\lenL (N/M)<=c/\c<=maxLen/\Fr w' w.heap.size w'.heap.size A (lenL (N/M)) (N/M)/\Below w.heap.size w w'
theorem zhJ {w w':World}(h:Below w.drew.heap.size w.drew w'):Below w.heap.size w w':=⟨h.os,h.tape,h.output,h.size,h.block⟩
theorem zeh {w W w1:World}{N M z kd cq:Nat}{Aq:Option Addr}{v0:Value}(hbel:Below w.heap.size w W)(hkd:w.heap.size+2<kd)(hKl:kd<W.heap.size)(hK:W.heap[kd]?=some (.deferred (some [])))(x4:Below W.heap.size W w1)
  (bq:Boxed w1 (w.heap.size+1) 23 v0) (br:Boxed w1 (w.heap.size+1+1) 92 (.int .u32 (z:Nat))) (x3:Fr w1 W.drew.heap.size w1.heap.size Aq (lenL (N/M)) (N/M)) (x1:lenL (N/M)<=cq) (x2:cq<=maxLen) (hz:N%M=z):
  ((
   w1.setCell ⟨w.heap.size+1,0,none⟩ (.slice Aq (lenL (N/M)) cq)).setCell ⟨w.heap.size+1+1,0,none⟩ (.int .u32 (z:Nat))).heap[kd]?=some (.deferred (some []))/\
   (((w1.setCell ⟨w.heap.size+1,0,none⟩ (.slice Aq (lenL (N/M)) cq)).setCell ⟨w.heap.size+1+1,0,none⟩ (.int .u32 (z:Nat))).putObj kd (.deferred none)).cell? ⟨w.heap.size+1,0,none⟩=some (.slice Aq (lenL (N/M)) cq)/\
   (((w1.setCell ⟨w.heap.size+1,0,none⟩ (.slice Aq (lenL (N/M)) cq)).setCell ⟨w.heap.size+1+1,0,none⟩ (.int .u32 (z:Nat))).putObj kd (.deferred none)).cell? ⟨w.heap.size+1+1,0,none⟩=some (.int .u32 (z:Nat))/\
   ze1 w N M (.returned (.tuple #[.slice Aq (lenL (N/M)) cq,.int .u32 (z:Nat),.int .i64 0])) (((w1.setCell ⟨w.heap.size+1,0,none⟩ (.slice Aq (lenL (N/M)) cq)).setCell ⟨w.heap.size+1+1,0,none⟩ (.int .u32 (z:Nat))).putObj kd (.deferred none)):=by
 have hG2:=wrote (w1.setCell ⟨w.heap.size+1,0,none⟩ (.slice Aq (lenL (N/M)) cq)) (w.heap.size+1+1) 0 (.int .u32 (z:Nat))
 have hG1:=wrote w1 (w.heap.size+1) 0 (.slice Aq (lenL (N/M)) cq)
 have hK1:=(x4.block kd hKl).trans hK
 have hs1:=x4.size
 have hK3:=(hG2.block kd (by have:=hG1.size;omega) (zaq (by omega))).trans ((hG1.block kd (by omega) (zaq (by omega))).trans hK1)
 have bq3:=(bq.set (.slice Aq (lenL (N/M)) cq)).kept hG2 (zaq (by omega))
 have br3:=(br.kept hG1 (zaq (by omega))).set (.int .u32 (z:Nat))
 have hws:w.heap.size+2<W.heap.size:=by omega
 have hX:=(x3.setCell (g:=w.heap.size+1) (p:=0) (by show w.heap.size+1<W.heap.size;omega) (.slice Aq (lenL (N/M)) cq)).setCell (g:=w.heap.size+1+1) (p:=0) (by show w.heap.size+1+1<W.heap.size;omega) (.int .u32 (z:Nat))
 have hb3:=((hbel.trans (x4.mono (by omega))).setCell (p:=⟨w.heap.size+1,0,none⟩) (by simp only;omega) (.slice Aq (lenL (N/M)) cq)).setCell (p:=⟨w.heap.size+1+1,0,none⟩) (by simp only;omega) (.int .u32 (z:Nat))
 have hsz:((w1.setCell ⟨w.heap.size+1,0,none⟩ (.slice Aq (lenL (N/M)) cq)).setCell ⟨w.heap.size+1+1,0,none⟩ (.int .u32 (z:Nat))).heap.size=w1.heap.size:=by rw[World.size_setCell,World.size_setCell]
 obtain⟨W3,hW3⟩:∃W3,(w1.setCell ⟨w.heap.size+1,0,none⟩ (.slice Aq (lenL (N/M)) cq)).setCell ⟨w.heap.size+1+1,0,none⟩ (.int .u32 (z:Nat))=W3:=⟨_,rfl⟩
 rw[hW3]at hK3 bq3 br3 hX hb3 hsz ⊢
 have hgp:=grownBy_putObj' W3 kd (.deferred none)
 have hgr:∀r,some kd=some r->∃o:Obj,W3.heap[r]?=some o/\o.isCells=false:=fun r e=>by cases e;exact⟨_,hK3,rfl⟩
 have hs4:(W3.putObj kd (.deferred none)).heap.size=W3.heap.size:=by simp[World.putObj]
 refine⟨hK3,(za7 bq3 hgp hgr).cell,(za7 br3 hgp hgr).cell,Aq,cq,by rw[hz],x1,x2,((hX.kept hgp hgr).from (show w.heap.size<=W.heap.size by omega)).more (by omega),hb3.trans (belowK_b (w:=w) zv0 W3 kd _ _ (by omega) hK3 rfl rfl)⟩
theorem zqn (A:Option Addr)(n c N M:Nat)(w:World)(h:Rd w w.heap.size A n N)(hc:n<=c)(hcm:c<=maxLen)(hb:n<=1000000000)(hM:0<M)(hM2:M<4294967296):
  CallsIn Fence.wide 10 Tryz.prog 222 #[.slice A n c,.int .u32 (M:Nat)] w (ze1 w N M):=by
 have hMi: ¬(M:Int)=0:=by omega
 have hMi2:((M:Int)==0)=false:=by simp;omega
 have hB1:=(Below.refl w.heap.size w).alloc zv0 (.cells #[.int .u32 (M:Nat)] 92)
 have hB2:=hB1.alloc hB1.size (.cells #[.slice none 0 0] 23)
 have hB3:=hB2.alloc hB2.size (.cells #[.int .u32 0] 92)
 have bN:=((Boxed.new w 92 (.int .u32 (M:Nat))).alloc (.cells #[.slice none 0 0] 23)).alloc (.cells #[.int .u32 0] 92)
 have bQ:=(Boxed.new (w.alloc (.cells #[.int .u32 (M:Nat)] 92)) 23 (.slice none 0 0)).alloc (.cells #[.int .u32 0] 92)
 have bR:=Boxed.new ((w.alloc (.cells #[.int .u32 (M:Nat)] 92)).alloc (.cells #[.slice none 0 0] 23)) 92 (.int .u32 0)
 have hs3:(((w.alloc (.cells #[.int .u32 (M:Nat)] 92)).alloc (.cells #[.slice none 0 0] 23)).alloc (.cells #[.int .u32 0] 92)).heap.size=w.heap.size+3:=by simp
 rw[World.size_alloc,World.size_alloc]at bR
 rw[World.size_alloc]at bQ
 have ET:=zvY (zc1 _ A n c N ((h.below hB3).more hB3.size) hc hcm)
 have BN:=zvY bN
 have BQ:=zvY bQ
 have BR:=zvY bR
 clear bN bQ bR hB1 hB2
 refine callsIn_of_wp_marks Tryz.func222 rfl trivial ?_ rfl
 simp only[Tryz.ntmps222,List.size_toArray,List.length_cons,List.length_nil,Nat.reduceAdd,Nat.reduceSub,Array.replicate_succ,Array.replicate_zero,List.push_toArray,List.append_toArray,List.nil_append,List.cons_append]
 gi_wp2_with fail
 refine⟨trivial,?_⟩
 refine(callsIn_wide.2 ET.out).mono ?_
 rintro e w4 ⟨At,ct,rfl,a1,a2,a3,a4⟩
 obtain⟨w3,hw3⟩:∃w3,((w.alloc (.cells #[.int .u32 (M:Nat)] 92)).alloc (.cells #[.slice none 0 0] 23)).alloc (.cells #[.int .u32 0] 92)=w3:=⟨_,rfl⟩
 rw[hw3]at BN BQ BR hs3 hB3 a3 a4
 have hs4:=a4.size
 have bN4:=zaI BN.out a4 (by omega)
 have bQ4:=zaI BQ.out a4 (by omega)
 have bR4:=zaI BR.out a4 (by omega)
 have hB4:=hB3.trans (a4.mono hB3.size)
 obtain⟨g,hgA,hgl⟩:∃g,(0<lenL N->At=some ⟨g,0,none⟩)/\(0<lenL N->w.heap.size+2<g/\g<w4.heap.size):=by
  rcases zv7 (lenL N)with h0|h0
  ·exact⟨0,fun h=>by omega,fun h=>by omega⟩
  ·obtain⟨g,e,h1,h2,_⟩:=a3.2 h0
   exact⟨g,fun _=>e,fun _=>⟨by omega,h2⟩⟩
 have hBuf:Buf w4 g (lenL N) N:=fun j hj=>by
  obtain⟨g',e,_,_,hcs⟩:=a3.2 (by omega)
  rw[hgA (by omega)]at e
  cases e
  exact hcs j hj
 have hc4:=bQ4.cell
 have hf4:=bQ4.frozen
 have hln:=zai.2 h.1
 have HBuf:=zvY hBuf
 have HgA:=zvY hgA
 have Hgl:=zvY hgl
 clear BN BQ BR ET hw3 a3 hBuf hgA hgl
 gi_wp2_with (refine⟨trivial,?_⟩;gi_at_call 233;refine(callsIn_wide.2 (callsIn_wide.1 (zkP _ _ _ _))).mono ?_;rintro e w' ⟨rfl,rfl⟩)
 have hW5:=wrote w4 (w.heap.size+1) 0 (.slice At (lenL N) ct)
 have bQ5:=(bQ4.set (.slice At (lenL N) ct)).alloc (.cells #[.slice At (lenL N:Nat) ct] 23)
 have hGa:=World.grownBy_alloc (w4.setCell ⟨w.heap.size+1,0,none⟩ (.slice At (lenL N) ct)) (.cells #[.slice At (lenL N:Nat) ct] 23) none
 have hs5:(w4.setCell ⟨w.heap.size+1,0,none⟩ (.slice At (lenL N) ct)).heap.size=w4.heap.size:=World.size_setCell _ _ _
 have bB:=Boxed.new (w4.setCell ⟨w.heap.size+1,0,none⟩ (.slice At (lenL N) ct)) 23 (.slice At (lenL N:Nat) ct)
 rw[hs5]at bB
 have hI0:ShortI w w4.heap.size g (lenL N) ct N M At (lenL N) ((w4.setCell ⟨w.heap.size+1,0,none⟩ (.slice At (lenL N) ct)).alloc (.cells #[.slice At (lenL N:Nat) ct] 23)):=
  ⟨Nat.le_refl _,bB.cell,(bN4.kept hW5 (zaq (by omega))).alloc _,bQ5,by rw[zos M (zaF N)];exact(bR4.kept hW5 (zaq (by omega))).alloc _,by
   rw[zqm M (zaF N)]
   intro j hj
   have hgl:=Hgl.out (by omega)
   exact((HBuf.out.grown hW5 (zaq (by omega)) hgl.2).grown hGa (by simp) (by rw[hs5];exact hgl.2)) j hj,(hB4.setCell (p:=⟨w.heap.size+1,0,none⟩) (by simp only;omega) _).alloc (by rw[hs5];omega) _⟩
 have hs0:((w4.setCell ⟨w.heap.size+1,0,none⟩ (.slice At (lenL N) ct)).alloc (.cells #[.slice At (lenL N:Nat) ct] 23)).heap.size=w4.heap.size+1:=by rw[World.size_alloc,hs5]
 obtain⟨W0,hW0⟩:∃W0,(w4.setCell ⟨w.heap.size+1,0,none⟩ (.slice At (lenL N) ct)).alloc (.cells #[.slice At (lenL N:Nat) ct] 23)=W0:=⟨_,rfl⟩
 rw[hW0]at hI0 hs0 ⊢
 have HI0:=zvY hI0
 clear hI0 hW5 bQ5 hGa bB hW0 bN4 bQ4 bR4 hc4 hf4
 refine za5 rfl (by omega) (gf:=242) (lb:= #[.pointer (some ⟨w4.heap.size,0,none⟩)]) rfl trivial (enters_of Tryz.func242 (by kernel_rfl) rfl)
  (fun _=>rfl) (ShortI w w4.heap.size g (lenL N) ct N M At) (fun _ _ _=>False) (zhI (by omega)) (fun _ _ _ _ _ h _ _=>h)
  HI0.out
  (zgT w4.heap.size At (lenL N) ct (dig N) (by omega) (zav N) _ (fun k W h=>zl8 HgA.out k W h) Fence.wide rfl)
  (fun x=> { tmps:= #[.slice A n c,.int .u32 (M:Nat),undef,.pointer (some ⟨w.heap.size,0,none⟩),.pointer (some ⟨w.heap.size+1,0,none⟩),.pointer (some ⟨w.heap.size+1+1,0,none⟩),.int .i64 0,.int .i64 (x.1:Nat),.int .u32 (x.2:Nat),
     .int .u32 (M:Nat),.bool false,.slice A n c,.slice At (lenL N) ct,.slice At (lenL N) ct,.func (.func 242) #[] #[.pointer (some ⟨w4.heap.size,0,none⟩)],.int .i64 (x.1:Nat),.int .u32 (x.2:Nat),undef,undef,undef,undef,undef,undef,undef,undef,undef,undef,undef,undef,undef],defers:=[] }) ?assign ?body ?done ?stop
 case assign=>
  intro l x W K hK
  gi_wp2
  exact hK
 case body=>
  rintro l s ⟨i,d⟩ W hI ⟨hs,hd⟩
  simp only at hs hd
  subst hs hd
  have hcQ:=hI.bQ.cell
  have hcR:=hI.bR.cell
  have hfR:=hI.bR.frozen
  have hcN:=hI.bN.cell
  have hil:i<lenL N:=hI.kn
  have hgl:=Hgl.out (by omega)
  have hAt:=HgA.out (by omega)
  obtain⟨hc1,hc2⟩:=hI.row i hil
  have hr:sRest N M (i+1)<M:=Nat.mod_lt _ hM
  have ED:=zvY (fun W=>zoq W (sRest N M (i+1)) (dig N i) M hr (zav _ _) hM2)
  have HO:=zvY (fun W1 (hg:W.grownBy W1 none)=>zhI (B:=w.heap.size) zv0 _ W W1 none hI hg (fun r e=>by cases e))
  have HN:=zvY (fun W' (h:ShortI w w4.heap.size g (lenL N) ct N M At (i+1) W')=>zkQ (zaF N) hM hgl.1 ⟨by omega,hgl.2⟩ h)
  obtain⟨y,hy⟩:∃y,(sRest N M (i+1)*4294967296+dig N i)/M=y:=⟨_,rfl⟩
  obtain⟨z,hz⟩:∃z,(sRest N M (i+1)*4294967296+dig N i)%M=z:=⟨_,rfl⟩
  obtain⟨r,hrr⟩:∃r,sRest N M (i+1)=r:=⟨_,rfl⟩
  rw[hy,hz]at ED HN
  rw[hrr]at ED hcR
  obtain⟨o,ho⟩:∃o,dig (zfZ N M (i+1)) i=o:=⟨_,rfl⟩
  rw[ho]at hc1
  have HK:=zvY (fun W1 (hg:W.grownBy W1 none)=>(KeepsFrom.of_grownBy (B:=W0.heap.size) hg (fun j e=>by cases e)).trans ((KeepsFrom.of_grownBy (wrote W1 g i (.int .u32 (y:Nat))) (fun j e=>by cases e;omega)).trans (KeepsFrom.of_grownBy (wrote (W1.setCell ⟨g,i,none⟩ (.int .u32 (y:Nat))) (w.heap.size+1+1) 0 (.int .u32 (z:Nat))) (fun j e=>by cases e;omega))))
  have hgi:(⟨g,0,none⟩:Addr).add i=⟨g,i,none⟩:=zaW g i
  have hne:g≠w.heap.size+1+1:=by omega
  clear hI hr hy hz hrr ho
  subst hAt
  gi_wp2
  refine zcI (by kernel_rfl) (by kernel_rfl) ?_
  refine zie 1 ?_
  refine zie 3 ?_
  refine zbx [0,2,4] ?_
  refine zbf (fun K hK=>?_) ?_
  ·go_simp
   refine hK _ _ ?_
   clear hK K
   refine zbx [2,4] ?_
   refine zbf (fun K hK=>?_) ?_
   ·go_simp
    refine hK _ _ ?_
    clear hK K
    refine zbx [4] ?_
    refine zbf (fun K hK=>?_) ?_
    ·go_simp
     refine hK _ _ ?_
     clear hK K
     refine zbx [5] ?_
     refine zbf (fun K hK=>?_) ?_
     ·go_simp
      refine⟨trivial,(callsIn_wide.2 (ED.out _)).mono ?_⟩
      rintro e w1 ⟨rfl,k1,rfl⟩
      refine hK _ _ ?_
      clear hK K
      refine zie 6 ?_
      refine zdj 7 (.int .u32 (y:Nat)) ?_
      refine zdj 8 (.int .u32 (z:Nat)) ?_
      refine zdj 9 (.pointer (some ⟨g,i,none⟩)) ?_
      refine zbx [10] ?_
      refine zbf (fun K hK=>?_) ?_
      ·go_simp
       refine hK _ _ ?_
       clear hK K
       refine zbx [11] ?_
       refine zbf (fun K hK=>?_) ?_
       ·go_simp
        refine hK _ _ ?_
        clear hK K
        refine wpAnyIn_done (by kernel_rfl) ?_ _
        exact⟨HK.out _ (zaJ W _ none),HN.out _ (HO.out _ (zaJ W _ none))⟩
       exact AllReadyIn.nil
      exact AllReadyIn.nil
     exact AllReadyIn.nil
    exact AllReadyIn.nil
   refine zbf (fun K hK=>?_) ?_
   ·go_simp
    refine hK _ _ ?_
    clear hK K
    refine zbx [2] ?_
    refine zbf (fun K hK=>?_) ?_
    ·go_simp
     refine hK _ _ ?_
     clear hK K
     refine zbx [5] ?_
     refine zbf (fun K hK=>?_) ?_
     ·go_simp
      refine⟨trivial,(callsIn_wide.2 (ED.out _)).mono ?_⟩
      rintro e w1 ⟨rfl,k1,rfl⟩
      refine hK _ _ ?_
      clear hK K
      refine zie 6 ?_
      refine zdj 7 (.int .u32 (y:Nat)) ?_
      refine zdj 8 (.int .u32 (z:Nat)) ?_
      refine zdj 9 (.pointer (some ⟨g,i,none⟩)) ?_
      refine zbx [10] ?_
      refine zbf (fun K hK=>?_) ?_
      ·go_simp
       refine hK _ _ ?_
       clear hK K
       refine zbx [11] ?_
       refine zbf (fun K hK=>?_) ?_
       ·go_simp
        refine hK _ _ ?_
        clear hK K
        refine wpAnyIn_done (by kernel_rfl) ?_ _
        exact⟨HK.out _ (zaJ W _ none),HN.out _ (HO.out _ (zaJ W _ none))⟩
       exact AllReadyIn.nil
      exact AllReadyIn.nil
     exact AllReadyIn.nil
    exact AllReadyIn.nil
   exact AllReadyIn.nil
  refine zbf (fun K hK=>?_) ?_
  ·go_simp
   refine hK _ _ ?_
   clear hK K
   refine zbx [0,4] ?_
   refine zbf (fun K hK=>?_) ?_
   ·go_simp
    refine hK _ _ ?_
    clear hK K
    refine zbx [4] ?_
    refine zbf (fun K hK=>?_) ?_
    ·go_simp
     refine hK _ _ ?_
     clear hK K
     refine zbx [5] ?_
     refine zbf (fun K hK=>?_) ?_
     ·go_simp
      refine⟨trivial,(callsIn_wide.2 (ED.out _)).mono ?_⟩
      rintro e w1 ⟨rfl,k1,rfl⟩
      refine hK _ _ ?_
      clear hK K
      refine zie 6 ?_
      refine zdj 7 (.int .u32 (y:Nat)) ?_
      refine zdj 8 (.int .u32 (z:Nat)) ?_
      refine zdj 9 (.pointer (some ⟨g,i,none⟩)) ?_
      refine zbx [10] ?_
      refine zbf (fun K hK=>?_) ?_
      ·go_simp
       refine hK _ _ ?_
       clear hK K
       refine zbx [11] ?_
       refine zbf (fun K hK=>?_) ?_
       ·go_simp
        refine hK _ _ ?_
        clear hK K
        refine wpAnyIn_done (by kernel_rfl) ?_ _
        exact⟨HK.out _ (zaJ W _ none),HN.out _ (HO.out _ (zaJ W _ none))⟩
       exact AllReadyIn.nil
      exact AllReadyIn.nil
     exact AllReadyIn.nil
    exact AllReadyIn.nil
   refine zbf (fun K hK=>?_) ?_
   ·go_simp
    refine hK _ _ ?_
    clear hK K
    refine zbx [0,5] ?_
    refine zbf (fun K hK=>?_) ?_
    ·go_simp
     refine hK _ _ ?_
     clear hK K
     refine zbx [5] ?_
     refine zbf (fun K hK=>?_) ?_
     ·go_simp
      refine⟨trivial,(callsIn_wide.2 (ED.out _)).mono ?_⟩
      rintro e w1 ⟨rfl,k1,rfl⟩
      refine hK _ _ ?_
      clear hK K
      refine zie 6 ?_
      refine zdj 7 (.int .u32 (y:Nat)) ?_
      refine zdj 8 (.int .u32 (z:Nat)) ?_
      refine zdj 9 (.pointer (some ⟨g,i,none⟩)) ?_
      refine zbx [10] ?_
      refine zbf (fun K hK=>?_) ?_
      ·go_simp
       refine hK _ _ ?_
       clear hK K
       refine zbx [11] ?_
       refine zbf (fun K hK=>?_) ?_
       ·go_simp
        refine hK _ _ ?_
        clear hK K
        refine wpAnyIn_done (by kernel_rfl) ?_ _
        exact⟨HK.out _ (zaJ W _ none),HN.out _ (HO.out _ (zaJ W _ none))⟩
       exact AllReadyIn.nil
      exact AllReadyIn.nil
     exact AllReadyIn.nil
    refine zbf (fun K hK=>?_) ?_
    ·go_simp
     refine⟨trivial,(callsIn_wide.2 (ED.out _)).mono ?_⟩
     rintro e w1 ⟨rfl,k1,rfl⟩
     refine hK _ _ ?_
     clear hK K
     refine zie 6 ?_
     refine zdj 7 (.int .u32 (y:Nat)) ?_
     refine zdj 8 (.int .u32 (z:Nat)) ?_
     refine zbx [0] ?_
     refine zbf (fun K hK=>?_) ?_
     ·go_simp
      refine hK _ _ ?_
      clear hK K
      refine zdj 9 (.pointer (some ⟨g,i,none⟩)) ?_
      refine zbx [10] ?_
      refine zbf (fun K hK=>?_) ?_
      ·go_simp
       refine hK _ _ ?_
       clear hK K
       refine zbx [11] ?_
       refine zbf (fun K hK=>?_) ?_
       ·go_simp
        refine hK _ _ ?_
        clear hK K
        refine wpAnyIn_done (by kernel_rfl) ?_ _
        exact⟨HK.out _ (zaJ W _ none),HN.out _ (HO.out _ (zaJ W _ none))⟩
       exact AllReadyIn.nil
      exact AllReadyIn.nil
     exact AllReadyIn.nil
    exact AllReadyIn.nil
   exact AllReadyIn.nil
  refine zbf (fun K hK=>?_) ?_
  ·go_simp
   refine hK _ _ ?_
   clear hK K
   refine zbx [0,2] ?_
   refine zbf (fun K hK=>?_) ?_
   ·go_simp
    refine hK _ _ ?_
    clear hK K
    refine zbx [2] ?_
    refine zbf (fun K hK=>?_) ?_
    ·go_simp
     refine hK _ _ ?_
     clear hK K
     refine zbx [5] ?_
     refine zbf (fun K hK=>?_) ?_
     ·go_simp
      refine⟨trivial,(callsIn_wide.2 (ED.out _)).mono ?_⟩
      rintro e w1 ⟨rfl,k1,rfl⟩
      refine hK _ _ ?_
      clear hK K
      refine zie 6 ?_
      refine zdj 7 (.int .u32 (y:Nat)) ?_
      refine zdj 8 (.int .u32 (z:Nat)) ?_
      refine zdj 9 (.pointer (some ⟨g,i,none⟩)) ?_
      refine zbx [10] ?_
      refine zbf (fun K hK=>?_) ?_
      ·go_simp
       refine hK _ _ ?_
       clear hK K
       refine zbx [11] ?_
       refine zbf (fun K hK=>?_) ?_
       ·go_simp
        refine hK _ _ ?_
        clear hK K
        refine wpAnyIn_done (by kernel_rfl) ?_ _
        exact⟨HK.out _ (zaJ W _ none),HN.out _ (HO.out _ (zaJ W _ none))⟩
       exact AllReadyIn.nil
      exact AllReadyIn.nil
     exact AllReadyIn.nil
    exact AllReadyIn.nil
   refine zbf (fun K hK=>?_) ?_
   ·go_simp
    refine hK _ _ ?_
    clear hK K
    refine zbx [0,5] ?_
    refine zbf (fun K hK=>?_) ?_
    ·go_simp
     refine hK _ _ ?_
     clear hK K
     refine zbx [5] ?_
     refine zbf (fun K hK=>?_) ?_
     ·go_simp
      refine⟨trivial,(callsIn_wide.2 (ED.out _)).mono ?_⟩
      rintro e w1 ⟨rfl,k1,rfl⟩
      refine hK _ _ ?_
      clear hK K
      refine zie 6 ?_
      refine zdj 7 (.int .u32 (y:Nat)) ?_
      refine zdj 8 (.int .u32 (z:Nat)) ?_
      refine zdj 9 (.pointer (some ⟨g,i,none⟩)) ?_
      refine zbx [10] ?_
      refine zbf (fun K hK=>?_) ?_
      ·go_simp
       refine hK _ _ ?_
       clear hK K
       refine zbx [11] ?_
       refine zbf (fun K hK=>?_) ?_
       ·go_simp
        refine hK _ _ ?_
        clear hK K
        refine wpAnyIn_done (by kernel_rfl) ?_ _
        exact⟨HK.out _ (zaJ W _ none),HN.out _ (HO.out _ (zaJ W _ none))⟩
       exact AllReadyIn.nil
      exact AllReadyIn.nil
     exact AllReadyIn.nil
    refine zbf (fun K hK=>?_) ?_
    ·go_simp
     refine⟨trivial,(callsIn_wide.2 (ED.out _)).mono ?_⟩
     rintro e w1 ⟨rfl,k1,rfl⟩
     refine hK _ _ ?_
     clear hK K
     refine zie 6 ?_
     refine zdj 7 (.int .u32 (y:Nat)) ?_
     refine zdj 8 (.int .u32 (z:Nat)) ?_
     refine zbx [0] ?_
     refine zbf (fun K hK=>?_) ?_
     ·go_simp
      refine hK _ _ ?_
      clear hK K
      refine zdj 9 (.pointer (some ⟨g,i,none⟩)) ?_
      refine zbx [10] ?_
      refine zbf (fun K hK=>?_) ?_
      ·go_simp
       refine hK _ _ ?_
       clear hK K
       refine zbx [11] ?_
       refine zbf (fun K hK=>?_) ?_
       ·go_simp
        refine hK _ _ ?_
        clear hK K
        refine wpAnyIn_done (by kernel_rfl) ?_ _
        exact⟨HK.out _ (zaJ W _ none),HN.out _ (HO.out _ (zaJ W _ none))⟩
       exact AllReadyIn.nil
      exact AllReadyIn.nil
     exact AllReadyIn.nil
    exact AllReadyIn.nil
   exact AllReadyIn.nil
  exact AllReadyIn.nil
 case done=>
  rintro kd s W hD rfl hI hK
  obtain⟨_,_,_,hbQ,hbR,hrow,hbel⟩:=hI
  rw[zl7]at hbR
  rw[zor]at hrow
  have hKl:kd<W.heap.size:=(Array.getElem?_eq_some_iff.1 hK).1
  have hQN:N/M<Bw^lenL N:=zv4 (Nat.div_le_self _ _) (zaF N)
  have hRd:Rd W W.heap.size At (lenL N) (N/M):=⟨hQN,fun h0=>⟨_,HgA.out h0,by have:=(Hgl.out h0).2;simp only;omega,fun j hj=>by rw[zaW];exact(hrow j hj).1⟩⟩
  have ET:=zc1 W.drew At (lenL N) ct (N/M) hRd a1 a2 (by omega)
  have hcQ:=hbQ.cell
  have hcR:=hbR.cell
  have ET:=zvY ET
  have HBQ:=zvY hbQ
  have HBR:=zvY hbR
  have hzz:(N%M:Nat)=N%M:=rfl
  obtain⟨z,hz⟩:∃z,N%M=z:=⟨_,rfl⟩
  rw[hz]at hcR HBR
  clear hzz hrow hRd hbQ hbR
  gi_wp2
  have hkd:w.heap.size+2<kd:=by omega
  refine wpIn_region_any (by kernel_rfl) ?_
  change wpAnyIn _ _ _ _ _ _ _ _ _ (World.drew _)
  refine zbx [0,2] ?_
  refine zbf (fun K hK=>?_) ?_
  ·go_simp
   refine hK _ _ ?_
   clear hK K
   refine zbx [1,2] ?_
   refine zbf (fun K hK=>?_) ?_
   ·go_simp
    refine⟨trivial,(callsIn_wide.2 ET.out).mono ?_⟩
    rintro e w1 ⟨Aq,cq,rfl,x1,x2,x3,x4⟩
    replace x4:=zhJ x4
    replace x3:=zvY x3
    have bq1:=zvY (zaI HBQ.out x4 HBQ.out.lt)
    have br1:=zvY (zaI HBR.out x4 HBR.out.lt)
    have hcQ1:=bq1.out.cell
    have hfQ1:=bq1.out.frozen
    have hcR1:=br1.out.cell
    have hfR1:=br1.out.frozen
    refine hK _ _ ?_
    clear hK K
    refine zbx [2,3] ?_
    refine zbf (fun K hK=>?_) ?_
    ·go_simp
     refine hK _ _ ?_
     clear hK K
     refine zbx [3] ?_
     refine zbf (fun K hK=>?_) ?_
     ·go_simp
      refine hK _ _ ?_
      clear hK K
      refine zbx [4] ?_
      refine zbf (fun K hK=>?_) ?_
      ·go_simp
       refine hK _ _ ?_
       clear hK K
       refine zbx [5] ?_
       refine zbf (fun K hK=>?_) ?_
       ·go_simp
        refine hK _ _ ?_
        clear hK K
        refine wpAnyIn_done (by kernel_rfl) ?_ _
        gi_wp2
        obtain⟨t1,t2,t3,t4⟩:=zeh hbel hkd hKl hK x4 bq1.out br1.out x3.out x1 x2 hz
        refine⟨by simp,.inl ⟨_,_,rfl,run_takeDeferred t1,?_⟩⟩
        exact⟨_,by rw[zch rfl];go_simp,t4⟩
       exact AllReadyIn.nil
      exact AllReadyIn.nil
     exact AllReadyIn.nil
    refine zbf (fun K hK=>?_) ?_
    ·go_simp
     refine hK _ _ ?_
     clear hK K
     refine zbx [2] ?_
     refine zbf (fun K hK=>?_) ?_
     ·go_simp
      refine hK _ _ ?_
      clear hK K
      refine zbx [4] ?_
      refine zbf (fun K hK=>?_) ?_
      ·go_simp
       refine hK _ _ ?_
       clear hK K
       refine zbx [5] ?_
       refine zbf (fun K hK=>?_) ?_
       ·go_simp
        refine hK _ _ ?_
        clear hK K
        refine wpAnyIn_done (by kernel_rfl) ?_ _
        gi_wp2
        obtain⟨t1,t2,t3,t4⟩:=zeh hbel hkd hKl hK x4 bq1.out br1.out x3.out x1 x2 hz
        refine⟨by simp,.inl ⟨_,_,rfl,run_takeDeferred t1,?_⟩⟩
        exact⟨_,by rw[zch rfl];go_simp,t4⟩
       exact AllReadyIn.nil
      exact AllReadyIn.nil
     exact AllReadyIn.nil
    exact AllReadyIn.nil
   refine zbf (fun K hK=>?_) ?_
   ·go_simp
    refine hK _ _ ?_
    clear hK K
    refine zbx [1] ?_
    refine zbf (fun K hK=>?_) ?_
    ·go_simp
     refine⟨trivial,(callsIn_wide.2 ET.out).mono ?_⟩
     rintro e w1 ⟨Aq,cq,rfl,x1,x2,x3,x4⟩
     replace x4:=zhJ x4
     replace x3:=zvY x3
     have bq1:=zvY (zaI HBQ.out x4 HBQ.out.lt)
     have br1:=zvY (zaI HBR.out x4 HBR.out.lt)
     have hcQ1:=bq1.out.cell
     have hfQ1:=bq1.out.frozen
     have hcR1:=br1.out.cell
     have hfR1:=br1.out.frozen
     refine hK _ _ ?_
     clear hK K
     refine zbx [3] ?_
     refine zbf (fun K hK=>?_) ?_
     ·go_simp
      refine hK _ _ ?_
      clear hK K
      refine zbx [4] ?_
      refine zbf (fun K hK=>?_) ?_
      ·go_simp
       refine hK _ _ ?_
       clear hK K
       refine zbx [5] ?_
       refine zbf (fun K hK=>?_) ?_
       ·go_simp
        refine hK _ _ ?_
        clear hK K
        refine wpAnyIn_done (by kernel_rfl) ?_ _
        gi_wp2
        obtain⟨t1,t2,t3,t4⟩:=zeh hbel hkd hKl hK x4 bq1.out br1.out x3.out x1 x2 hz
        refine⟨by simp,.inl ⟨_,_,rfl,run_takeDeferred t1,?_⟩⟩
        exact⟨_,by rw[zch rfl];go_simp,t4⟩
       exact AllReadyIn.nil
      exact AllReadyIn.nil
     exact AllReadyIn.nil
    exact AllReadyIn.nil
   exact AllReadyIn.nil
  refine zbf (fun K hK=>?_) ?_
  ·go_simp
   refine hK _ _ ?_
   clear hK K
   refine zbx [0] ?_
   refine zbf (fun K hK=>?_) ?_
   ·go_simp
    refine hK _ _ ?_
    clear hK K
    refine zbx [1] ?_
    refine zbf (fun K hK=>?_) ?_
    ·go_simp
     refine⟨trivial,(callsIn_wide.2 ET.out).mono ?_⟩
     rintro e w1 ⟨Aq,cq,rfl,x1,x2,x3,x4⟩
     replace x4:=zhJ x4
     replace x3:=zvY x3
     have bq1:=zvY (zaI HBQ.out x4 HBQ.out.lt)
     have br1:=zvY (zaI HBR.out x4 HBR.out.lt)
     have hcQ1:=bq1.out.cell
     have hfQ1:=bq1.out.frozen
     have hcR1:=br1.out.cell
     have hfR1:=br1.out.frozen
     refine hK _ _ ?_
     clear hK K
     refine zbx [3] ?_
     refine zbf (fun K hK=>?_) ?_
     ·go_simp
      refine hK _ _ ?_
      clear hK K
      refine zbx [4] ?_
      refine zbf (fun K hK=>?_) ?_
      ·go_simp
       refine hK _ _ ?_
       clear hK K
       refine zbx [5] ?_
       refine zbf (fun K hK=>?_) ?_
       ·go_simp
        refine hK _ _ ?_
        clear hK K
        refine wpAnyIn_done (by kernel_rfl) ?_ _
        gi_wp2
        obtain⟨t1,t2,t3,t4⟩:=zeh hbel hkd hKl hK x4 bq1.out br1.out x3.out x1 x2 hz
        refine⟨by simp,.inl ⟨_,_,rfl,run_takeDeferred t1,?_⟩⟩
        exact⟨_,by rw[zch rfl];go_simp,t4⟩
       exact AllReadyIn.nil
      exact AllReadyIn.nil
     exact AllReadyIn.nil
    exact AllReadyIn.nil
   exact AllReadyIn.nil
  exact AllReadyIn.nil
 case stop=>
  rintro D c s W _ _ h _
  exact h.elim
theorem zot (A:Option Addr)(n c N M:Nat)(w:World)(h:Rd w w.heap.size A n N)(hc:n<=c)(hcm:c<=maxLen)(hb:n<=1000000000)(hM:0<M)(hM2:M<4294967296):
  Calls Tryz.prog 222 #[.slice A n c,.int .u32 (M:Nat)] w (ze1 w N M):=
 callsIn_wide.1 (zqn A n c N M w h hc hcm hb hM hM2)
end
theorem zl9 (A:Option Addr)(n c N M:Nat)(w:World)(h:Rd w w.heap.size A n N)(hc:n<=c)(hcm:c<=maxLen)(hb:n<=1000000000)(hM:0<M)(hM2:M<4294967296):
  Calls Tryz.prog 195 #[.slice A n c,.int .u32 (M:Nat)] w (zhK w (N/M) (N%M) fun a b=> .tuple #[a,b]):=by
 have ES:=zot A n c N M w h hc hcm hb hM hM2
 have hm:N%M<M:=Nat.mod_lt _ hM
 obtain⟨z,hz⟩:∃z,N%M=z:=⟨_,rfl⟩
 have EO:=zvY (fun W=>zgf W z (by omega))
 unfold ze1 at ES
 rw[hz]at ES hm ⊢
 have ES:=zvY ES
 have hzb:z<4294967296:=by omega
 go_enter Tryz.func195,Tryz.ntmps195
 go_wp2_with (go_at_call 222;refine ES.out.mono ?_;rintro e w1 ⟨A1,c1,rfl,a1,a2,a3,a4⟩;replace a3:=zvY a3)
 refine(EO.out w1).mono ?_
 rintro e w2 ⟨A2,c2,rfl,b1,b2,b3,b4⟩
 have HA:=zvY ((a3.out.keep b4).more b4.size)
 have HB:=zvY (b3.from a4.size)
 have hb:=a4.trans (b4.mono a4.size)
 clear b3 b4 a3
 go_wp2
 go_ret2
 exact⟨A1,c1,A2,c2,rfl,a1,a2,b1,b2,HA.out,HB.out,hb⟩
def ze2 (w:World)(N M:Nat):Ending->World->Prop:=zhK w (N/M) (zcl N M) fun a b=> .tuple #[a,b,.int .i64 (zfQ M)]
theorem zsc (A A':Option Addr)(n n' c c' N M:Nat)(w:World)(h:Rd w w.heap.size A n N)(h':Rd w w.heap.size A' n' M)(hc:n<=c)(hcm:c<=maxLen)(hc':n'<=c')(hcm':c'<=maxLen)(hb:n<=100000000)(hb':n'<=100000000):
  Calls Tryz.prog 156 #[.slice A n c,.slice A' n' c'] w (ze2 w N M):=by
 have E1:=zvY (zc1 w A n c N h hc hcm)
 have E2:=zvY (fun W (hB:Below w.heap.size w W)=>zc1 W A' n' c' M ((h'.below hB).more hB.size) hc' hcm' (by omega))
 have l1:=zai.2 h.1
 have l2:=zai.2 h'.1
 clear h h'
 go_enter Tryz.func156,Tryz.ntmps156
 go_wp2_with fail
 refine E1.out.mono ?_
 rintro e w1 ⟨At,ct,rfl,a1,a2,a3,a4⟩
 replace a3:=zvY a3
 go_wp2_with fail
 refine(E2.out w1 a4).mono ?_
 rintro e w2 ⟨Bt,dt,rfl,b1,b2,b3,b4⟩
 have HA:=zvY ((a3.out.keep b4).more b4.size)
 have HB:=zvY (b3.from a4.size)
 have hbel:=a4.trans (b4.mono a4.size)
 have hsz:=hbel.size
 clear b3 b4 a3 E1 E2
 obtain⟨lm,hlm⟩:∃lm,lenL M=lm:=⟨_,rfl⟩
 obtain⟨ln,hln⟩:∃ln,lenL N=ln:=⟨_,rfl⟩
 rw[hlm]at b1 l2 HB ⊢
 rw[hln]at a1 l1 HA ⊢
 have HLM:=zvY hlm
 have HLN:=zvY hln
 clear hlm hln
 rcases zv7 lm with h0|h0
 ·subst h0
  have hM:M=0:=zbF.1 HLM.out
  go_wp2
  go_ret3
  refine⟨none,0,none,0,?_,?_,by simp[maxLen],?_,by simp[maxLen],?_,?_,hbel⟩
  ·rw[hM,zcU,zfq,Nat.div_zero,zaS];rfl
  ·rw[hM,Nat.div_zero,zaS];exact Nat.le_refl _
  ·rw[hM,zcU,zaS];exact Nat.le_refl _
  ·rw[hM,Nat.div_zero,zaS];exact Fr.nil
  ·rw[hM,zcU,zaS];exact Fr.nil
 have hM:M≠0:=fun e=>by have:=HLM.out;rw[e,zaS]at this;omega
 have HP:=zvY (show ze2 w N M=zhK w (N/M) (N%M) fun a b=> .tuple #[a,b,.int .i64 0] by unfold ze2;rw[zcD hM,zeU hM])
 by_cases h1:lm=1
 ·subst h1
  obtain⟨g,hg,hcell⟩:=zpT HB.out.rd rfl
  subst hg
  have hM2:M<4294967296:=by
   have:=zai.1 (Nat.le_of_eq HLM.out)
   rwa [Nat.pow_one,za4]at this
  have ED:=zvY (zl9 At ln ct N M w2 (HA.out.rd) a1 a2 (by omega) (by omega) hM2)
  go_wp2_with (go_at_call 195;refine ED.out.mono ?_;rintro e w3 ⟨A3,c3,A4,c4,rfl,x1,x2,y1,y2,x3,y3,x4⟩;replace x3:=zvY x3;replace y3:=zvY y3)
  go_ret3
  change ze2 w N M _ _
  rw[HP.out]
  exact⟨A3,c3,A4,c4,rfl,x1,x2,y1,y2,x3.out.from hsz,y3.out.from hsz,hbel.trans (x4.mono hsz)⟩
 ·by_cases h2:ln<lm
  ·have hlt:N<M:=by
    rcases zv6 N M with h|h
    ·exact h
    ·have:=zaG h
     rw[HLM.out,HLN.out]at this
     omega
   have HQ:=zvY (show N/M=0/\N%M=N from⟨Nat.div_eq_of_lt hlt,Nat.mod_eq_of_lt hlt⟩)
   go_wp2
   go_ret3
   change ze2 w N M _ _
   rw[HP.out,HQ.out.1,HQ.out.2]
   refine⟨none,0,At,ct,?_,?_,by simp[maxLen],?_,a2,?_,?_,hbel⟩
   ·rw[zaS,HLN.out];rfl
   ·rw[zaS];exact Nat.le_refl _
   ·rw[HLN.out];exact a1
   ·rw[zaS];exact Fr.nil
   ·rw[HLN.out];exact HA.out
  ·obtain⟨k,rfl⟩:∃k,lm=k+1:=⟨lm - 1,by omega⟩
   have EB:=zvY (zkS At Bt ln k ct dt N M w2 HA.out.rd HB.out.rd a1 a2 b1 b2 (by omega) (by omega) (by omega) HLM.out)
   go_wp2_with (go_at_call 196;refine EB.out.mono ?_;rintro e w3 ⟨A3,c3,A4,c4,rfl,x1,x2,y1,y2,x3,y3,x4⟩;replace x3:=zvY x3;replace y3:=zvY y3)
   go_ret3
   change ze2 w N M _ _
   rw[HP.out]
   exact⟨A3,c3,A4,c4,rfl,x1,x2,y1,y2,x3.out.from hsz,y3.out.from hsz,hbel.trans (x4.mono hsz)⟩
end Go.Proofs.YtipckjmgdghkiaaGreatDoor
