/- A part. -/
import Derived.Laws.ResultCell
import Derived.Test.YtipckjmgdghkiaaGreatDoorGQuotA
import Derived.Test.YtipckjmgdghkiaaGreatDoorGProdB
set_option maxHeartbeats 4000000
set_option maxRecDepth 100000
namespace Go.Proofs.YtipckjmgdghkiaaGreatDoor
open Go Go.RowKit
section
attribute [local go_sem] Oper.semAt_some
theorem zkR (A A':Option Addr)(n c n' c':Nat)(w:World):
  CallsIn Fence.wide 0 Tryz.prog 225 #[.slice A n c,.slice A' n' c'] w fun e w'=>
   e= .returned (.func (.func 237) #[] #[.pointer (some ⟨w.heap.size+1,0,none⟩),.pointer (some ⟨w.heap.size,0,none⟩)])/\
   w'=(w.alloc (.cells #[.slice A n c] 23)).alloc (.cells #[.slice A' n' c'] 23):=by
 refine callsIn_wide.2 ?_
 go_enter Tryz.func225,Tryz.ntmps225
 go_wp2
 go_ret
 exact⟨rfl,rfl⟩
structure QSrc (bd br g L n cr cd V D m:Nat) (A':Option Addr) (s:Nat×Nat) (W:World):Prop where
 b1:W.cell? ⟨bd,0,none⟩=some (.slice A' n cd)
 b2:W.cell? ⟨br,0,none⟩=some (.slice (some ⟨g,0,none⟩) L cr)
 d1:Rn W g A' n D
 d2:Rd W W.heap.size A' n D
 r:Buf W g L (V%(D*Bw^s.2))
 g1:g<W.heap.size
 s1:s.1<=m
 s2:br<W.heap.size
def QMv (g L V D:Nat)(s s':Nat×Nat)(A B:World):Prop:=s.2=s.1/\s'=(s.1,s.1 - 1)/\A.grownBy B (some g)/\Buf B g L (V%(D*Bw^(s.1 - 1)))
theorem Buf.win {W:World}{g L O i n hi:Nat}(hb:Buf W g L O)(hO:O<Bw^(i+n))(hin:i+n<=L)(hg:g<hi):Rd W hi (some ⟨g,i,none⟩) n (O/Bw^i):=
 ⟨by rw[Nat.div_lt_iff_lt_mul (zag i),Nat.mul_comm,<-Nat.pow_add];exact hO,fun _=>⟨_,rfl,hg,fun j hj=>by
  have:=(hb (i+j) (by omega)).1
  have e:(⟨g,i,none⟩:Addr).add j=⟨g,i+j,none⟩:=by unfold Addr.add;split <;> simp_all
  rw[e,this]
  congr 2
  have:=zdG (Y:=O/Bw^i) (Nat.mod_lt O (zag i)) (i+j)
  rw[if_neg (by omega),Nat.mod_add_div,show i+j - i=j by omega]at this
  exact congrArg _ this⟩⟩
theorem Rd.other {W W':World}{hi hi' g n N:Nat}{A:Option Addr}(h:Rd W hi A n N)(h':Rn W g A n N)(hg:W.grownBy W' (some g))(hh:hi<=hi'):Rd W' hi' A n N:=
 ⟨h.1,fun hn=>by
  obtain⟨ad,e,hb,hc⟩:=h.2 hn
  obtain⟨ad',e',hb',hc'⟩:=h'.2 hn
  rw[e]at e'
  cases e'
  exact⟨ad,e,by omega,fun j hj=>hg.cell (hc j hj) (by rw[zaM];intro e;injection e;omega)⟩⟩
theorem zgU (bd br g L n cr cd V D m:Nat)(A':Option Addr)(hn:2<=n)(hL:L=n+m)(hLb:L<=1000000000)(hcr:L<=cr)(hcr2:cr<=1000000000)(hcd:n<=cd)(hcd2:cd<=maxLen)(hD:dig D (n - 1)≠0)(hDn:D<Bw^n)(hne:bd≠g/\br≠g)
  (I:Nat×Nat->World->Prop) (hI:∀s W,I s W->QSrc bd br g L n cr cd V D m A' s W) (F:Fence) (hF:F=Fence.wide):
  zja F 9 Tryz.prog 237 #[.pointer (some ⟨bd,0,none⟩),.pointer (some ⟨br,0,none⟩)] (fun x:Nat×Nat=> #[.int .i64 (x.1:Nat),.int .u32 (x.2:Nat)])
   (fun s x=>s.1=s.2+1/\x=(s.2,dig (V/D) s.2)) (fun s _=>(s.2,s.2)) (m,m) (fun s=>s=(0,0)) (fun _=>True) I (QMv g L V D):=by
 subst hF hL
 intro l J Jx W hJI hJ hJx hM hY h0
 have H0:=hI _ _ (hJI _ _ h0)
 have hb1:=H0.b1
 have hb2:=H0.b2
 have hDp:0<D:=by
  rcases zv7 D with h|h
  ·subst h;simp[zbI]at hD
  ·exact h
 have hi0:((n:Int)+(m:Int) - (n:Int) - 1)=(m:Int) - 1:=by omega
 clear H0
 refine callsIn_of_wp Tryz.func237 rfl trivial ?_ rfl
 simp only[Tryz.ntmps237,List.size_toArray,List.length_cons,List.length_nil,Nat.reduceAdd,Nat.reduceSub,Array.replicate_succ,Array.replicate_zero,List.push_toArray,List.append_toArray,List.nil_append,List.cons_append]
 gi_wp2
 gi_loopw [5] (fun i wr=>∃k:Nat,k<=m/\i= .int .i64 ((k:Int) - 1)/\J (k,k) wr) (fun i _=>(intOf i+1).toNat)
 case atStart=>exact⟨m,Nat.le_refl _,by first|rfl|rw[hi0],h0⟩
 case round=>
  obtain⟨k,hk,rfl,hJs⟩:=hrel
  have HS:=hI _ _ (hJI _ _ hJs)
  have hb1:=HS.b1
  have hb2:=HS.b2
  rcases zv7 k with h0|h0
  ·subst h0
   clear hb1 hb2
   gi_wp2
   go_end0
   exact⟨⟨_,rfl⟩,.inl ⟨_,rfl,hJs⟩⟩
  ·obtain⟨i,rfl⟩:∃i,k=i+1:=⟨k - 1,by omega⟩
   obtain⟨R,hR⟩:∃R,R=V%(D*Bw^(i+1)):=⟨_,rfl⟩
   obtain⟨q1,q2,q3,q4⟩:=zpZ hDp hR
   obtain⟨qt,hqt⟩:∃qt,dig (V/D) i=qt:=⟨_,rfl⟩
   obtain⟨X,hX⟩:∃X,V%(D*Bw^i)=X:=⟨_,rfl⟩
   have hqtb:=zav (V/D) i
   rw[hqt]at q2 q3 hqtb
   rw[hX]at q3 q4
   have hRlt:R<Bw^(i+(n+1)):=by
    rw[hR]
    refine zv3 (Nat.mod_lt _ (Nat.mul_pos hDp (zag _))) ?_
    rw[show i+(n+1)=n+(i+1) by omega,Nat.pow_add Bw n (i+1)]
    exact Nat.mul_le_mul_right _ (Nat.le_of_lt hDn)
   have hlm:i+(n+1)<=n+m:=by omega
   have hBf:Buf wr g (n+m) R:=by rw[hR];exact HS.r
   have hii:(((i+1:Nat):Int) - 1)=(i:Int):=by omega
   rw[hii]
   have hw:i+n+1 - i=n+1:=by omega
   have EG:=zvY (zop wr wr.heap.size (some ⟨g,i,none⟩) A' n (n+1) (cr - i) cd (R/Bw^i) D (hBf.win hRlt hlm HS.g1) HS.d2 zv0 hn (by omega) hD q1)
   rw[q2]at EG
   have ET:=zvY (fun(W:World) (q:Nat) (hb:Buf W g (n+m) R) (hd:Rn W g A' n D) (hq:q<4294967296)=>zid W g (n+m) i (n+1) (cr - i) n cd R D q A' hb hRlt hlm zv0 (by omega) (by omega) hd hq)
   have EB:=zvY (fun(W:World) (O:Nat) (hb:Buf W g (n+m) O) (hO:O<Bw^(i+(n+1))) (hd:Rd W W.heap.size A' n D) (hg:g<W.heap.size) (hs:Bw^(n+1)<=O/Bw^i+D)=>zjz W g (n+m) i (cr - i) n cd O D A' hb hO hlm (by omega) (by simp only[maxLen];omega) hd hcd hcd2 (by omega) hg hs)
   have HBf:=zvY hBf
   have HSh:=zvY HS
   have Hqt:=zvY hqt
   have HX:=zvY hX
   have Q3:=zvY q3
   have Q4:=zvY q4
   have HR:=zvY hRlt
   have hlX:X<=R:=by omega
   clear hBf HS hqt hX q3 q4 hRlt q1 q2 hR hlX
   gi_wp2_with fail
   refine⟨trivial,?_⟩
   rw[hw]
   refine(callsIn_wide.2 EG.out).mono ?_
   rintro e W1 ⟨q,k',rfl,g1,g2,g3,rfl⟩
   have hd1:Rn (wr.drewN k') g A' n D:=HSh.out.d1
   have hJ1:=hJ _ _ _ hJs (zaJ wr k' none)
   have hb1:(wr.drewN k').cell? ⟨bd,0,none⟩=_:=hb1
   gi_wp2_with fail
   refine⟨trivial,?_⟩
   refine(callsIn_wide.2 (ET.out (wr.drewN k') q (HBf.out.drew k') hd1 g3)).mono ?_
   rintro e W2 ⟨b,O',b1,rfl,hG,hB2,hO',ht⟩
   have hG0:wr.grownBy W2 (some g):=(zaJ wr k' (some g)).trans hG
   have hcd:W2.cell? ⟨bd,0,none⟩=_:=hG0.cell HSh.out.b1 (fun e=>hne.1 (by injection e))
   rcases zv7 b with hz|hz
   ·obtain⟨rfl,rfl⟩:=zn4 Q3.out g1 g2 Q4.out ht hz
    have hJ2:=hM _ (i+1,i) _ _ hJs ⟨rfl,rfl,hG0,by rw[show(i+1:Nat) - 1=i by omega,HX.out];exact hB2⟩
    obtain⟨fn,tmps,assign,body,hy,hRd⟩:=hY (i+1,i) (i,q) W2 hJ2 ⟨rfl,by rw[Hqt.out]⟩
    dsimp only at hy
    have hbz:decide (0<b)=false:=by simp[hz]
    rw[hbz]
    clear hB2 ht hG hd1
    gi_wp2
    refine hRd.mono ?_
    rintro e W3 ⟨b,rfl,hb1,hb2⟩
    have g1:=zvY hb1
    have g2:=zvY hb2
    clear hb1 hb2
    cases b
    ·gi_wp2
     refine bodyPost_ret (results_none rfl _ _ _) rfl ?_
     exact⟨⟨_,rfl⟩,.inr ⟨_,(by first|exact⟨trivial,g2.out (by first|rfl|trivial)⟩|exact g2.out (by first|rfl|trivial))⟩⟩
    ·gi_wp2
     go_roundw
     case rel=>exact⟨i,by omega,by go_num,g1.out (by first|rfl|trivial)⟩
     case measure=>simp[intOf]
   ·obtain⟨hq,hOe⟩:=zn5 Q3.out g1 g2 hO' b1 ht hz
    obtain⟨hs,he⟩:=zp0 (m:=n+1) hOe (by have:=Q3.out;have:=HR.out;omega)
    have hqi:(q:Int) - 1=(qt:Int):=by omega
    have hbz:decide (0<b)=true:=by simp[hz]
    have EB2:=zvY (EB.out W2 O' hB2 hO' (HSh.out.d2.other HSh.out.d1 hG0 hG0.size) (zv3 HSh.out.g1 hG0.size) hs)
    rw[he]at EB2
    rw[hbz]
    clear hB2 ht hG hd1 hs he hOe hq
    gi_wp2_with fail
    refine⟨trivial,?_⟩
    refine(callsIn_wide.2 EB2.out).mono ?_
    rintro e W3 ⟨⟨v,rfl⟩,hG3,hB3⟩
    have hJ2:=hM _ (i+1,i) _ _ hJs ⟨rfl,rfl,hG0.trans hG3,by rw[show(i+1:Nat) - 1=i by omega,HX.out];exact hB3⟩
    obtain⟨fn,tmps,assign,body,hy,hRd⟩:=hY (i+1,i) (i,qt) W3 hJ2 ⟨rfl,by rw[Hqt.out]⟩
    dsimp only at hy
    clear hB3
    gi_wp2
    refine hRd.mono ?_
    rintro e W4 ⟨b,rfl,hb1,hb2⟩
    have g1:=zvY hb1
    have g2:=zvY hb2
    clear hb1 hb2
    cases b
    ·gi_wp2
     refine bodyPost_ret (results_none rfl _ _ _) rfl ?_
     exact⟨⟨_,rfl⟩,.inr ⟨_,(by first|exact⟨trivial,g2.out (by first|rfl|trivial)⟩|exact g2.out (by first|rfl|trivial))⟩⟩
    ·gi_wp2
     go_roundw
     case rel=>exact⟨i,by omega,by go_num,g1.out (by first|rfl|trivial)⟩
     case measure=>simp[intOf]
theorem ztY (w:World)(x:Nat)(h1:x<4294967296):
  Calls Tryz.prog 223 #[.int .u32 x] w fun e w'=>e= .returned (.int .i64 (32 - bitsN x:Nat))/\w=w':=by
 have E:=zvY (ziE w x h1)
 have hb:=zfs h1
 have he:(32:Int) - (bitsN x:Int)=((32 - bitsN x:Nat):Int):=by omega
 go_enter Tryz.func223,Tryz.ntmps223
 go_wp2_with (go_at_call 142;refine E.out.mono ?_;rintro e w' ⟨rfl,rfl⟩)
 go_ret
 exact⟨rfl,rfl⟩
theorem zqo {D n:Nat}(hn:lenL D=n+1):32 - bitsN (dig D n)<=31/\lenL (D*2^(32 - bitsN (dig D n)))=n+1:=by
 have h1:=ziF hn
 have h2:=zfs (zav D n)
 have h3: ¬bitsN (dig D n)<=0:=fun h=>zgZ hn (by have:=zaH.1 h;omega)
 have h4:D≠0:=fun h=>by subst h;simp[zaS]at hn
 have h5:=zkK h4 (32 - bitsN (dig D n))
 refine⟨by omega,Nat.le_antisymm (zai.2 ?_) ?_⟩
 ·rw[zbo,<-zaH];omega
 ·rcases zv6 n (lenL (D*2^(32 - bitsN (dig D n))))with h|h
  ·exact h
  ·have:=zai.1 h
   rw[zbo,<-zaH]at this
   omega
theorem zqp {N D n1 n s:Nat}(hN:N<Bw^n1)(hn:lenL D=n+1)(h:n+1<=n1):N*2^s<D*2^s*Bw^(n1 - n):=by
 have h1:Bw^n<=D:=by
  rcases zv6 D (Bw^n)with h|h
  ·have:=zai.2 h;omega
  ·exact h
 have h2:Bw^n1<=D*Bw^(n1 - n):=by
  rw[show n1=n+(n1 - n) by omega,Nat.pow_add,show n+(n1 - n) - n=n1 - n by omega]
  exact Nat.mul_le_mul_right _ h1
 rw[Nat.mul_right_comm]
 exact Nat.mul_lt_mul_of_pos_right (by omega) (zv8 s)
def zgV (Y s:Nat):Nat:=Y/Bw^s*Bw^s
theorem zou (Y:Nat):zgV Y 0=Y:=by simp[zgV]
theorem zqq {Y m:Nat}(h:Y<Bw^m):zgV Y m=0:=by simp[zgV,Nat.div_eq_of_lt h]
theorem zsd {Y m s:Nat}(h:Y<Bw^m):zgV Y s<Bw^m:=zv4 (Nat.div_mul_le_self _ _) h
theorem zov {Y s O':Nat}(h:O'+dig (zgV Y (s+1)) s*Bw^s=zgV Y (s+1)+dig Y s*Bw^s):O'=zgV Y s:=by
 have e1:dig (zgV Y (s+1)) s=0:=by
  unfold dig zgV
  rw[Nat.pow_succ,<-Nat.mul_assoc,Nat.mul_right_comm,Nat.mul_div_cancel _ (zag s),Nat.mul_mod_left]
 rw[e1,Nat.zero_mul,Nat.add_zero]at h
 rw[h]
 unfold zgV dig
 rw[Nat.pow_succ,<-Nat.div_div_eq_div_mul,<-Nat.mul_assoc,Nat.mul_right_comm,<-Nat.add_mul,Nat.div_add_mod']
def zhK (w:World)(Q R:Nat)(f:Value->Value->Value)(e:Ending)(w':World):Prop:=
 ∃A c A' c',e= .returned (f (.slice A (lenL Q) c) (.slice A' (lenL R) c'))/\lenL Q<=c/\c<=maxLen/\lenL R<=c'/\c'<=maxLen/\Fr w' w.heap.size w'.heap.size A (lenL Q) Q/\Fr w' w.heap.size w'.heap.size A' (lenL R) R/\Below w.heap.size w w'
theorem Buf.grown {W W':World}{g n O:Nat}{r:Option Nat}(h:Buf W g n O)(hg:W.grownBy W' r)(hne:some g≠r)(hlt:g<W.heap.size):Buf W' g n O:=fun j hj=>
 ⟨(World.cell?_of_block (hg.block g hlt hne)).trans (h j hj).1,(World.frozen?_of_block (hg.block g hlt hne)).trans (h j hj).2⟩
theorem Rn.kept {W W':World}{g n N:Nat}{A:Option Addr}{row:Option Nat}(h:Rn W g A n N)(hg:W.grownBy W' row)(hrow:∀r,row=some r->∃o:Obj,W.heap[r]?=some o/\o.isCells=false):Rn W' g A n N:=
 ⟨h.1,fun hn=>by
  obtain⟨ad,e,hb,hc⟩:=h.2 hn
  exact⟨ad,e,hb,fun j hj=>cell_kept (hc j hj) hg hrow⟩⟩
theorem Rn.grown2 {W W':World}{g g' n N:Nat}{A:Option Addr}(h:Rn W g A n N)(h':Rn W g' A n N)(hg:W.grownBy W' (some g')):Rn W' g A n N:=
 ⟨h.1,fun hn=>by
  obtain⟨ad,e,hb,hc⟩:=h.2 hn
  obtain⟨ad',e',hb',hc'⟩:=h'.2 hn
  rw[e]at e'
  cases e'
  exact⟨ad,e,hb,fun j hj=>hg.cell (hc j hj) (by rw[zaM];intro e;injection e;omega)⟩⟩
structure LimbsI (w:World) (bd br g L n cr cd V D m gq:Nat) (A':Option Addr) (s:Nat×Nat) (W:World):Prop where
 src:QSrc bd br g L n cr cd V D m A' s W
 box:Boxed W w.heap.size 23 (.slice (some ⟨gq,0,none⟩) m m)
 q:Buf W gq m (zgV (V/D) s.1)
 below:Below w.heap.size w W
 gq1:gq<W.heap.size
 d3:Rn W gq A' n D
theorem zma {w:World}{bd br g L n cr cd V D m gq B:Nat}{A':Option Addr}(hB:w.heap.size<=B):OwnFrom B (LimbsI w bd br g L n cr cd V D m gq A'):=by
 rintro s W W' row ⟨⟨h1,h2,h3,h4,h5,h6,h7,h8⟩,h9,h10,h11,h12,h13⟩ hg hr
 have hr':=fun r e=>(hr r e).2
 exact⟨⟨cell_kept h1 hg hr',cell_kept h2 hg hr',h3.kept hg hr',(h4.kept hg hr').more hg.size,h5.kept hg hr',zv3 h6 hg.size,h7,zv3 h8 hg.size⟩,za7 h9 hg hr',h10.kept hg hr',h11.grown hg h11.size (fun r e=>by have:=(hr r e).1;omega),zv3 h12 hg.size,h13.kept hg hr'⟩
theorem zow {w:World}{bd br g L n cr cd V D m gq:Nat}{A':Option Addr}(hne:bd≠g/\br≠g)(hg1:w.heap.size<g)(hg2:gq≠g)(s s':Nat×Nat)(A B:World)(h:LimbsI w bd br g L n cr cd V D m gq A' s A)(hm:QMv g L V D s s' A B):LimbsI w bd br g L n cr cd V D m gq A' s' B:=by
 obtain⟨⟨h1,h2,h3,h4,h5,h6,h7,h8⟩,h9,h10,h11,h12,h13⟩:=h
 obtain⟨e1,rfl,hG,hb⟩:=hm
 exact⟨⟨hG.cell h1 (zaq hne.1),hG.cell h2 (zaq hne.2),h3.grown hG,h4.other h3 hG hG.size,hb,zv3 h6 hG.size,h7,zv3 h8 hG.size⟩,h9.kept hG (zaq (by omega)),h10.grown hG (zaq hg2) h12,h11.trans ((zaP hG (by omega)).mono (by omega)),zv3 h12 hG.size,h13.grown2 h3 hG⟩
theorem zmb {w:World}{bd br g L n cr cd V D m gq i:Nat}{A':Option Addr}(hne:bd≠gq/\br≠gq)(hg1:w.heap.size<gq)(hg2:g≠gq){s:Nat×Nat}{W:World}(h:LimbsI w bd br g L n cr cd V D m gq A' s W)(hs:s.1=i+1/\s.2=i)(hY:V/D<Bw^m):
  LimbsI w bd br g L n cr cd V D m gq A' (i,i) (W.setCell ⟨gq,i,none⟩ (.int .u32 (dig (V/D) i:Nat))):=by
 obtain⟨⟨h1,h2,h3,h4,h5,h6,h7,h8⟩,h9,h10,h11,h12,h13⟩:=h
 obtain⟨s1,s2⟩:=s
 obtain⟨e1,e2⟩:=hs
 simp only at e1 e2
 subst e1 e2
 have hG:=wrote W gq s2 (.int .u32 (dig (V/D) s2:Nat))
 simp only at h5 h7 h10
 obtain⟨O',o1,o2,o3⟩:=h10.set (m:=m) (p:=s2) (x:=dig (V/D) s2) (zsd hY) (by omega) (zav _ _)
 rw[zov o3]at o1
 exact⟨⟨hG.cell h1 (zaq hne.1),hG.cell h2 (zaq hne.2),h3.grown2 h13 hG,h4.other h13 hG hG.size,h5.grown hG (zaq hg2) h6,zv3 h6 hG.size,by simp only;omega,zv3 h8 hG.size⟩,h9.kept hG (zaq (by omega)),o1,h11.trans ((zaP hG (by omega)).mono (by omega)),zv3 h12 hG.size,h13.grown hG⟩
theorem zmc (A A':Option Addr)(n1 n c c' N D:Nat)(w:World)(h:Rd w w.heap.size A n1 N)(h':Rd w w.heap.size A' (n+1) D)(hc:n1<=c)(hcm:c<=maxLen)(hc':n+1<=c')(hcm':c'<=maxLen)(hn:1<=n)(hn1:n+1<=n1)(hb:n1<=100000000)(hl:lenL D=n+1):
  CallsIn Fence.wide 10 Tryz.prog 196 #[.slice A n1 c,.slice A' (n+1:Nat) c'] w (zhK w (N/D) (N%D) fun a b=> .tuple #[a,b]):=by
 obtain⟨hs1,hs2⟩:=zqo hl
 obtain⟨sh,hsh⟩:∃sh,32 - bitsN (dig D n)=sh:=⟨_,rfl⟩
 obtain⟨ad,rfl,_,hld⟩:=(h'.below ((Below.refl _ w).alloc zv0 (.cells #[.slice none 0 0] 23))).at_ (k:=n) (by omega)
 have ELz:=zvY (fun W=>ztY W (dig D n) (zav D n))
 rw[hsh]at hs1 hs2 ELz
 have hni:((n+1:Nat):Int) - 1=(n:Int):=by omega
 have HS2:=zvY hs2
 clear hsh hs2
 refine callsIn_of_wp_marks Tryz.func196 rfl trivial ?_ rfl
 simp only[Tryz.ntmps196,List.size_toArray,List.length_cons,List.length_nil,Nat.reduceAdd,Nat.reduceSub,Array.replicate_succ,Array.replicate_zero,List.push_toArray,List.append_toArray,List.nil_append,List.cons_append]
 obtain⟨w2,hmk,hF1,hb1,hs1'⟩:=zb6 (w.alloc (.cells #[.slice none 0 0] 23)) (n1+1) (by omega)
 rw[show(((n1+1:Nat)):Int)=(n1:Int)+1 from by omega]at hmk
 gi_wp2_with (refine⟨trivial,?_⟩;gi_at_call 223;refine(callsIn_wide.2 (ELz.out _)).mono ?_;rintro e w' ⟨rfl,rfl⟩)
 rw[World.size_alloc]at hF1 hb1 hs1'
 have hB2:Below w.heap.size w w2:=((Below.refl _ w).alloc zv0 (.cells #[.slice none 0 0] 23)).trans (hb1.mono (by omega))
 have bQ2:Boxed w2 w.heap.size 23 (.slice none 0 0):=zaI (Boxed.new w _ _) hb1 (by omega)
 have EU:=zjv w2 A n1 c N sh ((h.below hB2).more hB2.size) hc hcm (by omega) (by omega)
 rw[Int.toNat_natCast,Nat.min_eq_left (by omega:sh<=65536)]at EU
 obtain⟨V,hV⟩:∃V,N*2^sh=V:=⟨_,rfl⟩
 rw[hV]at EU
 have hVl:lenL V<=n1+1:=by
  rw[zai,<-hV,Nat.pow_succ]
  exact Nat.mul_lt_mul_of_lt_of_le h.1 (zv2 (zv5 (by omega) (show sh<=32 by omega)) (by rw[za4];omega)) (by rw[za4];omega)
 refine⟨trivial,?_⟩
 refine(callsIn_wide.2 EU).mono ?_
 rintro e w3 ⟨Au,cu,rfl,u1,u2,u3,u4⟩
 have hsz3:=u4.size
 rw[hs1']at u3 u4 hsz3
 have hB3:Below w.heap.size w w3:=hB2.trans (u4.mono (by omega))
 have bQ3:=zaI bQ2 u4 (by omega)
 have hZ3:Buf w3 (w.heap.size+1) (n1+1) 0:=Buf.of_fr (hF1.keep u4)
 obtain⟨hcp,hZ4⟩:=zkO (i:=0) (dl:=n1+1) (dc:=n1+1) (sc:=cu) (k:=lenL V) hZ3 (by simp[zag]) (by omega) (by omega) u3.rd
 rw[Nat.pow_zero,Nat.mod_one,Nat.zero_add,Nat.one_mul,zbV (zaF V)]at hZ4
 have hG4:=zeI (w.heap.size+1) (limbs V (lenL V)) 0 w3
 have bQ4:=bQ3.kept hG4 (zaq (by omega))
 have hB4:Below w.heap.size w (w3.setCells (w.heap.size+1) 0 (limbs V (lenL V))):=hB3.trans ((zaP hG4 (by omega)).mono (by omega))
 have hsz4:=hG4.size
 obtain⟨w4,hw4⟩:∃w4,w3.setCells (w.heap.size+1) 0 (limbs V (lenL V))=w4:=⟨_,rfl⟩
 rw[hw4]at hcp hZ4 bQ4 hB4 hsz4
 obtain⟨w5,hmk5,hF5,hb5,hs5⟩:=zb6 w4 (n1 - n) (by omega)
 rw[show(((n1 - n:Nat)):Int)=(n1:Int) - ((n:Int)+1)+1 from by omega]at hmk5
 have bQ5:=zaI bQ4 hb5 (by omega)
 have hB5:Below w.heap.size w w5:=hB4.trans (hb5.mono (by omega))
 have HZ4:=zvY hZ4
 have HG4:=zvY hG4
 have HF5:=zvY hF5
 have hcQ:=bQ5.cell
 have hfQ:=bQ5.frozen
 clear hmk hF1 hZ3 hZ4 u3 hG4 hF5 hw4 EU
 gi_wp2_with fail
 have bQ6:=bQ5.set (.slice (some ⟨w4.heap.size,0,none⟩) (n1 - n:Nat) (n1 - n:Nat))
 have hB6:=hB5.setCell (p:=⟨w.heap.size,0,none⟩) zv0 (.slice (some ⟨w4.heap.size,0,none⟩) (n1 - n:Nat) (n1 - n:Nat))
 have hW5:=wrote w5 w.heap.size 0 (.slice (some ⟨w4.heap.size,0,none⟩) (n1 - n:Nat) (n1 - n:Nat))
 have hZ6:=(HZ4.out.grown (zcn (r:=none) hb5) (by simp) (by omega)).grown hW5 (zaq (by omega)) (by omega)
 have hq6:=(Buf.of_fr HF5.out).grown hW5 (zaq (by omega)) (by omega)
 have hs6:=hW5.size
 obtain⟨w6,hw6⟩:∃w6,w5.setCell ⟨w.heap.size,0,none⟩ (.slice (some ⟨w4.heap.size,0,none⟩) (n1 - n:Nat) (n1 - n:Nat))=w6:=⟨_,rfl⟩
 rw[hw6]at bQ6 hB6 hZ6 hq6 hs6 ⊢
 have EU2:=zjv w6 (some ad) (n+1) c' D sh ((h'.below hB6).more hB6.size) hc' hcm' (by omega) (by omega)
 rw[Int.toNat_natCast,Nat.min_eq_left (by omega:sh<=65536)]at EU2
 clear hw6 hW5 bQ2 bQ3 bQ4 bQ5 hcQ hfQ hmk5 hcp
 refine⟨trivial,?_⟩
 refine(callsIn_wide.2 EU2).mono ?_
 rintro e w7 ⟨Ad,cd,rfl,v1,v2,v3,v4⟩
 rw[HS2.out]at v1 v3
 rw[HS2.out]
 have hG7:=zcn (r:=none) v4
 have bQ7:=bQ6.kept hG7 (by simp)
 have hB7:=hB6.trans (v4.mono hB6.size)
 have hZ7:=hZ6.grown hG7 (by simp) (by omega)
 have hq7:=hq6.grown hG7 (by simp) (by omega)
 have HV3:=zvY v3
 clear v3 v4 EU2 hZ6 hq6 bQ6
 gi_wp2_with (refine⟨trivial,?_⟩;gi_at_call 225;refine(callsIn_wide.2 (callsIn_wide.1 (zkR _ _ _ _ _ _ _))).mono ?_;rintro e w' ⟨rfl,rfl⟩)
 obtain⟨m,hm⟩:∃m,n1 - n=m:=⟨_,rfl⟩
 obtain⟨gq,hgq⟩:∃gq,w4.heap.size=gq:=⟨_,rfl⟩
 obtain⟨D2,hD2⟩:∃D2,D*2^sh=D2:=⟨_,rfl⟩
 have hfirst:=zqp (s:=sh) h.1 hl hn1
 rw[hV,hD2,hm]at hfirst
 rw[hD2]at HS2 HV3
 rw[hgq,hm]at bQ7 hq7
 rw[hgq]at hs5 hb5 hsz4
 rw[hgq,hm]
 have hbl:=(Below.refl w7.heap.size w7).alloc zv0 (.cells #[.slice (some ⟨w.heap.size+1,0,none⟩) (n1+1:Nat) (n1+1:Nat)] 23)
 have hbl2:=hbl.alloc hbl.size (.cells #[.slice Ad (n+1:Nat) cd] 23)
 have bR:=(Boxed.new w7 23 (.slice (some ⟨w.heap.size+1,0,none⟩) (n1+1:Nat) (n1+1:Nat))).alloc (.cells #[.slice Ad (n+1:Nat) cd] 23)
 have bD:=Boxed.new (w7.alloc (.cells #[.slice (some ⟨w.heap.size+1,0,none⟩) (n1+1:Nat) (n1+1:Nat)] 23)) 23 (.slice Ad (n+1:Nat) cd)
 rw[World.size_alloc]at bD
 have hsz0:((w7.alloc (.cells #[.slice (some ⟨w.heap.size+1,0,none⟩) (n1+1:Nat) (n1+1:Nat)] 23)).alloc (.cells #[.slice Ad (n+1:Nat) cd] 23)).heap.size=w7.heap.size+2:=by rw[World.size_alloc,World.size_alloc]
 obtain⟨W0,hW0⟩:∃W0,(w7.alloc (.cells #[.slice (some ⟨w.heap.size+1,0,none⟩) (n1+1:Nat) (n1+1:Nat)] 23)).alloc (.cells #[.slice Ad (n+1:Nat) cd] 23)=W0:=⟨_,rfl⟩
 rw[hW0]at hbl2 bR bD hsz0 ⊢
 have hG0:=zcn (r:=none) hbl2
 have hfr:=HV3.out.keep hbl2
 have hs67:=hG7.size
 have hlt7:w.heap.size+1<w7.heap.size:=by omega
 have hltq:gq<w7.heap.size:=by omega
 have hD2p:0<D2:=by
  rcases zv7 D2 with h|h
  ·have:=HS2.out;rw[h,zaS]at this;omega
  ·exact h
 have hYm:V/D2<Bw^m:=by rw[Nat.div_lt_iff_lt_mul hD2p,Nat.mul_comm];exact hfirst
 have hI0:LimbsI w (w7.heap.size+1) w7.heap.size (w.heap.size+1) (n1+1) (n+1) (n1+1) cd V D2 m gq Ad (m,m) W0:=
  ⟨⟨bD.cell,bR.cell,hfr.rn (by omega),hfr.rd.more (by omega),by
   rw[Nat.mod_eq_of_lt hfirst];exact hZ7.grown hG0 (by simp) hlt7,by omega,Nat.le_refl _,by omega⟩,bQ7.kept hG0 (by simp),by rw[zqq hYm];exact hq7.grown hG0 (by simp) hltq,hB7.trans (hbl2.mono (by omega)),by omega,hfr.rn (by omega)⟩
 have HI0:=zvY hI0
 have HYm:=zvY hYm
 have hE1:=HS2.out
 have hdt:=zgZ hE1
 have hDl:=zaF D2
 rw[hE1]at hDl
 clear hI0 bD bR bQ7 hfr hZ7 hq7 hW0 hbl hbl2
 refine zeB rfl (by omega) (gf:=237) (lb:= #[.pointer (some ⟨w7.heap.size+1,0,none⟩),.pointer (some ⟨w7.heap.size,0,none⟩)]) rfl trivial (enters_of Tryz.func237 (by kernel_rfl) rfl)
  (fun _=>rfl) (LimbsI w (w7.heap.size+1) w7.heap.size (w.heap.size+1) (n1+1) (n+1) (n1+1) cd V D2 m gq Ad) (fun _ _ _=>False) (zma (by omega)) (fun _ _ _ _ _ h _ _=>h)
  HI0.out (zow ⟨by omega,by omega⟩ (by omega) (by omega)) (fun s s' A B hm=>⟨w.heap.size+1,by omega,hm.2.2.1⟩)
  (zgU (w7.heap.size+1) w7.heap.size (w.heap.size+1) (n1+1) (n+1) (n1+1) cd V D2 m Ad (by omega) (by omega) (by omega) zv0 (by omega) v1 v2 hdt hDl ⟨by omega,by omega⟩ _ (fun _ _ h=>h.src) Fence.wide rfl)
  (fun x=> { tmps:= #[.slice A n1 c,.slice (some ad) (n+1:Nat) c',undef,undef,.pointer (some ⟨w.heap.size,0,none⟩),.slice none 0 0,.int .i64 (sh:Nat),.slice (some ⟨w.heap.size+1,0,none⟩) (n1+1:Nat) (n1+1:Nat),.int .i64 (x.1:Nat),.int .u32 (x.2:Nat),
    .slice (some ad) (n+1:Nat) c',.slice (some ad) (n+1:Nat) c',.int .i64 ((n:Int)+1),.int .i64 (n:Nat),.pointer (some (ad.add n)),.int .u32 (dig D n:Nat),.int .i64 (sh:Nat),.slice A n1 c,.int .i64 (n1:Nat),.int .i64 ((n1:Int)+1),
    .slice (some ⟨w.heap.size+1,0,none⟩) (n1+1:Nat) (n1+1:Nat),.slice (some ⟨w.heap.size+1,0,none⟩) (n1+1:Nat) (n1+1:Nat),.slice A n1 c,.int .i64 (sh:Nat),.slice Au (lenL V) cu,.int .i64 (lenL V:Nat),.slice A n1 c,.int .i64 (n1:Nat),.slice (some ad) (n+1:Nat) c',.int .i64 ((n:Int)+1),
    .int .i64 ((n1:Int) - ((n:Int)+1)),.int .i64 ((n1:Int) - ((n:Int)+1)+1),.slice (some ⟨gq,0,none⟩) m m,.slice (some ⟨w.heap.size+1,0,none⟩) (n1+1:Nat) (n1+1:Nat),.slice (some ad) (n+1:Nat) c',.int .i64 (sh:Nat),.slice Ad (n+1:Nat) cd,
    .func (.func 237) #[] #[.pointer (some ⟨w7.heap.size+1,0,none⟩),.pointer (some ⟨w7.heap.size,0,none⟩)],.int .i64 (x.1:Nat),.int .u32 (x.2:Nat),undef,undef,undef,undef,undef,undef,undef,undef,undef],defers:=[] }) ?assign ?body ?done ?stop
 case assign=>
  intro l x W K hK
  gi_wp2
  exact hK
 case body=>
  rintro l ⟨s1,s2⟩ ⟨xi,xd⟩ W hI ⟨hs,hx⟩
  simp only[Prod.mk.injEq]at hs hx
  obtain⟨rfl,rfl⟩:=hx
  have hml:=hI.src.s1
  have hcq:=hI.box.cell
  have hlm:xi<m:=by simp only at hml;omega
  obtain⟨hc1,hc2⟩:=hI.q xi hlm
  have HN:=zvY (zmb ⟨by omega,by omega⟩ (by omega) (by omega) hI ⟨hs,rfl⟩ HYm.out)
  have HK:=zvY (KeepsFrom.of_grownBy (B:=w7.heap.size+2) (wrote W gq xi (.int .u32 (dig (V/D2) xi:Nat))) (fun j e=>by cases e;omega))
  clear hI hml hs
  gi_wp2
  exact⟨HK.out,HN.out⟩
 case done=>
  rintro K s W hD rfl hI hK
  obtain⟨hsrc,hbx,hq,hbel,hgq1,_⟩:=hI
  have hr:=hsrc.r
  simp only[Nat.pow_zero,Nat.mul_one]at hr
  simp only[zou]at hq
  have HYQ:V/D2=N/D:=by rw[<-hV,<-hD2,Nat.mul_div_mul_right _ _ (zv8 sh)]
  have HYR:V%D2=N%D*2^sh:=by rw[<-hV,<-hD2,Nat.mul_mod_mul_right]
  rw[HYQ]at hq hYm
  rw[HYR]at hr
  have hKl:K<W.heap.size:=(Array.getElem?_eq_some_iff.1 hK).1
  have hRl:N%D*2^sh<Bw^(n1+1):=by
   rw[<-HYR]
   exact Nat.lt_trans (Nat.mod_lt _ hD2p) (zaz hDl (by omega))
  have ET:=zc1 W (some ⟨gq,0,none⟩) m m (N/D) (hq.rd hYm (fun _=>hgq1)) zv0 (by simp only[maxLen];omega) (by omega)
  have hcb:=hbx.cell
  gi_wp2_with fail
  refine⟨trivial,?_⟩
  refine(callsIn_wide.2 ET).mono ?_
  rintro e W1 ⟨Aq,cq,rfl,x1,x2,x3,x4⟩
  have hbx1:=zaI hbx x4 hbx.lt
  have hbel1:=hbel.trans (x4.mono hbel.size)
  have hK1:=(x4.block K hKl).trans hK
  have ED:=ziH W1 (some ⟨w.heap.size+1,0,none⟩) (n1+1) (n1+1) (N%D*2^sh) sh (((hr.rd hRl (fun _=>hsrc.g1)).below x4).more x4.size) zv0 (by simp only[maxLen];omega) (by omega) (by omega)
  rw[Int.toNat_natCast,Nat.min_eq_left (by omega:sh<=65536),Nat.mul_div_cancel _ (zv8 sh)]at ED
  have HX3:=zvY x3
  clear x3
  gi_wp2_with fail
  refine⟨trivial,?_⟩
  refine(callsIn_wide.2 ED).mono ?_
  rintro e W2 ⟨Ar,cr,rfl,y1,y2,y3,y4⟩
  have hbx2:=zaI hbx1 y4 hbx1.lt
  have hbel2:=hbel1.trans (y4.mono hbel1.size)
  have hK2:=(y4.block K (by have:=x4.size;omega)).trans hK1
  have hc2:=hbx2.cell
  have hf2:=hbx2.frozen
  have HX3':=zvY (HX3.out.keep y4)
  have HY3:=zvY y3
  clear y3
  gi_wp2
  have bx3:=hbx2.set (.slice Aq (lenL (N/D)) cq)
  have hK3:=(Below.heap_setCell W2 ⟨w.heap.size,0,none⟩ (.slice Aq (lenL (N/D)) cq) K (by simp only;omega)).trans hK2
  have hb3:=hbel2.setCell (p:=⟨w.heap.size,0,none⟩) zv0 (.slice Aq (lenL (N/D)) cq)
  have hX:=HX3'.out.setCell (p:=0) hbx.lt (.slice Aq (lenL (N/D)) cq)
  have hY:=HY3.out.setCell (p:=0) hbx1.lt (.slice Aq (lenL (N/D)) cq)
  have hsz3:(W2.setCell ⟨w.heap.size,0,none⟩ (.slice Aq (lenL (N/D)) cq)).heap.size=W2.heap.size:=World.size_setCell _ _ _
  obtain⟨W3,hW3⟩:∃W3,W2.setCell ⟨w.heap.size,0,none⟩ (.slice Aq (lenL (N/D)) cq)=W3:=⟨_,rfl⟩
  rw[hW3]at bx3 hK3 hb3 hX hY hsz3 ⊢
  refine⟨by simp,.inl ⟨_,_,rfl,run_takeDeferred hK3,?_⟩⟩
  have hgp:=grownBy_putObj' W3 K (.deferred none)
  have hgr:∀r,some K=some r->∃o:Obj,W3.heap[r]?=some o/\o.isCells=false:=fun r e=>by cases e;exact⟨_,hK3,rfl⟩
  have hc4:=(za7 bx3 hgp hgr).cell
  have hs4:(W3.putObj K (.deferred none)).heap.size=W3.heap.size:=by simp[World.putObj]
  have hs12:=x4.size
  have hs22:=y4.size
  have hbs:=hbel.size
  refine⟨.tuple #[.slice Aq (lenL (N/D)) cq,.slice Ar (lenL (N%D)) cr],by rw[results_cell_tmp rfl];go_simp,?_⟩
  exact⟨Aq,cq,Ar,cr,rfl,x1,x2,y1,y2,((hX.kept hgp hgr).from hbs).more (by omega),((hY.kept hgp hgr).from (by omega)).more (by omega),hb3.trans (belowK_b (w:=w) zv0 W3 K _ _ (by omega) hK3 rfl rfl)⟩
 case stop=>
  rintro D c s W _ _ h _
  exact h.elim
theorem zkS (A A':Option Addr)(n1 n c c' N D:Nat)(w:World)(h:Rd w w.heap.size A n1 N)(h':Rd w w.heap.size A' (n+1) D)(hc:n1<=c)(hcm:c<=maxLen)(hc':n+1<=c')(hcm':c'<=maxLen)(hn:1<=n)(hn1:n+1<=n1)(hb:n1<=100000000)(hl:lenL D=n+1):
  Calls Tryz.prog 196 #[.slice A n1 c,.slice A' (n+1:Nat) c'] w (zhK w (N/D) (N%D) fun a b=> .tuple #[a,b]):=
 callsIn_wide.1 (zmc A A' n1 n c c' N D w h h' hc hcm hc' hcm' hn hn1 hb hl)
end
end Go.Proofs.YtipckjmgdghkiaaGreatDoor
