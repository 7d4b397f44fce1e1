/- A part. -/
import Derived.Test.YtipckjmgdghkiaaGreatDoorGProdA
set_option maxHeartbeats 8000000
set_option maxRecDepth 100000
namespace Go.Proofs.YtipckjmgdghkiaaGreatDoor
open Go Go.RowKit
section
attribute [local go_sem] Oper.semAt_some
section
variable {ops:Array Oper}{md:Region.Mode}{P:Program}{Q:Exit -> Act -> World -> Prop}{F:Fence}{n i:Nat}{oi:Oper}{v:Value}{fuel:Nat}{listed:Array Bool}{a:Act}{w:World}
theorem zu2 (i:Nat)(h:wpAnyIn F n P md ops Q fuel (listed.setIfInBounds i true) (a.put oi.dst v) w)(hro:F.round=none:=by exact rfl)(hi:ops[i]?=some oi:=by exact rfl)
 (hs:Region.noSelect ops=true:=by kernel_rfl) (hf:Region.free md ops listed i=true:=by kernel_rfl) (hr:(Region.ready md ops listed).contains i=true:=by kernel_rfl)
 (hQ:∀c a w,Q (.panic c) (a.put oi.dst v) w->Q (.panic c) a w:=by exact fun _ _ _ h=>h) (hy:YieldsFenced P ops oi v a:=by exact⟨Or.inl ⟨by rfl,fun w=>BigFrame.run_move _ rfl w⟩,fun _=>rfl⟩):wpAnyIn F n P md ops Q (fuel+1) listed a w:=wpAnyIn_take hro hi hs hf hr hQ hy h
theorem zvV (i:Nat)(v:Value)(h:wpAnyIn F n P md ops Q fuel (listed.setIfInBounds i true) (a.put oi.dst v) w)(hro:F.round=none:=by exact rfl)(hi:ops[i]?=some oi:=by exact rfl)
 (hs:Region.noSelect ops=true:=by kernel_rfl) (hf:Region.free md ops listed i=true:=by kernel_rfl) (hr:(Region.ready md ops listed).contains i=true:=by kernel_rfl)
 (hQ:∀c a w,Q (.panic c) (a.put oi.dst v) w->Q (.panic c) a w:=by exact fun _ _ _ h=>h) (hy:YieldsFenced P ops oi v a:=by exact⟨Or.inl ⟨by rfl,fun w=>by go_simp⟩,fun _=>rfl⟩):wpAnyIn F n P md ops Q (fuel+1) listed a w:=wpAnyIn_take hro hi hs hf hr hQ hy h
theorem zc3 (rs:List Nat)(h:AllReadyIn F n P md ops Q fuel listed a w rs)(hr:Region.ready md ops listed=rs:=by kernel_rfl)(hne:rs≠[]:=by simp):wpAnyIn F n P md ops Q (fuel+1) listed a w:=wpAnyIn_ready hr hne h
theorem zcv {o:Oper}{rs:List Nat}(h:∀K':Act->World->Prop,(∀a w,wpAnyIn F n P md ops Q fuel (listed.setIfInBounds i true) a w->K' a w)->if Region.wanted o (yielded ops a.tmps)=true then Oper.wpIn F n P o a w K' Q else(∀f,o.about P w a.eval=some f->F.fn f)/\K' (a.put o.dst undef) w)
 (hs:AllReadyIn F n P md ops Q fuel listed a w rs) (ho:ops[i]?=some o:=by exact rfl):AllReadyIn F n P md ops Q fuel listed a w (i::rs):=AllReadyIn.cons ho h hs
end
theorem Buf.kept {W W':World}{g n O:Nat}{row:Option Nat}(h:Buf W g n O)(hg:W.grownBy W' row)(hrow:∀r,row=some r->∃o:Obj,W.heap[r]?=some o/\o.isCells=false):Buf W' g n O:=
 fun j hj=>⟨cell_kept (h j hj).1 hg hrow,(frozen_kept (h j hj).1 hg hrow).trans (h j hj).2⟩
def zth (w:World)(A A':Option Addr)(n n' c c' N M:Nat)(s:Nat)(W:World):Prop:=
 Src (w.heap.size+1+1+1) w.heap.size A' n' c' M W/\Boxed W w.heap.size 23 (.slice A n c)/\Boxed W (w.heap.size+1+1) 23 (.slice (some ⟨w.heap.size+1,0,none⟩) (n+n':Nat) (n+n':Nat))/\
  Rd W w.heap.size A n N/\Buf W (w.heap.size+1) (n+n') (N*(M%Bw^s))/\Below w.heap.size w W
theorem zom {w:World}{A A':Option Addr}{n n' c c' N M B:Nat}:OwnFrom (w.heap.size+B) (zth w A A' n n' c c' N M):=by
 rintro s W W' row ⟨⟨h1,h2⟩,h3,h4,h5,h6,h7⟩ hg hr
 have hr':=fun r e=>(hr r e).2
 exact⟨⟨cell_kept h1 hg hr',h2.kept hg hr'⟩,za7 h3 hg hr',za7 h4 hg hr',h5.kept hg hr',h6.kept hg hr',h7.grown hg h7.size (fun r e=>by have:=(hr r e).1;omega)⟩
theorem zaq {a b:Nat}(h:a≠b):some a≠some b:=fun e=>h (by injection e)
theorem ziI {M s:Nat}:∀ {i:Nat},s<=i->(∀j,s<=j->j<i->dig M j=0)->M%Bw^i=M%Bw^s:=by
 intro i
 induction i with
 |zero=>intro h _;rw[show s=0 by omega]
 |succ i ih=>
  intro h hz
  rcases zv6 i s with h1|h1
  ·obtain rfl:s=i+1:=by omega
   rfl
  ·rw[zaQ,hz i h1 (by omega),Nat.mul_zero,Nat.add_zero]
   exact ih h1 (fun j h2 h3=>hz j h2 (by omega))
theorem zsa {M s n:Nat}(hM:M<Bw^n)(hz:∀j,s<=j->j<n->dig M j=0):M%Bw^s=M:=by
 rcases zv6 n s with h|h
 ·exact Nat.mod_eq_of_lt (zaz hM (by omega))
 ·rw[<-ziI h hz,Nat.mod_eq_of_lt hM]
theorem zqk {N M i:Nat}:N*(M%Bw^i)+dig M i*Bw^i*N=N*(M%Bw^(i+1)):=by
 rw[zaQ,Nat.mul_add,Nat.mul_comm (dig M i),Nat.mul_comm _ N]
theorem Buf.fr {W:World}{lo hi g n O:Nat}(h:Buf W g n O)(hO:O<Bw^n)(hlo:lo<=g)(hhi:g<hi):Fr W lo hi (some ⟨g,0,none⟩) n O:=⟨hO,fun _=>⟨g,rfl,hlo,hhi,h⟩⟩
theorem zaI {W W':World}{B K:Nat}{t:TypeId}{v:Value}(h:Boxed W B t v)(hb:Below K W W')(hB:B<K):Boxed W' B t v:=(hb.block B hB).trans h
theorem zon (A A':Option Addr)(n n' c c' N M:Nat)(w:World)(hn:n<=1000000000000)(hn':n'<=1000000000000)(h:Rd w w.heap.size A n N)(h':Rd w w.heap.size A' n' M):
  CallsIn Fence.wide 10 Tryz.prog 150 #[.slice A n c,.slice A' n' c'] w (Gives w (N*M)):=by
 obtain⟨w1,hmk,hF1,hb1,hs1⟩:=zb6 (w.alloc (.cells #[.slice A n c] 23)) (n+n') (by omega)
 rw[show(((n+n':Nat)):Int)=(n:Int)+(n':Int)from by omega]at hmk
 refine callsIn_of_wp_marks Tryz.func150 rfl trivial ?_ rfl
 simp only[Tryz.ntmps150,List.size_toArray,List.length_cons,List.length_nil,Nat.reduceAdd,Nat.reduceSub,Array.replicate_succ,Array.replicate_zero,List.push_toArray,List.append_toArray,List.nil_append,List.cons_append]
 gi_wp2_with (refine⟨trivial,?_⟩;gi_at_call 187;refine(callsIn_wide.2 (callsIn_wide.1 (zqg A' n' c' _))).mono ?_;rintro e w' ⟨rfl,rfl⟩)
 have bA:=Boxed.new w 23 (.slice A n c)
 rw[World.size_alloc]at hF1 hb1 hs1
 replace bA:=zaI bA hb1 (by omega)
 have bS:=Boxed.new w1 23 (.slice (some ⟨w.heap.size+1,0,none⟩) (n+n':Nat) (n+n':Nat))
 have bM:=Boxed.new (w1.alloc (.cells #[.slice (some ⟨w.heap.size+1,0,none⟩) (n+n':Nat) (n+n':Nat)] 23)) 23 (.slice A' n' c')
 rw[hs1]at bS
 rw[World.size_alloc,hs1]at bM
 have hB1:Below w.heap.size w w1:=((Below.refl _ w).alloc zv0 _).trans (hb1.mono (by omega))
 have hB0:=(hB1.alloc (by omega) (.cells #[.slice (some ⟨w.heap.size+1,0,none⟩) (n+n':Nat) (n+n':Nat)] 23)).alloc (by rw[World.size_alloc];omega) (.cells #[.slice A' n' c'] 23)
 have hZ:Buf w1 (w.heap.size+1) (n+n') (N*(M%Bw^0)):=by rw[Nat.pow_zero,Nat.mod_one,Nat.mul_zero];exact Buf.of_fr hF1
 have hZ0:=(hZ.kept (World.grownBy_alloc w1 (.cells #[.slice (some ⟨w.heap.size+1,0,none⟩) (n+n':Nat) (n+n':Nat)] 23) none) (fun r e=>by cases e)).kept (World.grownBy_alloc _ (.cells #[.slice A' n' c'] 23) none) (fun r e=>by cases e)
 have hsz:((w1.alloc (.cells #[.slice (some ⟨w.heap.size+1,0,none⟩) (n+n':Nat) (n+n':Nat)] 23)).alloc (.cells #[.slice A' n' c'] 23)).heap.size=w.heap.size+4:=by rw[World.size_alloc,World.size_alloc];omega
 replace bA:=(bA.alloc (.cells #[.slice (some ⟨w.heap.size+1,0,none⟩) (n+n':Nat) (n+n':Nat)] 23)).alloc (.cells #[.slice A' n' c'] 23)
 replace bS:=bS.alloc (.cells #[.slice A' n' c'] 23)
 obtain⟨W0,hW0⟩:∃W0,(w1.alloc (.cells #[.slice (some ⟨w.heap.size+1,0,none⟩) (n+n':Nat) (n+n':Nat)] 23)).alloc (.cells #[.slice A' n' c'] 23)=W0:=⟨_,rfl⟩
 rw[hW0]at bA bS bM hB0 hZ0 hsz ⊢
 clear hW0 hmk hF1 hb1 hs1 hB1 hZ
 have hB4:W0.heap.size=w.heap.size+4:=hsz
 refine za5 rfl (by omega) (gf:=212) (lb:= #[.pointer (some ⟨w.heap.size+1+1+1,0,none⟩)]) rfl trivial (enters_of Tryz.func212 (by kernel_rfl) rfl)
  (fun _=>rfl) (zth w A A' n n' c c' N M) (fun _ _ _=>False) (by rw[hB4];exact zom) (fun _ _ _ _ _ h _ _=>h)
  ⟨⟨bM.cell,h'.below hB0⟩,bA,bS,h.below hB0,hZ0,hB0⟩
  (zju (w.heap.size+1+1+1) w.heap.size A' n' c' M (by omega) _ (fun _ _ h=>h.1) Fence.wide rfl)
  (fun x=> { tmps:= #[.slice A n c,.slice A' n' c',.pointer (some ⟨w.heap.size,0,none⟩),undef,.slice none 0 0,.pointer (some ⟨w.heap.size+1+1,0,none⟩),.int .i64 (x.1:Nat),.int .u32 (x.2:Nat),
    .slice A n c,.int .i64 (n:Nat),.slice A' n' c',.int .i64 (n':Nat),.int .i64 ((n:Int)+(n':Int)),.slice (some ⟨w.heap.size+1,0,none⟩) (n+n') (n+n'),.slice A' n' c',
    .func (.func 212) #[] #[.pointer (some ⟨w.heap.size+1+1+1,0,none⟩)],.int .i64 (x.1:Nat),.int .u32 (x.2:Nat),undef,undef,undef,undef,undef,undef,undef,undef],defers:=[] }) ?assign ?body ?done ?stop
 case assign=>
  intro l x W K hK
  gi_wp2
  exact hK
 case body=>
  rintro l s ⟨i,d⟩ W ⟨⟨hcM,hRM⟩,bA1,bS1,hRN,hBf,hBl⟩ ⟨hs,hi,hdd,hz⟩
  dsimp only at hs hi hz hdd ⊢
  subst hdd
  rw[<-ziI hs hz]at hBf
  have HBf:=zvY hBf
  have hlt:N*(M%Bw^i)<Bw^(i+n):=by rw[Nat.mul_comm];exact zcu (Nat.mod_lt _ (zag i)) hRN.1
  have hgs:w.heap.size+1<W.heap.size:=by have:=bS1.lt;omega
  have hcA:=bA1.cell
  have hcS:=bS1.cell
  have hd:=zav M i
  have E:=zvY (zlZ W.drew (w.heap.size+1) (n+n') i (n+n' - i) (n+n' - i) n c (N*(M%Bw^i)) N (dig M i) A hBf hlt (by omega) (by omega) (by omega) (by omega) (hRN.more (by omega)) hgs hd)
  rw[zqk]at E
  have HRM:=zvY (h'.below hBl)
  have HK:=zvY (show w.heap.size+1<W0.heap.size by omega)
  have HRN:=zvY (h.below hBl)
  clear hz hBf hlt hRN hRM
  gi_wp2
  gi_region_with (refine⟨trivial,?_⟩;gi_at_call 188;refine(CallsIn.inRound l (callsIn_wide.2 E.out)).mono ?_;rintro e w' ⟨⟨v,rfl⟩,hG,hb⟩)
  all_goals
   have hG':W.grownBy w' (some (w.heap.size+1)):=(zhj W _).trans hG
   refine⟨KeepsFrom.of_grownBy hG' (fun j e=>by cases e;exact HK.out),⟨hG'.cell hcM (zaq (a:=w.heap.size+1+1+1) (by omega)),HRM.out.grown hG' (by omega) hBl.size⟩,bA1.kept hG' (zaq (by omega)),bS1.kept hG' (zaq (by omega)),HRN.out.grown hG' (by omega) hBl.size,hb,hBl.trans ((zaP hG' (by omega)).mono (by omega))⟩
 case done=>
  rintro D s W hD hS ⟨⟨hcM,hRM⟩,bA1,bS1,hRN,hBf,hBl⟩ hK
  rw[zsa hRM.1 hS]at hBf
  have hcS:=bS1.cell
  have hF:Fr W w.heap.size W.heap.size (some ⟨w.heap.size+1,0,none⟩) (n+n') (N*M):=hBf.fr (zcu h.1 h'.1) (by omega) (by have:=bS1.lt;omega)
  have E:=zvY (zcm W _ (some ⟨w.heap.size+1,0,none⟩) (n+n') (n+n') (N*M) hF.rd zv0)
  have HF:=zvY hF
  clear hS hRM hRN hBf hF bA1
  gi_wp2_with (refine⟨trivial,?_⟩;gi_at_call 149;refine(callsIn_wide.2 E.out).mono ?_;rintro e w' ⟨rfl,rfl⟩)
  refine⟨by simp,.inl ⟨_,_,rfl,run_takeDeferred hK,?_⟩⟩
  have hs2:(W.putObj D (.deferred none)).heap.size=W.heap.size:=by simp[World.putObj]
  have hg':Gives w (N*M) _ (W.putObj D (.deferred none)):=zcT (by rw[hs2];exact HF.out.kept (grownBy_putObj' _ D (.deferred none)) (fun r e=>by cases e;exact⟨_,hK,rfl⟩)) (by simp only[maxLen];omega) (hBl.trans (belowK_b (w:=w) zv0 W D _ _ (by omega) hK rfl rfl))
  refine⟨_,results_tmp rfl _ _ _,?_⟩
  exact hg'
 case stop=>
  rintro D c s W _ _ h _
  exact h.elim
theorem zl4 (A A':Option Addr)(n n' c c' N M:Nat)(w:World)(hn:n<=1000000000000)(hn':n'<=1000000000000)(h:Rd w w.heap.size A n N)(h':Rd w w.heap.size A' n' M):
  Calls Tryz.prog 150 #[.slice A n c,.slice A' n' c'] w (Gives w (N*M)):=
 callsIn_wide.1 (zon A A' n n' c c' N M w hn hn' h h')
theorem zb7 {W W':World}(h:Below W.heap.size W W')(row:Option Nat):W.grownBy W' row:=⟨h.os,h.tape,h.output,h.size,fun k hk _=>h.block k hk⟩
theorem zbL {W W':World}{B:Nat}(h:Below B W.drew W'):Below B W W':=⟨h.os,h.tape,h.output,h.size,h.block⟩
def zfu (bx m:Nat):Prop:=∀(w:World) (A A':Option Addr) (n n' c c' N M:Nat),Boxed w bx 108 (.func (.func 148) #[] #[.pointer (some ⟨bx,0,none⟩)])->Rd w w.heap.size A n N->Rd w w.heap.size A' n' M->
 n<=c->c<=9223372036854775807->n'<=c'->c'<=9223372036854775807->n<=1000000000000->n'<=1000000000000->lenL N+lenL M<m->
 Calls Tryz.prog 148 #[.slice A n c,.slice A' n' c',.pointer (some ⟨bx,0,none⟩)] w (Gives w (N*M))
theorem zb8 {w W w1:World}{A A' A2:Option Addr}{n n' N M s:Nat}(hs:s<n)(hn:n<=1000000000000)(hn':n'<=1000000000000)(h:Rd w w.heap.size A n N)(h':Rd w w.heap.size A' n' M)
  (hBf:Buf W (w.heap.size+1+1) (n+n') (N%Bw^s*M)) (hgs:w.heap.size+1+1<W.heap.size) (g4:Below W.heap.size W w1)
  (g3:Fr w1 W.heap.size w1.heap.size A2 (lenL (N/Bw^s%Bw^(min (s+n') n - s)*M)) (N/Bw^s%Bw^(min (s+n') n - s)*M)) (c:Nat):
  Calls Tryz.prog 190 #[.slice (some ⟨w.heap.size+1+1,0,none⟩) (n+n') (n+n'),.slice A2 (lenL (N/Bw^s%Bw^(min (s+n') n - s)*M)) c,.int .i64 s] w1 fun e w'=>
   (∃v,e= .returned v)/\w1.grownBy w' (some (w.heap.size+1+1))/\Buf w' (w.heap.size+1+1) (n+n') (N%Bw^(s+n')*M):=by
 obtain⟨k,hk⟩:∃k,min (s+n') n - s=k:=⟨_,rfl⟩
 have hkn:s+k<=n:=by omega
 have he:N%Bw^(s+k)=N%Bw^(s+n'):=by rw[<-hk];exact znZ h.1 hs
 rw[hk]at g3 ⊢
 have hsum:N%Bw^s*M+Bw^s*(N/Bw^s%Bw^k*M)=N%Bw^(s+n')*M:=by
  rw[<-he,<-zh6 N s k,Nat.add_mul,Nat.mul_assoc]
 have hl:lenL (N/Bw^s%Bw^k*M)<=k+n':=zai.2 (zcu (Nat.mod_lt _ (zag k)) h'.1)
 have hB1:Buf w1 (w.heap.size+1+1) (n+n') (N%Bw^s*M):=fun j hj=>⟨(g4.cell (p:=⟨w.heap.size+1+1,j,none⟩) hgs).trans (hBf j hj).1,(g4.frozen (p:=⟨w.heap.size+1+1,j,none⟩) hgs).trans (hBf j hj).2⟩
 have hT:N%Bw^s*M+Bw^s*(N/Bw^s%Bw^k*M)<Bw^(n+n'):=by
  rw[hsum]
  exact zv4 (Nat.mul_le_mul_right M (Nat.mod_le N _)) (zcu h.1 h'.1)
 have:=ze0 w1 (w.heap.size+1+1) (n+n') (n+n') s (lenL (N/Bw^s%Bw^k*M)) c (N%Bw^s*M) (N/Bw^s%Bw^k*M) A2 hB1 hT (by omega) (by omega) (by omega) (g3.rn hgs) (zv3 hgs g4.size)
 rwa [hsum]at this
def zm5 (w:World)(bx:Nat)(A A':Option Addr)(n n' c c' N M:Nat)(s:Nat)(W:World):Prop:=
 Src (w.heap.size+1+1+1+1) w.heap.size A n c N W/\W.cell? ⟨w.heap.size+1+1+1+1+1,0,none⟩=some (.int .i64 n')/\Boxed W w.heap.size 23 (.slice A' n' c')/\Boxed W (w.heap.size+1) 108 (.func (.func 148) #[] #[.pointer (some ⟨bx,0,none⟩)])/\
  Boxed W (w.heap.size+1+1+1) 23 (.slice (some ⟨w.heap.size+1+1,0,none⟩) (n+n':Nat) (n+n':Nat))/\
  Rd W w.heap.size A' n' M/\Buf W (w.heap.size+1+1) (n+n') (N%Bw^s*M)/\Below w.heap.size w W
theorem zkM {w:World}{bx:Nat}{A A':Option Addr}{n n' c c' N M B:Nat}:OwnFrom (w.heap.size+B) (zm5 w bx A A' n n' c c' N M):=by
 rintro s W W' row ⟨⟨h1,h2⟩,h0,h3,h4,h5,h6,h7,h8⟩ hg hr
 have hr':=fun r e=>(hr r e).2
 exact⟨⟨cell_kept h1 hg hr',h2.kept hg hr'⟩,cell_kept h0 hg hr',za7 h3 hg hr',za7 h4 hg hr',za7 h5 hg hr',h6.kept hg hr',h7.kept hg hr',h8.grown hg h8.size (fun r e=>by have:=(hr r e).1;omega)⟩
theorem zkN (bx m:Nat)(HP:zfu bx m)(A A':Option Addr)(n n' c c' N M:Nat)(w:World)(hbx:Boxed w bx 108 (.func (.func 148) #[] #[.pointer (some ⟨bx,0,none⟩)])) (hn:n<=1000000000000) (hn':n'<=1000000000000) (h0:0<n') (hm:n'+n'<m) (h:Rd w w.heap.size A n N) (h':Rd w w.heap.size A' n' M)
  (hnc:n<=c) (hcb:c<=9223372036854775807) (hnc':n'<=c') (hcb':c'<=9223372036854775807):
  CallsIn Fence.wide 10 Tryz.prog 151 #[.slice A n c,.slice A' n' c',.func (.func 148) #[] #[.pointer (some ⟨bx,0,none⟩)]] w (Gives w (N*M)):=by
 obtain⟨w1,hmk,hF1,hb1,hs1⟩:=zb6 ((w.alloc (.cells #[.slice A' n' c'] 23)).alloc (.cells #[.func (.func 148) #[] #[.pointer (some ⟨bx,0,none⟩)]] 108)) (n+n') (by omega)
 rw[show(((n+n':Nat)):Int)=(n:Int)+(n':Int)from by omega]at hmk
 rw[World.size_alloc,World.size_alloc]at hF1 hb1 hs1
 have bB:=zaI ((Boxed.new w 23 (.slice A' n' c')).alloc (.cells #[.func (.func 148) #[] #[.pointer (some ⟨bx,0,none⟩)]] 108)) hb1 (by omega)
 have bP:=Boxed.new (w.alloc (.cells #[.slice A' n' c'] 23)) 108 (.func (.func 148) #[] #[.pointer (some ⟨bx,0,none⟩)])
 rw[World.size_alloc]at bP
 replace bP:=zaI bP hb1 (by omega)
 have hcB:=bB.cell
 refine callsIn_of_wp_marks Tryz.func151 rfl trivial ?_ rfl
 simp only[Tryz.ntmps151,List.size_toArray,List.length_cons,List.length_nil,Nat.reduceAdd,Nat.reduceSub,Array.replicate_succ,Array.replicate_zero,List.push_toArray,List.append_toArray,List.nil_append,List.cons_append]
 gi_wp2_with (refine⟨trivial,?_⟩;gi_at_call 189;refine(callsIn_wide.2 (callsIn_wide.1 (zof A n c n' _))).mono ?_;rintro e w' ⟨rfl,rfl⟩)
 have bS:=Boxed.new w1 23 (.slice (some ⟨w.heap.size+1+1,0,none⟩) (n+n':Nat) (n+n':Nat))
 have bN:=Boxed.new (w1.alloc (.cells #[.slice (some ⟨w.heap.size+1+1,0,none⟩) (n+n':Nat) (n+n':Nat)] 23)) 23 (.slice A n c)
 have bK:=Boxed.new ((w1.alloc (.cells #[.slice (some ⟨w.heap.size+1+1,0,none⟩) (n+n':Nat) (n+n':Nat)] 23)).alloc (.cells #[.slice A n c] 23)) 3 (.int .i64 (n':Nat))
 rw[hs1]at bS
 rw[World.size_alloc,hs1]at bN
 rw[World.size_alloc,World.size_alloc,hs1]at bK
 have hB1:Below w.heap.size w w1:=(((Below.refl _ w).alloc zv0 _).alloc (by simp) _).trans (hb1.mono (by omega))
 have hB0:=((hB1.alloc (by omega) (.cells #[.slice (some ⟨w.heap.size+1+1,0,none⟩) (n+n':Nat) (n+n':Nat)] 23)).alloc (by rw[World.size_alloc];omega) (.cells #[.slice A n c] 23)).alloc (by rw[World.size_alloc,World.size_alloc];omega) (.cells #[.int .i64 (n':Nat)] 3)
 have hZ:Buf w1 (w.heap.size+1+1) (n+n') (N%Bw^0*M):=by rw[Nat.pow_zero,Nat.mod_one,Nat.zero_mul];exact Buf.of_fr hF1
 have hZ0:=((hZ.kept (World.grownBy_alloc w1 (.cells #[.slice (some ⟨w.heap.size+1+1,0,none⟩) (n+n':Nat) (n+n':Nat)] 23) none) (fun r e=>by cases e)).kept (World.grownBy_alloc _ (.cells #[.slice A n c] 23) none) (fun r e=>by cases e)).kept (World.grownBy_alloc _ (.cells #[.int .i64 (n':Nat)] 3) none) (fun r e=>by cases e)
 have hsz:(((w1.alloc (.cells #[.slice (some ⟨w.heap.size+1+1,0,none⟩) (n+n':Nat) (n+n':Nat)] 23)).alloc (.cells #[.slice A n c] 23)).alloc (.cells #[.int .i64 (n':Nat)] 3)).heap.size=w.heap.size+6:=by rw[World.size_alloc,World.size_alloc,World.size_alloc];omega
 replace bB:=((bB.alloc (.cells #[.slice (some ⟨w.heap.size+1+1,0,none⟩) (n+n':Nat) (n+n':Nat)] 23)).alloc (.cells #[.slice A n c] 23)).alloc (.cells #[.int .i64 (n':Nat)] 3)
 replace bP:=((bP.alloc (.cells #[.slice (some ⟨w.heap.size+1+1,0,none⟩) (n+n':Nat) (n+n':Nat)] 23)).alloc (.cells #[.slice A n c] 23)).alloc (.cells #[.int .i64 (n':Nat)] 3)
 replace bS:=(bS.alloc (.cells #[.slice A n c] 23)).alloc (.cells #[.int .i64 (n':Nat)] 3)
 replace bN:=bN.alloc (.cells #[.int .i64 (n':Nat)] 3)
 obtain⟨W0,hW0⟩:∃W0,((w1.alloc (.cells #[.slice (some ⟨w.heap.size+1+1,0,none⟩) (n+n':Nat) (n+n':Nat)] 23)).alloc (.cells #[.slice A n c] 23)).alloc (.cells #[.int .i64 (n':Nat)] 3)=W0:=⟨_,rfl⟩
 rw[hW0]at bB bP bS bN bK hB0 hZ0 hsz ⊢
 clear hW0 hmk hF1 hb1 hs1 hB1 hZ hcB
 have hB4:W0.heap.size=w.heap.size+6:=hsz
 refine za5 rfl (by omega) (gf:=213) (lb:= #[.pointer (some ⟨w.heap.size+1+1+1+1,0,none⟩),.pointer (some ⟨w.heap.size+1+1+1+1+1,0,none⟩)]) rfl trivial (enters_of Tryz.func213 (by kernel_rfl) rfl)
  (fun _=>rfl) (zm5 w bx A A' n n' c c' N M) (fun _ _ _=>False) (by rw[hB4];exact zkM) (fun _ _ _ _ _ h _ _=>h)
  ⟨⟨bN.cell,h.below hB0⟩,bK.cell,bB,bP,bS,h'.below hB0,hZ0,hB0⟩
  (zia (w.heap.size+1+1+1+1) w.heap.size A n c n' N hn hn' h0 hnc hcb _ (fun _ _ h=>⟨h.1,h.2.1⟩) Fence.wide rfl)
  (fun x=> { tmps:= #[.slice A n c,.slice A' n' c',.func (.func 148) #[] #[.pointer (some ⟨bx,0,none⟩)],undef,.pointer (some ⟨w.heap.size,0,none⟩),.pointer (some ⟨w.heap.size+1,0,none⟩),.slice none 0 0,.pointer (some ⟨w.heap.size+1+1+1,0,none⟩),.int .i64 (x:Nat),zhG A n c n' x,
     .slice A n c,.int .i64 (n:Nat),.slice A' n' c',.int .i64 (n':Nat),.int .i64 ((n:Int)+(n':Int)),.slice (some ⟨w.heap.size+1+1,0,none⟩) (n+n') (n+n'),.slice A n c,.slice A' n' c',.int .i64 (n':Nat),
     .func (.func 213) #[] #[.pointer (some ⟨w.heap.size+1+1+1+1,0,none⟩),.pointer (some ⟨w.heap.size+1+1+1+1+1,0,none⟩)],.int .i64 (x:Nat),zhG A n c n' x,undef,undef,undef,undef,undef,undef,undef,undef,undef],defers:=[] }) ?assign ?body ?done ?stop
 case assign=>
  intro l x W K hK
  gi_wp2
  exact hK
 case body=>
  rintro l s x W ⟨⟨hcN,hRN⟩,hcn,bB,bP,bS,hRM,hBf,hBl⟩ ⟨rfl,hs⟩
  have HBf:=zvY hBf
  have hgs:w.heap.size+1+1<W.heap.size:=by have:=bS.lt;omega
  have hltS:w.heap.size+1+1+1<W.heap.size:=bS.lt
  have hcB:=bB.cell
  have hcP:=bP.cell
  have hcS:=bS.cell
  have hbW:Boxed W bx 108 (.func (.func 148) #[] #[.pointer (some ⟨bx,0,none⟩)]):=zaI hbx hBl hbx.lt
  have HRN:=zvY (h.below hBl)
  have HRM:=zvY (h'.below hBl)
  have HK:=zvY (show w.heap.size+1+1<W0.heap.size by omega)
  have EP:=zvY (HP W.drew (A.map fun ad=>ad.add x) A' (min (x+n') n - x) n' (c - x) c' (N/Bw^x%Bw^(min (x+n') n - x)) M hbW ((hRN.piece (by omega)).more hBl.size) (hRM.more hBl.size) (by omega) (by omega) hnc' hcb' (by omega) hn'
   (by have h1:=zai.2 (Nat.mod_lt (N/Bw^x) (zag (min (x+n') n - x)));have h2:=zai.2 hRM.1;omega))
  clear hBf hRN hRM hbW
  dsimp only[zhG]
  gi_wp2
  refine zcI (by kernel_rfl) (by kernel_rfl) ?_
  refine zu2 2 ?_
  refine zu2 5 ?_
  refine zc3 [0,1,3] ?_
  refine zcv (fun K hK=>?_) ?_
  ·go_simp
   refine hK _ _ ?_
   clear hK K
   refine zc3 [1,3] ?_
   refine zcv (fun K hK=>?_) ?_
   ·go_simp
    refine hK _ _ ?_
    clear hK K
    refine zc3 [3] ?_
    refine zcv (fun K hK=>?_) ?_
    ·go_simp
     refine hK _ _ ?_
     clear hK K
     refine zc3 [4] ?_
     refine zcv (fun K hK=>?_) ?_
     ·go_simp
      refine⟨trivial,(callsIn_wide.2 EP.out).mono ?_⟩
      rintro e w1 ⟨A2,c2,rfl,g1,g2,g3,g4⟩
      replace g4:=zbL g4
      have hcS1:=(g4.cell (p:=⟨w.heap.size+1+1+1,0,none⟩) hltS).trans hcS
      have HA:=zvY (zb8 hs hn hn' h h' HBf.out hgs g4 g3)
      clear g1 g3
      refine hK _ _ ?_
      clear hK K
      refine zc3 [6] ?_
      refine zcv (fun K hK=>?_) ?_
      ·go_simp
       refine⟨trivial,(callsIn_wide.2 (HA.out c2)).mono ?_⟩
       rintro e w2 ⟨⟨v,rfl⟩,hG,hb⟩
       refine hK _ _ ?_
       clear hK K
       refine wpAnyIn_done (by kernel_rfl) ?_ _
       have hG':W.grownBy w2 (some (w.heap.size+1+1)):=(zb7 g4 _).trans hG
       exact⟨KeepsFrom.of_grownBy hG' (fun j e=>by cases e;exact HK.out),⟨hG'.cell hcN (zaq (a:=w.heap.size+1+1+1+1) (by omega)),HRN.out.grown hG' (by omega) hBl.size⟩,hG'.cell hcn (zaq (a:=w.heap.size+1+1+1+1+1) (by omega)),bB.kept hG' (zaq (by omega)),bP.kept hG' (zaq (by omega)),bS.kept hG' (zaq (by omega)),HRM.out.grown hG' (by omega) hBl.size,hb,hBl.trans ((zaP hG' (by omega)).mono (by omega))⟩
      exact AllReadyIn.nil
     exact AllReadyIn.nil
    exact AllReadyIn.nil
   refine zcv (fun K hK=>?_) ?_
   ·go_simp
    refine hK _ _ ?_
    clear hK K
    refine zc3 [1] ?_
    refine zcv (fun K hK=>?_) ?_
    ·go_simp
     refine hK _ _ ?_
     clear hK K
     refine zc3 [4] ?_
     refine zcv (fun K hK=>?_) ?_
     ·go_simp
      refine⟨trivial,(callsIn_wide.2 EP.out).mono ?_⟩
      rintro e w1 ⟨A2,c2,rfl,g1,g2,g3,g4⟩
      replace g4:=zbL g4
      have hcS1:=(g4.cell (p:=⟨w.heap.size+1+1+1,0,none⟩) hltS).trans hcS
      have HA:=zvY (zb8 hs hn hn' h h' HBf.out hgs g4 g3)
      clear g1 g3
      refine hK _ _ ?_
      clear hK K
      refine zc3 [6] ?_
      refine zcv (fun K hK=>?_) ?_
      ·go_simp
       refine⟨trivial,(callsIn_wide.2 (HA.out c2)).mono ?_⟩
       rintro e w2 ⟨⟨v,rfl⟩,hG,hb⟩
       refine hK _ _ ?_
       clear hK K
       refine wpAnyIn_done (by kernel_rfl) ?_ _
       have hG':W.grownBy w2 (some (w.heap.size+1+1)):=(zb7 g4 _).trans hG
       exact⟨KeepsFrom.of_grownBy hG' (fun j e=>by cases e;exact HK.out),⟨hG'.cell hcN (zaq (a:=w.heap.size+1+1+1+1) (by omega)),HRN.out.grown hG' (by omega) hBl.size⟩,hG'.cell hcn (zaq (a:=w.heap.size+1+1+1+1+1) (by omega)),bB.kept hG' (zaq (by omega)),bP.kept hG' (zaq (by omega)),bS.kept hG' (zaq (by omega)),HRM.out.grown hG' (by omega) hBl.size,hb,hBl.trans ((zaP hG' (by omega)).mono (by omega))⟩
      exact AllReadyIn.nil
     exact AllReadyIn.nil
    exact AllReadyIn.nil
   exact AllReadyIn.nil
  refine zcv (fun K hK=>?_) ?_
  ·go_simp
   refine hK _ _ ?_
   clear hK K
   refine zc3 [0,3] ?_
   refine zcv (fun K hK=>?_) ?_
   ·go_simp
    refine hK _ _ ?_
    clear hK K
    refine zc3 [3] ?_
    refine zcv (fun K hK=>?_) ?_
    ·go_simp
     refine hK _ _ ?_
     clear hK K
     refine zc3 [4] ?_
     refine zcv (fun K hK=>?_) ?_
     ·go_simp
      refine⟨trivial,(callsIn_wide.2 EP.out).mono ?_⟩
      rintro e w1 ⟨A2,c2,rfl,g1,g2,g3,g4⟩
      replace g4:=zbL g4
      have hcS1:=(g4.cell (p:=⟨w.heap.size+1+1+1,0,none⟩) hltS).trans hcS
      have HA:=zvY (zb8 hs hn hn' h h' HBf.out hgs g4 g3)
      clear g1 g3
      refine hK _ _ ?_
      clear hK K
      refine zc3 [6] ?_
      refine zcv (fun K hK=>?_) ?_
      ·go_simp
       refine⟨trivial,(callsIn_wide.2 (HA.out c2)).mono ?_⟩
       rintro e w2 ⟨⟨v,rfl⟩,hG,hb⟩
       refine hK _ _ ?_
       clear hK K
       refine wpAnyIn_done (by kernel_rfl) ?_ _
       have hG':W.grownBy w2 (some (w.heap.size+1+1)):=(zb7 g4 _).trans hG
       exact⟨KeepsFrom.of_grownBy hG' (fun j e=>by cases e;exact HK.out),⟨hG'.cell hcN (zaq (a:=w.heap.size+1+1+1+1) (by omega)),HRN.out.grown hG' (by omega) hBl.size⟩,hG'.cell hcn (zaq (a:=w.heap.size+1+1+1+1+1) (by omega)),bB.kept hG' (zaq (by omega)),bP.kept hG' (zaq (by omega)),bS.kept hG' (zaq (by omega)),HRM.out.grown hG' (by omega) hBl.size,hb,hBl.trans ((zaP hG' (by omega)).mono (by omega))⟩
      exact AllReadyIn.nil
     exact AllReadyIn.nil
    exact AllReadyIn.nil
   refine zcv (fun K hK=>?_) ?_
   ·go_simp
    refine hK _ _ ?_
    clear hK K
    refine zc3 [0,4] ?_
    refine zcv (fun K hK=>?_) ?_
    ·go_simp
     refine hK _ _ ?_
     clear hK K
     refine zc3 [4] ?_
     refine zcv (fun K hK=>?_) ?_
     ·go_simp
      refine⟨trivial,(callsIn_wide.2 EP.out).mono ?_⟩
      rintro e w1 ⟨A2,c2,rfl,g1,g2,g3,g4⟩
      replace g4:=zbL g4
      have hcS1:=(g4.cell (p:=⟨w.heap.size+1+1+1,0,none⟩) hltS).trans hcS
      have HA:=zvY (zb8 hs hn hn' h h' HBf.out hgs g4 g3)
      clear g1 g3
      refine hK _ _ ?_
      clear hK K
      refine zc3 [6] ?_
      refine zcv (fun K hK=>?_) ?_
      ·go_simp
       refine⟨trivial,(callsIn_wide.2 (HA.out c2)).mono ?_⟩
       rintro e w2 ⟨⟨v,rfl⟩,hG,hb⟩
       refine hK _ _ ?_
       clear hK K
       refine wpAnyIn_done (by kernel_rfl) ?_ _
       have hG':W.grownBy w2 (some (w.heap.size+1+1)):=(zb7 g4 _).trans hG
       exact⟨KeepsFrom.of_grownBy hG' (fun j e=>by cases e;exact HK.out),⟨hG'.cell hcN (zaq (a:=w.heap.size+1+1+1+1) (by omega)),HRN.out.grown hG' (by omega) hBl.size⟩,hG'.cell hcn (zaq (a:=w.heap.size+1+1+1+1+1) (by omega)),bB.kept hG' (zaq (by omega)),bP.kept hG' (zaq (by omega)),bS.kept hG' (zaq (by omega)),HRM.out.grown hG' (by omega) hBl.size,hb,hBl.trans ((zaP hG' (by omega)).mono (by omega))⟩
      exact AllReadyIn.nil
     exact AllReadyIn.nil
    refine zcv (fun K hK=>?_) ?_
    ·go_simp
     refine⟨trivial,(callsIn_wide.2 EP.out).mono ?_⟩
     rintro e w1 ⟨A2,c2,rfl,g1,g2,g3,g4⟩
     replace g4:=zbL g4
     have hcS1:=(g4.cell (p:=⟨w.heap.size+1+1+1,0,none⟩) hltS).trans hcS
     have HA:=zvY (zb8 hs hn hn' h h' HBf.out hgs g4 g3)
     clear g1 g3
     refine hK _ _ ?_
     clear hK K
     refine zc3 [0] ?_
     refine zcv (fun K hK=>?_) ?_
     ·go_simp
      refine hK _ _ ?_
      clear hK K
      refine zc3 [6] ?_
      refine zcv (fun K hK=>?_) ?_
      ·go_simp
       refine⟨trivial,(callsIn_wide.2 (HA.out c2)).mono ?_⟩
       rintro e w2 ⟨⟨v,rfl⟩,hG,hb⟩
       refine hK _ _ ?_
       clear hK K
       refine wpAnyIn_done (by kernel_rfl) ?_ _
       have hG':W.grownBy w2 (some (w.heap.size+1+1)):=(zb7 g4 _).trans hG
       exact⟨KeepsFrom.of_grownBy hG' (fun j e=>by cases e;exact HK.out),⟨hG'.cell hcN (zaq (a:=w.heap.size+1+1+1+1) (by omega)),HRN.out.grown hG' (by omega) hBl.size⟩,hG'.cell hcn (zaq (a:=w.heap.size+1+1+1+1+1) (by omega)),bB.kept hG' (zaq (by omega)),bP.kept hG' (zaq (by omega)),bS.kept hG' (zaq (by omega)),HRM.out.grown hG' (by omega) hBl.size,hb,hBl.trans ((zaP hG' (by omega)).mono (by omega))⟩
      exact AllReadyIn.nil
     exact AllReadyIn.nil
    exact AllReadyIn.nil
   exact AllReadyIn.nil
  refine zcv (fun K hK=>?_) ?_
  ·go_simp
   refine hK _ _ ?_
   clear hK K
   refine zc3 [0,1] ?_
   refine zcv (fun K hK=>?_) ?_
   ·go_simp
    refine hK _ _ ?_
    clear hK K
    refine zc3 [1] ?_
    refine zcv (fun K hK=>?_) ?_
    ·go_simp
     refine hK _ _ ?_
     clear hK K
     refine zc3 [4] ?_
     refine zcv (fun K hK=>?_) ?_
     ·go_simp
      refine⟨trivial,(callsIn_wide.2 EP.out).mono ?_⟩
      rintro e w1 ⟨A2,c2,rfl,g1,g2,g3,g4⟩
      replace g4:=zbL g4
      have hcS1:=(g4.cell (p:=⟨w.heap.size+1+1+1,0,none⟩) hltS).trans hcS
      have HA:=zvY (zb8 hs hn hn' h h' HBf.out hgs g4 g3)
      clear g1 g3
      refine hK _ _ ?_
      clear hK K
      refine zc3 [6] ?_
      refine zcv (fun K hK=>?_) ?_
      ·go_simp
       refine⟨trivial,(callsIn_wide.2 (HA.out c2)).mono ?_⟩
       rintro e w2 ⟨⟨v,rfl⟩,hG,hb⟩
       refine hK _ _ ?_
       clear hK K
       refine wpAnyIn_done (by kernel_rfl) ?_ _
       have hG':W.grownBy w2 (some (w.heap.size+1+1)):=(zb7 g4 _).trans hG
       exact⟨KeepsFrom.of_grownBy hG' (fun j e=>by cases e;exact HK.out),⟨hG'.cell hcN (zaq (a:=w.heap.size+1+1+1+1) (by omega)),HRN.out.grown hG' (by omega) hBl.size⟩,hG'.cell hcn (zaq (a:=w.heap.size+1+1+1+1+1) (by omega)),bB.kept hG' (zaq (by omega)),bP.kept hG' (zaq (by omega)),bS.kept hG' (zaq (by omega)),HRM.out.grown hG' (by omega) hBl.size,hb,hBl.trans ((zaP hG' (by omega)).mono (by omega))⟩
      exact AllReadyIn.nil
     exact AllReadyIn.nil
    exact AllReadyIn.nil
   refine zcv (fun K hK=>?_) ?_
   ·go_simp
    refine hK _ _ ?_
    clear hK K
    refine zc3 [0,4] ?_
    refine zcv (fun K hK=>?_) ?_
    ·go_simp
     refine hK _ _ ?_
     clear hK K
     refine zc3 [4] ?_
     refine zcv (fun K hK=>?_) ?_
     ·go_simp
      refine⟨trivial,(callsIn_wide.2 EP.out).mono ?_⟩
      rintro e w1 ⟨A2,c2,rfl,g1,g2,g3,g4⟩
      replace g4:=zbL g4
      have hcS1:=(g4.cell (p:=⟨w.heap.size+1+1+1,0,none⟩) hltS).trans hcS
      have HA:=zvY (zb8 hs hn hn' h h' HBf.out hgs g4 g3)
      clear g1 g3
      refine hK _ _ ?_
      clear hK K
      refine zc3 [6] ?_
      refine zcv (fun K hK=>?_) ?_
      ·go_simp
       refine⟨trivial,(callsIn_wide.2 (HA.out c2)).mono ?_⟩
       rintro e w2 ⟨⟨v,rfl⟩,hG,hb⟩
       refine hK _ _ ?_
       clear hK K
       refine wpAnyIn_done (by kernel_rfl) ?_ _
       have hG':W.grownBy w2 (some (w.heap.size+1+1)):=(zb7 g4 _).trans hG
       exact⟨KeepsFrom.of_grownBy hG' (fun j e=>by cases e;exact HK.out),⟨hG'.cell hcN (zaq (a:=w.heap.size+1+1+1+1) (by omega)),HRN.out.grown hG' (by omega) hBl.size⟩,hG'.cell hcn (zaq (a:=w.heap.size+1+1+1+1+1) (by omega)),bB.kept hG' (zaq (by omega)),bP.kept hG' (zaq (by omega)),bS.kept hG' (zaq (by omega)),HRM.out.grown hG' (by omega) hBl.size,hb,hBl.trans ((zaP hG' (by omega)).mono (by omega))⟩
      exact AllReadyIn.nil
     exact AllReadyIn.nil
    refine zcv (fun K hK=>?_) ?_
    ·go_simp
     refine⟨trivial,(callsIn_wide.2 EP.out).mono ?_⟩
     rintro e w1 ⟨A2,c2,rfl,g1,g2,g3,g4⟩
     replace g4:=zbL g4
     have hcS1:=(g4.cell (p:=⟨w.heap.size+1+1+1,0,none⟩) hltS).trans hcS
     have HA:=zvY (zb8 hs hn hn' h h' HBf.out hgs g4 g3)
     clear g1 g3
     refine hK _ _ ?_
     clear hK K
     refine zc3 [0] ?_
     refine zcv (fun K hK=>?_) ?_
     ·go_simp
      refine hK _ _ ?_
      clear hK K
      refine zc3 [6] ?_
      refine zcv (fun K hK=>?_) ?_
      ·go_simp
       refine⟨trivial,(callsIn_wide.2 (HA.out c2)).mono ?_⟩
       rintro e w2 ⟨⟨v,rfl⟩,hG,hb⟩
       refine hK _ _ ?_
       clear hK K
       refine wpAnyIn_done (by kernel_rfl) ?_ _
       have hG':W.grownBy w2 (some (w.heap.size+1+1)):=(zb7 g4 _).trans hG
       exact⟨KeepsFrom.of_grownBy hG' (fun j e=>by cases e;exact HK.out),⟨hG'.cell hcN (zaq (a:=w.heap.size+1+1+1+1) (by omega)),HRN.out.grown hG' (by omega) hBl.size⟩,hG'.cell hcn (zaq (a:=w.heap.size+1+1+1+1+1) (by omega)),bB.kept hG' (zaq (by omega)),bP.kept hG' (zaq (by omega)),bS.kept hG' (zaq (by omega)),HRM.out.grown hG' (by omega) hBl.size,hb,hBl.trans ((zaP hG' (by omega)).mono (by omega))⟩
      exact AllReadyIn.nil
     exact AllReadyIn.nil
    exact AllReadyIn.nil
   exact AllReadyIn.nil
  exact AllReadyIn.nil
 case done=>
  rintro D s W hD hS ⟨⟨hcN,hRN⟩,hcn,bB,bP,bS,hRM,hBf,hBl⟩ hK
  rw[Nat.mod_eq_of_lt (zaz hRN.1 hS)]at hBf
  have hcS:=bS.cell
  have hF:Fr W w.heap.size W.heap.size (some ⟨w.heap.size+1+1,0,none⟩) (n+n') (N*M):=hBf.fr (zcu h.1 h'.1) (by omega) (by have:=bS.lt;omega)
  have E:=zvY (zcm W _ (some ⟨w.heap.size+1+1,0,none⟩) (n+n') (n+n') (N*M) hF.rd zv0)
  have HF:=zvY hF
  clear hS hRM hRN hBf hF bB bP
  gi_wp2_with (refine⟨trivial,?_⟩;gi_at_call 149;refine(callsIn_wide.2 E.out).mono ?_;rintro e w' ⟨rfl,rfl⟩)
  refine⟨by simp,.inl ⟨_,_,rfl,run_takeDeferred hK,?_⟩⟩
  have hs2:(W.putObj D (.deferred none)).heap.size=W.heap.size:=by simp[World.putObj]
  have hg':Gives w (N*M) _ (W.putObj D (.deferred none)):=zcT (by rw[hs2];exact HF.out.kept (grownBy_putObj' _ D (.deferred none)) (fun r e=>by cases e;exact⟨_,hK,rfl⟩)) (by simp only[maxLen];omega) (hBl.trans (belowK_b (w:=w) zv0 W D _ _ (by omega) hK rfl rfl))
  refine⟨_,results_tmp rfl _ _ _,?_⟩
  exact hg'
 case stop=>
  rintro D c s W _ _ h _
  exact h.elim
theorem zjw (bx m:Nat)(HP:zfu bx m)(A A':Option Addr)(n n' c c' N M:Nat)(w:World)(hbx:Boxed w bx 108 (.func (.func 148) #[] #[.pointer (some ⟨bx,0,none⟩)])) (hn:n<=1000000000000) (hn':n'<=1000000000000) (h0:0<n') (hm:n'+n'<m) (h:Rd w w.heap.size A n N) (h':Rd w w.heap.size A' n' M)
  (hnc:n<=c) (hcb:c<=9223372036854775807) (hnc':n'<=c') (hcb':c'<=9223372036854775807):
  Calls Tryz.prog 151 #[.slice A n c,.slice A' n' c',.func (.func 148) #[] #[.pointer (some ⟨bx,0,none⟩)]] w (Gives w (N*M)):=
 callsIn_wide.1 (zkN bx m HP A A' n n' c c' N M w hbx hn hn' h0 hm h h' hnc hcb hnc' hcb')
end
def Lit (W:World)(g:Nat)(a b:Value):Prop:=W.cell? ⟨g,0,none⟩=some a/\W.cell? ⟨g,1,none⟩=some b/\g<W.heap.size
theorem Lit.new (W:World)(t:TypeId)(a b:Value):Lit (W.alloc (.cells #[a,b] t)) W.heap.size a b:=by
 have h:=World.alloc_heap_new' W (.cells #[a,b] t)
 exact⟨by simp only[World.cell?,h];rfl,by simp only[World.cell?,h];rfl,by simp⟩
theorem Lit.later {W W':World}{g:Nat}{a b:Value}(h:Lit W g a b)(hb:Below W.heap.size W W'):Lit W' g a b:=
 ⟨(hb.cell (p:=⟨g,0,none⟩) h.2.2).trans h.1,(hb.cell (p:=⟨g,1,none⟩) h.2.2).trans h.2.1,zv3 h.2.2 hb.size⟩
theorem Lit.alloc {W:World}{g:Nat}{a b:Value}(h:Lit W g a b)(o:Obj):Lit (W.alloc o) g a b:=h.later ((Below.refl _ W).alloc zv0 o)
theorem Lit.drew {W:World}{g:Nat}{a b:Value}(h:Lit W g a b):Lit W.drew g a b:=h
theorem zdi {w W:World}{g:Nat}{x y:Num}(hx:x.ok w w.heap.size)(hy:y.ok w w.heap.size)(hB:Below w.heap.size w W)(hl:Lit W g (.slice x.A x.n x.c) (.slice y.A y.n y.c)):
  Calls Tryz.prog 160 #[.slice (some ⟨g,0,none⟩) 2 2] W (Gives W (x.N+y.N)):=by
 have hR:Rds W W.heap.size (some ⟨g,0,none⟩) [x,y]:=fun k hk=>by
  match k,hk with
  |0,_=>exact⟨⟨_,rfl,hl.2.2,by rw[zaW];exact hl.1⟩,hx.later hB⟩
  |1,_=>exact⟨⟨_,rfl,hl.2.2,by rw[zaW];exact hl.2.1⟩,hy.later hB⟩
 have:=zg4 W (some ⟨g,0,none⟩) 2 [x,y] hR (by simp)
 simpa[zbO]using this
theorem zl5 {N0 N1 M0 M1 q:Nat}:N0*M0+Bw^q*((N0+N1)*(M0+M1) - (N0*M0+N1*M1))+Bw^(2*q)*(N1*M1)=(N0+Bw^q*N1)*(M0+Bw^q*M1):=by
 rw[show(N0+N1)*(M0+M1) - (N0*M0+N1*M1)=N0*M1+N1*M0 by rw[Nat.add_mul,Nat.mul_add,Nat.mul_add];omega]
 rw[show 2*q=q+q by omega,zaY,Nat.add_mul,Nat.mul_add,Nat.mul_add,Nat.mul_add]
 have e1:N0*(Bw^q*M1)=Bw^q*(N0*M1):=by ac_rfl
 have e2:Bw^q*N1*M0=Bw^q*(N1*M0):=by ac_rfl
 have e3:Bw^q*N1*(Bw^q*M1)=Bw^q*Bw^q*(N1*M1):=by ac_rfl
 rw[e1,e2,e3]
 omega
theorem zl6 {D q m:Nat}(h:Bw^q*D<Bw^m)(hq:q<=m):lenL D<=m - q:=by
 rw[zai]
 rw[show m=q+(m - q) by omega,zaY]at h
 exact Nat.lt_of_mul_lt_mul_left h
theorem zoo {N0 N1 M0 M1:Nat}:N0*M0+N1*M1<=(N0+N1)*(M0+M1):=by
 rw[Nat.add_mul,Nat.mul_add,Nat.mul_add];omega
theorem ziJ (N q:Nat):N%Bw^q+Bw^q*(N/Bw^q)=N:=Nat.mod_add_div N _
theorem zjx (bx m:Nat)(HP:zfu bx m)(A A':Option Addr)(n n' c c' N M:Nat)(w:World)(hbx:Boxed w bx 108 (.func (.func 148) #[] #[.pointer (some ⟨bx,0,none⟩)])) (hn:n<=1000000000000) (h2:2<=n') (h3:n'<=n) (h4:n<2*n') (hm:n+3<m) (h:Rd w w.heap.size A n N) (h':Rd w w.heap.size A' n' M)
  (hnc:n<=c) (hcb:c<=9223372036854775807) (hnc':n'<=c') (hcb':c'<=9223372036854775807):
  Calls Tryz.prog 152 #[.slice A n c,.slice A' n' c',.func (.func 148) #[] #[.pointer (some ⟨bx,0,none⟩)]] w (Gives w (N*M)):=by
 obtain⟨ad,rfl,_,_⟩:=h.at_ (k:=0) (by omega)
 obtain⟨ad',rfl,_,_⟩:=h'.at_ (k:=0) (by omega)
 obtain⟨q,hq⟩:∃q,(n+1)/2=q:=⟨_,rfl⟩
 have hqi:((n:Int)+1)/2=(q:Int):=by omega
 have hq1:q<=n:=by omega
 have hq2:q<=n':=by omega
 have hq3:2*q<=n+1:=by omega
 have hq4:n<=2*q:=by omega
 have hA0:=zvY (h.low hq1)
 have hA1:=zvY (h.high hq1)
 have hB0:=zvY (h'.low hq2)
 obtain⟨Bh,hBh⟩:∃Bh,(if c'=q then some ad' else some (ad'.add q))=Bh:=⟨_,rfl⟩
 have hB1:Hid (Rd w w.heap.size Bh (n' - q) (M/Bw^q)):=by
  have:=h'.high hq2
  rw[<-hBh]
  split
  ·exact this.empty (by omega)
  ·exact this
 have hqn:q<n:=by omega
 have hqc0: ¬c=q:=by omega
 have hqc:q<=c:=by omega
 have hqc':q<=c':=by omega
 clear hq
 obtain⟨N0,hN0⟩:∃N0,N%Bw^q=N0:=⟨_,rfl⟩
 obtain⟨N1,hN1⟩:∃N1,N/Bw^q=N1:=⟨_,rfl⟩
 obtain⟨M0,hM0⟩:∃M0,M%Bw^q=M0:=⟨_,rfl⟩
 obtain⟨M1,hM1⟩:∃M1,M/Bw^q=M1:=⟨_,rfl⟩
 rw[hN0]at hA0
 rw[hN1]at hA1
 rw[hM0]at hB0
 rw[hM1]at hB1
 have l0:=zai.2 hA0.out.1
 have l1:=zai.2 hA1.out.1
 have l2:=zai.2 hB0.out.1
 have l3:=zai.2 hB1.out.1
 have EL:=zvY (fun(W:World) (hB:Below w.heap.size w W)=>HP W (some ad) (some ad') q q c c' N0 M0 (zaI hbx hB hbx.lt) ((hA0.out.below hB).more hB.size) ((hB0.out.below hB).more hB.size) (by omega) hcb (by omega) hcb' (by omega) (by omega) (by omega))
 have EH:=zvY (fun(W:World) (hB:Below w.heap.size w W)=>HP W (some (ad.add q)) Bh (n - q) (n' - q) (c - q) (c' - q) N1 M1 (zaI hbx hB hbx.lt) ((hA1.out.below hB).more hB.size) ((hB1.out.below hB).more hB.size) (by omega) (by omega) (by omega) (by omega) (by omega) (by omega) (by omega))
 have HN:=zvY hN0
 have HN':=zvY hN1
 have HM:=zvY hM0
 have HM':=zvY hM1
 clear hN0 hN1 hM0 hM1
 go_enter Tryz.func152,Tryz.ntmps152
 go_wp2
 go_region_with (go_at_call 148;refine(EL.out _ (Below.drew (Below.refl _ w))).mono ?_;rintro e wa ⟨Al,cl,rfl,a1,a2,a3,a4⟩)
 simp only[List.getElem_toArray,List.getElem_cons_succ,List.getElem_cons_zero,Act.put,List.setIfInBounds_toArray,List.set_cons_zero,List.set_cons_succ]
 have hBa:Below w.heap.size w wa:=(Below.drew (Below.refl _ w)).trans a4
 have HL:=zvY (show Fr wa w.heap.size wa.heap.size Al (lenL (N0*M0)) (N0*M0)from a3)
 clear a3 a4
 go_wp2
 go_region_with (go_at_call 148;refine(EH.out _ hBa.drew).mono ?_;rintro e wb ⟨Ah,ch,rfl,b1,b2,b3,b4⟩)
 simp only[List.getElem_toArray,List.getElem_cons_succ,List.getElem_cons_zero,Act.put,List.setIfInBounds_toArray,List.set_cons_zero,List.set_cons_succ]
 have hBb:Below w.heap.size w wb:=hBa.trans ((zbL b4).mono hBa.size)
 have HL2:=zvY (HL.out.keep (zbL b4))
 have HH:=zvY (show Fr wb wa.heap.size wb.heap.size Ah (lenL (N1*M1)) (N1*M1)from b3)
 have hab:wa.heap.size<=wb.heap.size:=(zbL b4).size
 clear b3 b4 HL
 go_wp2
 have xa0:(Num.mk (some ad) q c N0).ok w w.heap.size:=⟨hA0.out,hqc,by simpa[maxLen]using hcb,by show q<=35184372087808;omega⟩
 have xa1:(Num.mk (some (ad.add q)) (n - q) (c - q) N1).ok w w.heap.size:=⟨hA1.out,by simp only;omega,by simp only[maxLen];omega,by simp only;omega⟩
 have xb0:(Num.mk (some ad') q c' M0).ok w w.heap.size:=⟨hB0.out,hqc',by simpa[maxLen]using hcb',by show q<=35184372087808;omega⟩
 have xb1:(Num.mk Bh (n' - q) (c' - q) M1).ok w w.heap.size:=⟨hB1.out,by simp only;omega,by simp only[maxLen];omega,by simp only;omega⟩
 have HSum:=zvY (show N0*M0+Bw^q*((N0+N1)*(M0+M1) - (N0*M0+N1*M1))+Bw^(2*q)*(N1*M1)=N*M by rw[zl5,<-HN.out,<-HN'.out,<-HM.out,<-HM'.out,ziJ,ziJ])
 have lS:lenL (N0+N1)<=q+1:=zc2 hA0.out.1 (zaz hA1.out.1 (by omega))
 have lT:lenL (M0+M1)<=q+1:=zc2 hB0.out.1 (zaz hB1.out.1 (by omega))
 have hT:=zvY (show N*M<Bw^(n+n')from zcu h.1 h'.1)
 have hpow0:0+Bw^0*(N0*M0)=N0*M0:=by rw[Nat.pow_zero,Nat.one_mul,Nat.zero_add]
 have HT3:=zvY (show 0+Bw^0*(N0*M0)+Bw^q*((N0+N1)*(M0+M1) - (N0*M0+N1*M1))+Bw^(2*q)*(N1*M1)=N*M by rw[hpow0];exact HSum.out)
 have HT2:=zvY (show 0+Bw^0*(N0*M0)+Bw^q*((N0+N1)*(M0+M1) - (N0*M0+N1*M1))<Bw^(n+n') by have:=HT3.out;have:=hT.out;omega)
 have HT1:=zvY (show 0+Bw^0*(N0*M0)<Bw^(n+n') by have:=HT2.out;omega)
 have HD:=zvY (show Bw^q*((N0+N1)*(M0+M1) - (N0*M0+N1*M1))<Bw^(n+n') by have:=HT2.out;omega)
 have lD:=zl6 HD.out (by omega:q<=n+n')
 have lL:lenL (N0*M0)<=q+q:=zai.2 (zcu hA0.out.1 hB0.out.1)
 have lH:lenL (N1*M1)<=(n - q)+(n' - q):=zai.2 (zcu hA1.out.1 hB1.out.1)
 have lS2:lenL (N0*M0+N1*M1)<=q+q+1:=zc2 (zcu hA0.out.1 hB0.out.1) (zaz (zcu hA1.out.1 hB1.out.1) (by omega))
 have lP:lenL ((N0+N1)*(M0+M1))<=(q+1)+(q+1):=zai.2 (zcu (zai.1 lS) (zai.1 lT))
 have EA1:=zvY (fun(W:World) (g:Nat) (hb:Buf W g (n+n') 0) (hr:Rn W g Al (lenL (N0*M0)) (N0*M0)) (hg:g<W.heap.size)=>ze0 W g (n+n') (n+n') 0 (lenL (N0*M0)) cl 0 (N0*M0) Al hb HT1.out (by omega) (by omega) (by omega) hr hg)
 have EA2:=zvY (fun(W:World) (g:Nat) (Ad:Option Addr) (cd:Nat) (hb:Buf W g (n+n') (0+Bw^0*(N0*M0))) (hr:Rn W g Ad (lenL ((N0+N1)*(M0+M1) - (N0*M0+N1*M1))) ((N0+N1)*(M0+M1) - (N0*M0+N1*M1))) (hg:g<W.heap.size)=>ze0 W g (n+n') (n+n') q (lenL ((N0+N1)*(M0+M1) - (N0*M0+N1*M1))) cd (0+Bw^0*(N0*M0)) ((N0+N1)*(M0+M1) - (N0*M0+N1*M1)) Ad hb HT2.out (by omega) (by omega) (by omega) hr hg)
 have EA3:=zvY (fun(W:World) (g:Nat) (hb:Buf W g (n+n') (0+Bw^0*(N0*M0)+Bw^q*((N0+N1)*(M0+M1) - (N0*M0+N1*M1)))) (hr:Rn W g Ah (lenL (N1*M1)) (N1*M1)) (hg:g<W.heap.size)=>ze0 W g (n+n') (n+n') (2*q) (lenL (N1*M1)) ch (0+Bw^0*(N0*M0)+Bw^q*((N0+N1)*(M0+M1) - (N0*M0+N1*M1))) (N1*M1) Ah hb (by rw[HT3.out];exact hT.out) (by omega) (by omega) (by omega) hr hg)
 rw[HT3.out]at EA3
 rw[show((0:Nat):Int)=0 from rfl]at EA1
 rw[show((2*q:Nat):Int)=2*(q:Int)from by omega]at EA3
 have HLE:=zvY (zoo (N0:=N0) (N1:=N1) (M0:=M0) (M1:=M1))
 clear hpow0
 refine wp_region_any (by kernel_rfl) ?_
 change wpAny _ _ _ _ _ _ _ (World.drew _)
 refine wpAny_take (i:=0) (v:=_) rfl (by kernel_rfl) (by kernel_rfl) (by kernel_rfl) (fun _ _ _ h=>h) (Or.inl ⟨by rfl,fun w=>BigFrame.run_move (.tmp 2) rfl w⟩) ?_
 simp only[Act.eval,List.getElem_toArray,List.getElem_cons_zero,Act.put,List.setIfInBounds_toArray,List.set_cons_zero,List.set_cons_succ]
 refine wpAny_take (i:=1) (v:=_) rfl (by kernel_rfl) (by kernel_rfl) (by kernel_rfl) (fun _ _ _ h=>h) (Or.inl ⟨by rfl,fun w=>BigFrame.run_move (.tmp 0) rfl w⟩) ?_
 simp only[Act.eval,List.getElem_toArray,List.getElem_cons_succ,List.getElem_cons_zero,Act.put,List.setIfInBounds_toArray,List.set_cons_zero,List.set_cons_succ]
 refine wpAny_take (i:=2) (v:=_) rfl (by kernel_rfl) (by kernel_rfl) (by kernel_rfl) (fun _ _ _ h=>h) (Or.inl ⟨by rfl,fun w=>BigFrame.run_move (.tmp 7) rfl w⟩) ?_
 simp only[Act.eval,List.getElem_toArray,List.getElem_cons_succ,List.getElem_cons_zero,Act.put,List.setIfInBounds_toArray,List.set_cons_zero,List.set_cons_succ]
 refine wpAny_take (i:=3) (v:= .slice (some ad) q c) rfl (by kernel_rfl) (by kernel_rfl) (by kernel_rfl) (fun _ _ _ h=>h) (Or.inl ⟨by rfl,fun w=>by go_simp⟩) ?_
 simp only[List.getElem_toArray,List.getElem_cons_succ,List.getElem_cons_zero,Act.put,List.setIfInBounds_toArray,List.set_cons_zero,List.set_cons_succ]
 refine wpAny_take (i:=4) (v:=_) rfl (by kernel_rfl) (by kernel_rfl) (by kernel_rfl) (fun _ _ _ h=>h) (Or.inl ⟨by rfl,fun w=>BigFrame.run_move (.tmp 0) rfl w⟩) ?_
 simp only[Act.eval,List.getElem_toArray,List.getElem_cons_succ,List.getElem_cons_zero,Act.put,List.setIfInBounds_toArray,List.set_cons_zero,List.set_cons_succ]
 refine wpAny_take (i:=5) (v:=_) rfl (by kernel_rfl) (by kernel_rfl) (by kernel_rfl) (fun _ _ _ h=>h) (Or.inl ⟨by rfl,fun w=>BigFrame.run_move (.tmp 7) rfl w⟩) ?_
 simp only[Act.eval,List.getElem_toArray,List.getElem_cons_succ,List.getElem_cons_zero,Act.put,List.setIfInBounds_toArray,List.set_cons_zero,List.set_cons_succ]
 refine wpAny_take (i:=6) (v:= .slice (some (ad.add q)) (n - q) (c - q)) rfl (by kernel_rfl) (by kernel_rfl) (by kernel_rfl) (fun _ _ _ h=>h) (Or.inl ⟨by rfl,fun w=>by go_simp⟩) ?_
 simp only[List.getElem_toArray,List.getElem_cons_succ,List.getElem_cons_zero,Act.put,List.setIfInBounds_toArray,List.set_cons_zero,List.set_cons_succ]
 refine wpAny_take (i:=9) (v:=_) rfl (by kernel_rfl) (by kernel_rfl) (by kernel_rfl) (fun _ _ _ h=>h) (Or.inl ⟨by rfl,fun w=>BigFrame.run_move (.tmp 1) rfl w⟩) ?_
 simp only[Act.eval,List.getElem_toArray,List.getElem_cons_succ,List.getElem_cons_zero,Act.put,List.setIfInBounds_toArray,List.set_cons_zero,List.set_cons_succ]
 refine wpAny_take (i:=10) (v:=_) rfl (by kernel_rfl) (by kernel_rfl) (by kernel_rfl) (fun _ _ _ h=>h) (Or.inl ⟨by rfl,fun w=>BigFrame.run_move (.tmp 7) rfl w⟩) ?_
 simp only[Act.eval,List.getElem_toArray,List.getElem_cons_succ,List.getElem_cons_zero,Act.put,List.setIfInBounds_toArray,List.set_cons_zero,List.set_cons_succ]
 refine wpAny_take (i:=11) (v:= .slice (some ad') q c') rfl (by kernel_rfl) (by kernel_rfl) (by kernel_rfl) (fun _ _ _ h=>h) (Or.inl ⟨by rfl,fun w=>by go_simp⟩) ?_
 simp only[List.getElem_toArray,List.getElem_cons_succ,List.getElem_cons_zero,Act.put,List.setIfInBounds_toArray,List.set_cons_zero,List.set_cons_succ]
 refine wpAny_take (i:=12) (v:=_) rfl (by kernel_rfl) (by kernel_rfl) (by kernel_rfl) (fun _ _ _ h=>h) (Or.inl ⟨by rfl,fun w=>BigFrame.run_move (.tmp 1) rfl w⟩) ?_
 simp only[Act.eval,List.getElem_toArray,List.getElem_cons_succ,List.getElem_cons_zero,Act.put,List.setIfInBounds_toArray,List.set_cons_zero,List.set_cons_succ]
 refine wpAny_take (i:=13) (v:=_) rfl (by kernel_rfl) (by kernel_rfl) (by kernel_rfl) (fun _ _ _ h=>h) (Or.inl ⟨by rfl,fun w=>BigFrame.run_move (.tmp 7) rfl w⟩) ?_
 simp only[Act.eval,List.getElem_toArray,List.getElem_cons_succ,List.getElem_cons_zero,Act.put,List.setIfInBounds_toArray,List.set_cons_zero,List.set_cons_succ]
 refine wpAny_take (i:=14) (v:= .slice Bh (n' - q) (c' - q)) rfl (by kernel_rfl) (by kernel_rfl) (by kernel_rfl) (fun _ _ _ h=>h) (Or.inl ⟨by rfl,fun w=>by go_simp⟩) ?_
 simp only[List.getElem_toArray,List.getElem_cons_succ,List.getElem_cons_zero,Act.put,List.setIfInBounds_toArray,List.set_cons_zero,List.set_cons_succ]
 refine wpAny_ready (rs:=[7,15]) (by kernel_rfl) (by simp) ?_
 refine AllReady.cons rfl (fun K hK=>?_) ?_
 ·go_simp
  refine hK _ _ ?_
  clear hK K
  refine wpAny_ready (rs:=[8,15]) (by kernel_rfl) (by simp) ?_
  refine AllReady.cons rfl (fun K hK=>?_) ?_
  ·go_simp
   have kU:Below wb.heap.size wb (wb.alloc (Obj.cells #[Value.slice (some ad) q c,Value.slice (some (ad.add q)) (n - q) (c - q)] 23)).drew:=((Below.refl _ wb).alloc zv0 _).drew
   have lit1:=(Lit.new wb 23 (.slice (some ad) q c) (.slice (some (ad.add q)) (n - q) (c - q))).drew
   refine(zdi (x:=Num.mk (some ad) q c N0) (y:=Num.mk (some (ad.add q)) (n - q) (c - q) N1) xa0 xa1 (hBb.trans (kU.mono hBb.size)) lit1).mono ?_
   rintro e w1 ⟨As,cs,rfl,s1,s2,s3,s4⟩
   dsimp only at s1 s3
   have k1:Below wb.heap.size wb w1:=kU.trans (s4.mono kU.size)
   replace s3:=s3.from kU.size
   clear s4 lit1 kU
   refine hK _ _ ?_
   clear hK K
   refine wpAny_ready (rs:=[15]) (by kernel_rfl) (by simp) ?_
   refine AllReady.cons rfl (fun K hK=>?_) ?_
   ·go_simp
    refine hK _ _ ?_
    clear hK K
    refine wpAny_ready (rs:=[16]) (by kernel_rfl) (by simp) ?_
    refine AllReady.cons rfl (fun K hK=>?_) ?_
    ·go_simp
     have lit2:=Lit.new w1 23 (.slice (some ad') q c') (.slice Bh (n' - q) (c' - q))
     replace s3:=(s3.keep ((Below.refl w1.heap.size w1).alloc zv0 (Obj.cells #[Value.slice (some ad') q c',Value.slice Bh (n' - q) (c' - q)] 23))).more (hi':=(w1.alloc (Obj.cells #[Value.slice (some ad') q c',Value.slice Bh (n' - q) (c' - q)] 23)).heap.size) (by simp)
     replace k1:=k1.alloc k1.size (Obj.cells #[Value.slice (some ad') q c',Value.slice Bh (n' - q) (c' - q)] 23)
     generalize hV:w1.alloc (Obj.cells #[Value.slice (some ad') q c',Value.slice Bh (n' - q) (c' - q)] 23)=V at*
     refine(zdi (x:=Num.mk (some ad') q c' M0) (y:=Num.mk Bh (n' - q) (c' - q) M1) xb0 xb1 (hBb.trans (k1.mono hBb.size)) lit2).mono ?_
     rintro e w2 ⟨At,ct,rfl,t1,t2,t3,t4⟩
     dsimp only at t1 t3
     have k2:Below wb.heap.size wb w2:=k1.trans (t4.mono k1.size)
     replace s3:=s3.keep t4
     replace s3:=s3.more t4.size
     replace t3:=t3.from k1.size
     clear t4 lit2 k1 hV
     refine hK _ _ ?_
     clear hK K
     refine wpAny_ready (rs:=[17]) (by kernel_rfl) (by simp) ?_
     refine AllReady.cons rfl (fun K hK=>?_) ?_
     ·go_simp
      have EM:=zvY (HP w2 As At (lenL (N0+N1)) (lenL (M0+M1)) cs ct (N0+N1) (M0+M1) (zaI hbx (hBb.trans (k2.mono hBb.size)) hbx.lt) s3.rd t3.rd s1 (by simpa[maxLen]using s2) t1 (by simpa[maxLen]using t2) (by omega) (by omega) (by omega))
      clear s3 t3
      refine EM.out.mono ?_
      rintro e w3 ⟨Am,cm,rfl,m1,m2,m3,m4⟩
      have k3:Below wb.heap.size wb w3:=k2.trans (m4.mono k2.size)
      clear m4 k2 EM
      refine hK _ _ ?_
      clear hK K
      refine wpAny_take (i:=18) (v:=_) rfl (by kernel_rfl) (by kernel_rfl) (by kernel_rfl) (fun _ _ _ h=>h) (Or.inl ⟨by rfl,fun w=>BigFrame.run_assign (.tmp 49) rfl w⟩) ?_
      simp only[Act.eval,List.getElem_toArray,List.getElem_cons_succ,List.getElem_cons_zero,Act.put,List.setIfInBounds_toArray,List.set_cons_zero,List.set_cons_succ]
      refine wpAny_done (by kernel_rfl) ?_ _
      have rl:(Num.mk Al (lenL (N0*M0)) cl (N0*M0)).ok w3 w3.heap.size:=⟨(((HL2.out.rd.more hab).below k3).more k3.size),a1,a2,by show lenL (N0*M0)<=35184372087808;omega⟩
      have rh:(Num.mk Ah (lenL (N1*M1)) ch (N1*M1)).ok w3 w3.heap.size:=⟨((HH.out.rd.below k3).more k3.size),b1,b2,by show lenL (N1*M1)<=35184372087808;omega⟩
      have ES:=zvY (zdi rl rh ((Below.refl _ w3).alloc zv0 (Obj.cells #[Value.slice Al (lenL (N0*M0)) cl,Value.slice Ah (lenL (N1*M1)) ch] 23)) (Lit.new w3 23 (.slice Al (lenL (N0*M0)) cl) (.slice Ah (lenL (N1*M1)) ch)))
      go_wp2_with fail
      refine ES.out.mono ?_
      rintro e w4 ⟨Au,cu,rfl,u1,u2,u3,u4⟩
      try dsimp only at u1 u3
      have k4:Below w3.heap.size w3 w4:=((Below.refl _ w3).alloc zv0 _).trans (u4.mono (by simp))
      have ED:=zvY (zg5 w4 Am Au (lenL ((N0+N1)*(M0+M1))) (lenL (N0*M0+N1*M1)) cm cu ((N0+N1)*(M0+M1)) (N0*M0+N1*M1) ((m3.rd.below k4).more k4.size) u3.rd (by omega) (by omega) m1 m2 HLE.out)
      clear u3 u4 m3 ES
      go_wp2_with fail
      refine ED.out.mono ?_
      rintro e w5 ⟨Ad,cd,rfl,d1,d2,d3,d4⟩
      have k5:Below w3.heap.size w3 w5:=k4.trans (d4.mono k4.size)
      have hw5:Below w.heap.size w w5:=hBb.trans ((k3.trans (k5.mono k3.size)).mono hBb.size)
      obtain⟨w6,hmk,hF6,hb6,hs6⟩:=zb6 w5 (n+n') (by omega)
      rw[show(((n+n':Nat)):Int)=(n:Int)+(n':Int)from by omega]at hmk
      have HB6:=zvY (Buf.of_fr hF6)
      have hg6:w5.heap.size<w6.heap.size:=by omega
      have E1:=zvY (EA1.out w6 w5.heap.size HB6.out ((((rl.1.below k5).more k5.size).below hb6).rn zv0) hg6)
      have RD:=zvY ((d3.rd.below hb6).rn zv0)
      have RH:=zvY (((rh.1.below k5).more k5.size).below hb6 |>.rn zv0)
      have hw6:Below w.heap.size w w6:=hw5.trans (hb6.mono hw5.size)
      clear hF6 hs6 d3 d4 ED
      go_wp2_with fail
      refine E1.out.mono ?_
      rintro e w7 ⟨⟨v7,rfl⟩,hG7,hb7⟩
      have hg7:=zv3 hg6 hG7.size
      have E2:=zvY (EA2.out w7 w5.heap.size Ad cd hb7 (RD.out.grown hG7) hg7)
      clear hmk E1 hb7
      go_wp2_with fail
      refine E2.out.mono ?_
      rintro e w8 ⟨⟨v8,rfl⟩,hG8,hb8⟩
      have hg8:=zv3 hg7 hG8.size
      have E3:=zvY (EA3.out w8 w5.heap.size hb8 ((RH.out.grown hG7).grown hG8) hg8)
      clear E2 hb8
      go_wp2_with fail
      refine E3.out.mono ?_
      rintro e w9 ⟨⟨v9,rfl⟩,hG9,hb9⟩
      have hg9:=zv3 hg8 hG9.size
      have hF9:Fr w9 w.heap.size w9.heap.size (some ⟨w5.heap.size,0,none⟩) (n+n') (N*M):=hb9.fr hT.out hw5.size hg9
      have E4:=zvY (zcm w9 _ _ (n+n') (n+n') (N*M) hF9.rd zv0)
      have hw9:=zvY (hw6.trans ((zaP (hG7.trans (hG8.trans hG9)) (Nat.le_of_lt hg6)).mono hw5.size))
      clear E3 hb9
      go_wp2_with fail
      refine E4.out.mono ?_
      rintro e w' ⟨rfl,rfl⟩
      go_wp2
      go_ret
      exact zcT hF9 (by simp only[maxLen];omega) hw9.out
     exact AllReady.nil
    exact AllReady.nil
   exact AllReady.nil
  refine AllReady.cons rfl (fun K hK=>?_) ?_
  ·go_simp
   refine hK _ _ ?_
   clear hK K
   refine wpAny_ready (rs:=[8]) (by kernel_rfl) (by simp) ?_
   refine AllReady.cons rfl (fun K hK=>?_) ?_
   ·go_simp
    have kU:Below wb.heap.size wb ((wb.alloc (Obj.cells #[Value.slice (some ad) q c,Value.slice (some (ad.add q)) (n - q) (c - q)] 23)).alloc (Obj.cells #[Value.slice (some ad') q c',Value.slice Bh (n' - q) (c' - q)] 23)).drew:=(((Below.refl _ wb).alloc zv0 _).alloc (by simp) _).drew
    have lit1:=((Lit.new wb 23 (.slice (some ad) q c) (.slice (some (ad.add q)) (n - q) (c - q))).alloc (Obj.cells #[Value.slice (some ad') q c',Value.slice Bh (n' - q) (c' - q)] 23)).drew
    have lit2:=(Lit.new (wb.alloc (Obj.cells #[Value.slice (some ad) q c,Value.slice (some (ad.add q)) (n - q) (c - q)] 23)) 23 (.slice (some ad') q c') (.slice Bh (n' - q) (c' - q))).drew
    rw[World.size_alloc]at lit2
    refine(zdi (x:=Num.mk (some ad) q c N0) (y:=Num.mk (some (ad.add q)) (n - q) (c - q) N1) xa0 xa1 (hBb.trans (kU.mono hBb.size)) lit1).mono ?_
    rintro e w1 ⟨As,cs,rfl,s1,s2,s3,s4⟩
    dsimp only at s1 s3
    have k1:Below wb.heap.size wb w1:=kU.trans (s4.mono kU.size)
    replace lit2:=lit2.later s4
    replace s3:=s3.from kU.size
    clear s4 lit1 kU
    refine hK _ _ ?_
    clear hK K
    refine wpAny_ready (rs:=[16]) (by kernel_rfl) (by simp) ?_
    refine AllReady.cons rfl (fun K hK=>?_) ?_
    ·go_simp
     generalize hV:w1=V at*
     refine(zdi (x:=Num.mk (some ad') q c' M0) (y:=Num.mk Bh (n' - q) (c' - q) M1) xb0 xb1 (hBb.trans (k1.mono hBb.size)) lit2).mono ?_
     rintro e w2 ⟨At,ct,rfl,t1,t2,t3,t4⟩
     dsimp only at t1 t3
     have k2:Below wb.heap.size wb w2:=k1.trans (t4.mono k1.size)
     replace s3:=s3.keep t4
     replace s3:=s3.more t4.size
     replace t3:=t3.from k1.size
     clear t4 lit2 k1 hV
     refine hK _ _ ?_
     clear hK K
     refine wpAny_ready (rs:=[17]) (by kernel_rfl) (by simp) ?_
     refine AllReady.cons rfl (fun K hK=>?_) ?_
     ·go_simp
      have EM:=zvY (HP w2 As At (lenL (N0+N1)) (lenL (M0+M1)) cs ct (N0+N1) (M0+M1) (zaI hbx (hBb.trans (k2.mono hBb.size)) hbx.lt) s3.rd t3.rd s1 (by simpa[maxLen]using s2) t1 (by simpa[maxLen]using t2) (by omega) (by omega) (by omega))
      clear s3 t3
      refine EM.out.mono ?_
      rintro e w3 ⟨Am,cm,rfl,m1,m2,m3,m4⟩
      have k3:Below wb.heap.size wb w3:=k2.trans (m4.mono k2.size)
      clear m4 k2 EM
      refine hK _ _ ?_
      clear hK K
      refine wpAny_take (i:=18) (v:=_) rfl (by kernel_rfl) (by kernel_rfl) (by kernel_rfl) (fun _ _ _ h=>h) (Or.inl ⟨by rfl,fun w=>BigFrame.run_assign (.tmp 49) rfl w⟩) ?_
      simp only[Act.eval,List.getElem_toArray,List.getElem_cons_succ,List.getElem_cons_zero,Act.put,List.setIfInBounds_toArray,List.set_cons_zero,List.set_cons_succ]
      refine wpAny_done (by kernel_rfl) ?_ _
      have rl:(Num.mk Al (lenL (N0*M0)) cl (N0*M0)).ok w3 w3.heap.size:=⟨(((HL2.out.rd.more hab).below k3).more k3.size),a1,a2,by show lenL (N0*M0)<=35184372087808;omega⟩
      have rh:(Num.mk Ah (lenL (N1*M1)) ch (N1*M1)).ok w3 w3.heap.size:=⟨((HH.out.rd.below k3).more k3.size),b1,b2,by show lenL (N1*M1)<=35184372087808;omega⟩
      have ES:=zvY (zdi rl rh ((Below.refl _ w3).alloc zv0 (Obj.cells #[Value.slice Al (lenL (N0*M0)) cl,Value.slice Ah (lenL (N1*M1)) ch] 23)) (Lit.new w3 23 (.slice Al (lenL (N0*M0)) cl) (.slice Ah (lenL (N1*M1)) ch)))
      go_wp2_with fail
      refine ES.out.mono ?_
      rintro e w4 ⟨Au,cu,rfl,u1,u2,u3,u4⟩
      try dsimp only at u1 u3
      have k4:Below w3.heap.size w3 w4:=((Below.refl _ w3).alloc zv0 _).trans (u4.mono (by simp))
      have ED:=zvY (zg5 w4 Am Au (lenL ((N0+N1)*(M0+M1))) (lenL (N0*M0+N1*M1)) cm cu ((N0+N1)*(M0+M1)) (N0*M0+N1*M1) ((m3.rd.below k4).more k4.size) u3.rd (by omega) (by omega) m1 m2 HLE.out)
      clear u3 u4 m3 ES
      go_wp2_with fail
      refine ED.out.mono ?_
      rintro e w5 ⟨Ad,cd,rfl,d1,d2,d3,d4⟩
      have k5:Below w3.heap.size w3 w5:=k4.trans (d4.mono k4.size)
      have hw5:Below w.heap.size w w5:=hBb.trans ((k3.trans (k5.mono k3.size)).mono hBb.size)
      obtain⟨w6,hmk,hF6,hb6,hs6⟩:=zb6 w5 (n+n') (by omega)
      rw[show(((n+n':Nat)):Int)=(n:Int)+(n':Int)from by omega]at hmk
      have HB6:=zvY (Buf.of_fr hF6)
      have hg6:w5.heap.size<w6.heap.size:=by omega
      have E1:=zvY (EA1.out w6 w5.heap.size HB6.out ((((rl.1.below k5).more k5.size).below hb6).rn zv0) hg6)
      have RD:=zvY ((d3.rd.below hb6).rn zv0)
      have RH:=zvY (((rh.1.below k5).more k5.size).below hb6 |>.rn zv0)
      have hw6:Below w.heap.size w w6:=hw5.trans (hb6.mono hw5.size)
      clear hF6 hs6 d3 d4 ED
      go_wp2_with fail
      refine E1.out.mono ?_
      rintro e w7 ⟨⟨v7,rfl⟩,hG7,hb7⟩
      have hg7:=zv3 hg6 hG7.size
      have E2:=zvY (EA2.out w7 w5.heap.size Ad cd hb7 (RD.out.grown hG7) hg7)
      clear hmk E1 hb7
      go_wp2_with fail
      refine E2.out.mono ?_
      rintro e w8 ⟨⟨v8,rfl⟩,hG8,hb8⟩
      have hg8:=zv3 hg7 hG8.size
      have E3:=zvY (EA3.out w8 w5.heap.size hb8 ((RH.out.grown hG7).grown hG8) hg8)
      clear E2 hb8
      go_wp2_with fail
      refine E3.out.mono ?_
      rintro e w9 ⟨⟨v9,rfl⟩,hG9,hb9⟩
      have hg9:=zv3 hg8 hG9.size
      have hF9:Fr w9 w.heap.size w9.heap.size (some ⟨w5.heap.size,0,none⟩) (n+n') (N*M):=hb9.fr hT.out hw5.size hg9
      have E4:=zvY (zcm w9 _ _ (n+n') (n+n') (N*M) hF9.rd zv0)
      have hw9:=zvY (hw6.trans ((zaP (hG7.trans (hG8.trans hG9)) (Nat.le_of_lt hg6)).mono hw5.size))
      clear E3 hb9
      go_wp2_with fail
      refine E4.out.mono ?_
      rintro e w' ⟨rfl,rfl⟩
      go_wp2
      go_ret
      exact zcT hF9 (by simp only[maxLen];omega) hw9.out
     exact AllReady.nil
    exact AllReady.nil
   exact AllReady.nil
  exact AllReady.nil
 refine AllReady.cons rfl (fun K hK=>?_) ?_
 ·go_simp
  refine hK _ _ ?_
  clear hK K
  refine wpAny_ready (rs:=[7]) (by kernel_rfl) (by simp) ?_
  refine AllReady.cons rfl (fun K hK=>?_) ?_
  ·go_simp
   refine hK _ _ ?_
   clear hK K
   refine wpAny_ready (rs:=[8]) (by kernel_rfl) (by simp) ?_
   refine AllReady.cons rfl (fun K hK=>?_) ?_
   ·go_simp
    have kU:Below wb.heap.size wb ((wb.alloc (Obj.cells #[Value.slice (some ad') q c',Value.slice Bh (n' - q) (c' - q)] 23)).alloc (Obj.cells #[Value.slice (some ad) q c,Value.slice (some (ad.add q)) (n - q) (c - q)] 23)).drew:=(((Below.refl _ wb).alloc zv0 _).alloc (by simp) _).drew
    have lit1:=(Lit.new (wb.alloc (Obj.cells #[Value.slice (some ad') q c',Value.slice Bh (n' - q) (c' - q)] 23)) 23 (.slice (some ad) q c) (.slice (some (ad.add q)) (n - q) (c - q))).drew
    rw[World.size_alloc]at lit1
    have lit2:=((Lit.new wb 23 (.slice (some ad') q c') (.slice Bh (n' - q) (c' - q))).alloc (Obj.cells #[Value.slice (some ad) q c,Value.slice (some (ad.add q)) (n - q) (c - q)] 23)).drew
    refine(zdi (x:=Num.mk (some ad) q c N0) (y:=Num.mk (some (ad.add q)) (n - q) (c - q) N1) xa0 xa1 (hBb.trans (kU.mono hBb.size)) lit1).mono ?_
    rintro e w1 ⟨As,cs,rfl,s1,s2,s3,s4⟩
    dsimp only at s1 s3
    have k1:Below wb.heap.size wb w1:=kU.trans (s4.mono kU.size)
    replace lit2:=lit2.later s4
    replace s3:=s3.from kU.size
    clear s4 lit1 kU
    refine hK _ _ ?_
    clear hK K
    refine wpAny_ready (rs:=[16]) (by kernel_rfl) (by simp) ?_
    refine AllReady.cons rfl (fun K hK=>?_) ?_
    ·go_simp
     generalize hV:w1=V at*
     refine(zdi (x:=Num.mk (some ad') q c' M0) (y:=Num.mk Bh (n' - q) (c' - q) M1) xb0 xb1 (hBb.trans (k1.mono hBb.size)) lit2).mono ?_
     rintro e w2 ⟨At,ct,rfl,t1,t2,t3,t4⟩
     dsimp only at t1 t3
     have k2:Below wb.heap.size wb w2:=k1.trans (t4.mono k1.size)
     replace s3:=s3.keep t4
     replace s3:=s3.more t4.size
     replace t3:=t3.from k1.size
     clear t4 lit2 k1 hV
     refine hK _ _ ?_
     clear hK K
     refine wpAny_ready (rs:=[17]) (by kernel_rfl) (by simp) ?_
     refine AllReady.cons rfl (fun K hK=>?_) ?_
     ·go_simp
      have EM:=zvY (HP w2 As At (lenL (N0+N1)) (lenL (M0+M1)) cs ct (N0+N1) (M0+M1) (zaI hbx (hBb.trans (k2.mono hBb.size)) hbx.lt) s3.rd t3.rd s1 (by simpa[maxLen]using s2) t1 (by simpa[maxLen]using t2) (by omega) (by omega) (by omega))
      clear s3 t3
      refine EM.out.mono ?_
      rintro e w3 ⟨Am,cm,rfl,m1,m2,m3,m4⟩
      have k3:Below wb.heap.size wb w3:=k2.trans (m4.mono k2.size)
      clear m4 k2 EM
      refine hK _ _ ?_
      clear hK K
      refine wpAny_take (i:=18) (v:=_) rfl (by kernel_rfl) (by kernel_rfl) (by kernel_rfl) (fun _ _ _ h=>h) (Or.inl ⟨by rfl,fun w=>BigFrame.run_assign (.tmp 49) rfl w⟩) ?_
      simp only[Act.eval,List.getElem_toArray,List.getElem_cons_succ,List.getElem_cons_zero,Act.put,List.setIfInBounds_toArray,List.set_cons_zero,List.set_cons_succ]
      refine wpAny_done (by kernel_rfl) ?_ _
      have rl:(Num.mk Al (lenL (N0*M0)) cl (N0*M0)).ok w3 w3.heap.size:=⟨(((HL2.out.rd.more hab).below k3).more k3.size),a1,a2,by show lenL (N0*M0)<=35184372087808;omega⟩
      have rh:(Num.mk Ah (lenL (N1*M1)) ch (N1*M1)).ok w3 w3.heap.size:=⟨((HH.out.rd.below k3).more k3.size),b1,b2,by show lenL (N1*M1)<=35184372087808;omega⟩
      have ES:=zvY (zdi rl rh ((Below.refl _ w3).alloc zv0 (Obj.cells #[Value.slice Al (lenL (N0*M0)) cl,Value.slice Ah (lenL (N1*M1)) ch] 23)) (Lit.new w3 23 (.slice Al (lenL (N0*M0)) cl) (.slice Ah (lenL (N1*M1)) ch)))
      go_wp2_with fail
      refine ES.out.mono ?_
      rintro e w4 ⟨Au,cu,rfl,u1,u2,u3,u4⟩
      try dsimp only at u1 u3
      have k4:Below w3.heap.size w3 w4:=((Below.refl _ w3).alloc zv0 _).trans (u4.mono (by simp))
      have ED:=zvY (zg5 w4 Am Au (lenL ((N0+N1)*(M0+M1))) (lenL (N0*M0+N1*M1)) cm cu ((N0+N1)*(M0+M1)) (N0*M0+N1*M1) ((m3.rd.below k4).more k4.size) u3.rd (by omega) (by omega) m1 m2 HLE.out)
      clear u3 u4 m3 ES
      go_wp2_with fail
      refine ED.out.mono ?_
      rintro e w5 ⟨Ad,cd,rfl,d1,d2,d3,d4⟩
      have k5:Below w3.heap.size w3 w5:=k4.trans (d4.mono k4.size)
      have hw5:Below w.heap.size w w5:=hBb.trans ((k3.trans (k5.mono k3.size)).mono hBb.size)
      obtain⟨w6,hmk,hF6,hb6,hs6⟩:=zb6 w5 (n+n') (by omega)
      rw[show(((n+n':Nat)):Int)=(n:Int)+(n':Int)from by omega]at hmk
      have HB6:=zvY (Buf.of_fr hF6)
      have hg6:w5.heap.size<w6.heap.size:=by omega
      have E1:=zvY (EA1.out w6 w5.heap.size HB6.out ((((rl.1.below k5).more k5.size).below hb6).rn zv0) hg6)
      have RD:=zvY ((d3.rd.below hb6).rn zv0)
      have RH:=zvY (((rh.1.below k5).more k5.size).below hb6 |>.rn zv0)
      have hw6:Below w.heap.size w w6:=hw5.trans (hb6.mono hw5.size)
      clear hF6 hs6 d3 d4 ED
      go_wp2_with fail
      refine E1.out.mono ?_
      rintro e w7 ⟨⟨v7,rfl⟩,hG7,hb7⟩
      have hg7:=zv3 hg6 hG7.size
      have E2:=zvY (EA2.out w7 w5.heap.size Ad cd hb7 (RD.out.grown hG7) hg7)
      clear hmk E1 hb7
      go_wp2_with fail
      refine E2.out.mono ?_
      rintro e w8 ⟨⟨v8,rfl⟩,hG8,hb8⟩
      have hg8:=zv3 hg7 hG8.size
      have E3:=zvY (EA3.out w8 w5.heap.size hb8 ((RH.out.grown hG7).grown hG8) hg8)
      clear E2 hb8
      go_wp2_with fail
      refine E3.out.mono ?_
      rintro e w9 ⟨⟨v9,rfl⟩,hG9,hb9⟩
      have hg9:=zv3 hg8 hG9.size
      have hF9:Fr w9 w.heap.size w9.heap.size (some ⟨w5.heap.size,0,none⟩) (n+n') (N*M):=hb9.fr hT.out hw5.size hg9
      have E4:=zvY (zcm w9 _ _ (n+n') (n+n') (N*M) hF9.rd zv0)
      have hw9:=zvY (hw6.trans ((zaP (hG7.trans (hG8.trans hG9)) (Nat.le_of_lt hg6)).mono hw5.size))
      clear E3 hb9
      go_wp2_with fail
      refine E4.out.mono ?_
      rintro e w' ⟨rfl,rfl⟩
      go_wp2
      go_ret
      exact zcT hF9 (by simp only[maxLen];omega) hw9.out
     exact AllReady.nil
    exact AllReady.nil
   exact AllReady.nil
  exact AllReady.nil
 exact AllReady.nil
end Go.Proofs.YtipckjmgdghkiaaGreatDoor
