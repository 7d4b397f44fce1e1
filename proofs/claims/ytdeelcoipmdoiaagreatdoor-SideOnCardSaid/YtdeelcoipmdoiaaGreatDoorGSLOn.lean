/- A part. -/
import Derived.Test.YtdeelcoipmdoiaaGreatDoorGSidG
set_option maxHeartbeats 4000000
set_option maxRecDepth 100000
namespace Go.Proofs.YtdeelcoipmdoiaaGreatDoor
open Go Go.RowKit
section
variable {a a' b b' p p' t:Rat}{z0 z1:Int}
theorem zqM:onR b b' a a' p p'=onR a a' b b' p p':=by
 unfold onR inRow
 rw[zpp,zg8 p p' b b',zg8 a a' p p',show -za5 p p' b b'* -za5 a a' p p'=za5 a a' p p'*za5 p p' b b' by grind]
 by_cases h:crs a a' b b' p p'=0
 ·rw[decide_eq_true h,decide_eq_true (zfn.2 h)]
 ·rw[decide_eq_false h,decide_eq_false (fun h2=>h (zfn.1 h2))]
theorem zlQ:(onR b b' a a' p p' != onR a a' b b' p p')=false:=by rw[zqM];simp
theorem zgk:onR a a' b b' p p'=true↔crs a a' b b' p p'=0∧0≤inRow a a' p p' b b':=by simp[onR]
theorem zsh:onR a a' b b' a a'=true:=zgk.2 ⟨by unfold crs;grind,by unfold inRow;rw[zeB];simp⟩
theorem ztf:onR a a' b b' b b'=true:=zgk.2 ⟨by unfold crs;grind,by unfold inRow;rw[zeB];simp⟩
theorem zqN (h:onR a a' b b' p p'=true):(!decide (zag (crs a a' b b' p p') 0=0))=false:=zpz (by rw[(zgk.1 h).1];exact zdk 0)
theorem zsi (h:0≤zag 0 t*zag t 1):0≤t∧t≤1:=by
 have h1:=zrp t
 rcases tri 0 t with h2|h2|h2 <;> rcases tri t 1 with h3|h3|h3 <;> rw[h2,h3]at h h1 <;> first|(exfalso;revert h;decide)|(exfalso;omega)|exact⟨zlH.1 (by omega),zlH.1 (by omega)⟩
theorem zsj (h:onR a a' b b' p p'=true):decide (zag (absR (a - p)+absR (a' - p')+(absR (p - b)+absR (p' - b'))) (absR (a - b)+absR (a' - b'))=0)=true:=by
 obtain⟨h1,h2⟩:=zgk.1 h
 refine decide_eq_true (zcg.2 ?_)
 by_cases hab:a=b∧a'=b'
 ·obtain⟨rfl,rfl⟩:=hab
  rw[znh]at h2
  have h3:za5 a a' p p'=0:=by
   have h4:=zdS a a' p p'
   rcases(by omega:za5 a a' p p'= -1∨za5 a a' p p'=0∨za5 a a' p p'=1)with h5|h5|h5 <;> rw[h5]at h2 <;> first|exact h5|(exfalso;revert h2;decide)
  obtain⟨rfl,rfl⟩:=zej.1 h3
  rw[show a - a=0 by grind,show a' - a'=0 by grind]
  decide+kernel
 ·obtain⟨t,rfl,rfl⟩:=zso h1 hab
  rw[ziP hab]at h2
  obtain⟨h3,h4⟩:=zsi h2
  have e1:=zka h3 h4 a b
  have e2:=zka h3 h4 a' b'
  rw[zc3 a,zc3 a',zc3 (a+_) b,zc3 (a'+_) b',zc3 a b,zc3 a' b']
  grind
def inB (t:Rat):Bool:=decide (0≤zag t 0)&&decide (zag t ((1:Int):Rat)≤0)
def zf7 (t:Rat):Bool:=decide (0<zag t 0)&&decide (zag t ((1:Int):Rat)<0)
theorem ztg (h:decide (0≤zag t 0)=true):decide (zag t ((1:Int):Rat)≤0)=inB t:=by unfold inB;rw[h];rfl
theorem zth (h:decide (0≤zag t 0)=false):false=inB t:=by unfold inB;rw[h];rfl
theorem zsk (h:decide (0<zag t 0)=true):decide (zag t ((1:Int):Rat)<0)=zf7 t:=by unfold zf7;rw[h];rfl
theorem zsl (h:decide (0<zag t 0)=false):false=zf7 t:=by unfold zf7;rw[h];rfl
theorem zpm (h:zf7 t=true):inB t=true:=by
 simp only[zf7,inB,Bool.and_eq_true,decide_eq_true_eq]at*
 omega
theorem zfI (h:decide (za5 a a' b b'=0)=false): ¬(a=b∧a'=b'):=fun h2=>of_decide_eq_false h (zej.2 h2)
theorem ziN:crs a a' b b' (a+(b - a)*t) (a'+(b' - a')*t)=0:=by unfold crs;grind
theorem zez:decide (zag (crs a a' b b' (a+(b - a)*t) (a'+(b' - a')*t)) 0=0)=true:=decide_eq_true (by rw[ziN];exact zdk 0)
theorem zgS {u w:Int}(h0:u= -1∨u=0∨u=1)(h1:w= -1∨w=0∨w=1)(h: ¬(u≤0∧0≤w)):decide (0≤ -u*w)=(decide (0≤u)&&decide (w≤0))∧decide (0< -u*w)=(decide (0<u)&&decide (w<0)):=by
 rcases h0 with rfl|rfl|rfl <;> rcases h1 with rfl|rfl|rfl <;> first|(constructor <;> rfl)|(exfalso;revert h;decide)
theorem zlR (t:Rat): ¬(zag t 0≤0∧0≤zag t 1):=by
 have h:=zrp t
 rw[zc7 t 0]at h
 omega
theorem zk5 (hal:decide (za5 a a' b b'=0)=false):onR a a' b b' (a+(b - a)*t) (a'+(b' - a')*t)=inB t:=by
 unfold onR;rw[ziN,ziP (zfI hal),zc7 t 0,(zgS (tri t 0) (tri t 1) (zlR t)).1];rfl
theorem zeY (hal:decide (za5 a a' b b'=0)=false):zbF a a' b b' (a+(b - a)*t) (a'+(b' - a')*t)=zf7 t:=by
 unfold zbF;rw[ziN,ziP (zfI hal),zc7 t 0,(zgS (tri t 0) (tri t 1) (zlR t)).2];rfl
theorem zeg (hal:decide (za5 a a' b b'=0)=false):(za8 a a' b b' (a+(b - a)*t) (a'+(b' - a')*t)==decide (0<zag t ((1:Int):Rat)))=true:=by
 have e:za8 a a' b b' (a+(b - a)*t) (a'+(b' - a')*t)=decide (0<zag t 1):=by
  unfold za8;rw[ziN,zk7 (zfI hal),zc7 t 1,decide_eq_true rfl,Bool.true_and]
  exact decide_eq_decide.2 (by omega)
 rw[e]
 exact beq_self_eq_true _
theorem zgT (h:decide (za5 a a' b b'=0)=true):a=b∧a'=b':=zej.1 (of_decide_eq_true h)
theorem zeA (a t:Rat):a+(a - a)*t=a:=by grind
theorem zgU (h:decide (za5 a a' b b'=0)=true):onR a a' b b' (a+(b - a)*t) (a'+(b' - a')*t)=true:=by
 obtain⟨rfl,rfl⟩:=zgT h
 rw[zeA,zeA];exact zsh
theorem zdP (h:decide (za5 a a' b b'=0)=true):zbF a a' b b' (a+(b - a)*t) (a'+(b' - a')*t)=false:=by
 obtain⟨rfl,rfl⟩:=zgT h
 rw[zeA,zeA];unfold zbF inRow;rw[zeB];simp
theorem zda (h:decide (za5 a a' b b'=0)=true):za8 a a' b b' (a+(b - a)*t) (a'+(b' - a')*t)=false:=by
 obtain⟨rfl,rfl⟩:=zgT h
 rw[zeA,zeA];unfold za8 inRow;rw[zeB];simp
theorem zk6 {b:Bool}{x y:Num}(h:zcS [(b,x,y)]=false):x.n+y.n≤40:=by
 have:=(ziA h).2
 simpa[zjK]using this
theorem zpn (a b t:Rat):a+(b - a)*t - a=(b - a)*t:=by grind
end
theorem zsm (b0_:Bool)(x0_ y0_:Num)(d0_:Bool)(z0_ w0_:Num)(b1_:Bool)(x1_ y1_:Num)(d1_:Bool)(z1_ w1_:Num)(b2_:Bool)(x2_ y2_:Num)(d2_:Bool)(z2_ w2_:Num)(b3_:Bool)(x3_ y3_:Num){V:World}(T:TT V)(ox0:x0_.ok V V.heap.size)(oy0:y0_.ok V V.heap.size)(oz0:z0_.ok V V.heap.size)(ow0:w0_.ok V V.heap.size)(ox1:x1_.ok V V.heap.size)(oy1:y1_.ok V V.heap.size)(oz1:z1_.ok V V.heap.size)(ow1:w1_.ok V V.heap.size)(ox2:x2_.ok V V.heap.size)(oy2:y2_.ok V V.heap.size)(oz2:z2_.ok V V.heap.size)(ow2:w2_.ok V V.heap.size)(ox3:x3_.ok V V.heap.size)(oy3:y3_.ok V V.heap.size)(hG:zcn [(b0_,x0_,y0_,d0_,z0_,w0_),(b1_,x1_,y1_,d1_,z1_,w1_),(b2_,x2_,y2_,d2_,z2_,w2_)]=false)(hG7:zcS [(b3_,x3_,y3_)]=false):
  Calls Tryz.prog 5 #[(aP b0_ x0_ y0_ d0_ z0_ w0_),(aP b1_ x1_ y1_ d1_ z1_ w1_),(aP b2_ x2_ y2_ d2_ z2_ w2_),(aG b3_ x3_ y3_)] V (zam V (fun v _=>v= .bool true)):=by
 have hsz:=zpA hG
 have hkx0:x0_.n≤80:=by omega
 have hky0:y0_.n≤80:=by omega
 have hkz0:z0_.n≤80:=by omega
 have hkw0:w0_.n≤80:=by omega
 have hkx1:x1_.n≤80:=by omega
 have hky1:y1_.n≤80:=by omega
 have hkz1:z1_.n≤80:=by omega
 have hkw1:w1_.n≤80:=by omega
 have hkx2:x2_.n≤80:=by omega
 have hky2:y2_.n≤80:=by omega
 have hkz2:z2_.n≤80:=by omega
 have hkw2:w2_.n≤80:=by omega
 have hsz7:=zk6 hG7
 have hkx3:x3_.n≤40:=by omega
 have hky3:y3_.n≤40:=by omega
 obtain⟨q0,hqa0⟩:∃q,qOf b0_ x0_.N y0_.N=q:=⟨_,rfl⟩
 obtain⟨r0,hra0⟩:∃q,qOf d0_ z0_.N w0_.N=q:=⟨_,rfl⟩
 obtain⟨q1,hqa1⟩:∃q,qOf b1_ x1_.N y1_.N=q:=⟨_,rfl⟩
 obtain⟨r1,hra1⟩:∃q,qOf d1_ z1_.N w1_.N=q:=⟨_,rfl⟩
 obtain⟨q2,hqa2⟩:∃q,qOf b2_ x2_.N y2_.N=q:=⟨_,rfl⟩
 obtain⟨r2,hra2⟩:∃q,qOf d2_ z2_.N w2_.N=q:=⟨_,rfl⟩
 obtain⟨q3,hqa3⟩:∃q,qOf b3_ x3_.N y3_.N=q:=⟨_,rfl⟩
 have m0:=smq hqa0 ox0 oy0
 have m0b:=smq hra0 oz0 ow0
 have m1:=smq hqa1 ox1 oy1
 have m1b:=smq hra1 oz1 ow1
 have m2:=smq hqa2 ox2 oy2
 have m2b:=smq hra2 oz2 ow2
 have m3:=smq hqa3 ox3 oy3
 have hP0:∀ {V':World},Below V.heap.size V V'→P1 80 q0 r0 ((aP b0_ x0_ y0_ d0_ z0_ w0_)) V':=fun hb=>⟨b0_,x0_,y0_,d0_,z0_,w0_,rfl,hqa0,hra0,⟨hkx0,hky0⟩,⟨hkz0,hkw0⟩,⟨ox0.later hb,oy0.later hb⟩,oz0.later hb,ow0.later hb⟩
 have hP1:∀ {V':World},Below V.heap.size V V'→P1 80 q1 r1 ((aP b1_ x1_ y1_ d1_ z1_ w1_)) V':=fun hb=>⟨b1_,x1_,y1_,d1_,z1_,w1_,rfl,hqa1,hra1,⟨hkx1,hky1⟩,⟨hkz1,hkw1⟩,⟨ox1.later hb,oy1.later hb⟩,oz1.later hb,ow1.later hb⟩
 have hP2:∀ {V':World},Below V.heap.size V V'→P1 80 q2 r2 ((aP b2_ x2_ y2_ d2_ z2_ w2_)) V':=fun hb=>⟨b2_,x2_,y2_,d2_,z2_,w2_,rfl,hqa2,hra2,⟨hkx2,hky2⟩,⟨hkz2,hkw2⟩,⟨ox2.later hb,oy2.later hb⟩,oz2.later hb,ow2.later hb⟩
 have hP3:∀ {V':World},Below V.heap.size V V'→Q1 40 q3 ((aG b3_ x3_ y3_)) V':=fun hb=>⟨b3_,x3_,y3_,rfl,hqa3,hkx3,hky3,ox3.later hb,oy3.later hb⟩
 have d01:Sm 250 (q1 - q0):=(m1.sub m0).mono (by omega)
 have d01b:Sm 250 (r1 - r0):=(m1b.sub m0b).mono (by omega)
 have d02:Sm 250 (q2 - q0):=(m2.sub m0).mono (by omega)
 have d02b:Sm 250 (r2 - r0):=(m2b.sub m0b).mono (by omega)
 have d10:Sm 250 (q0 - q1):=(m0.sub m1).mono (by omega)
 have d10b:Sm 250 (r0 - r1):=(m0b.sub m1b).mono (by omega)
 have d12:Sm 250 (q2 - q1):=(m2.sub m1).mono (by omega)
 have d12b:Sm 250 (r2 - r1):=(m2b.sub m1b).mono (by omega)
 have d20:Sm 250 (q0 - q2):=(m0.sub m2).mono (by omega)
 have d20b:Sm 250 (r0 - r2):=(m0b.sub m2b).mono (by omega)
 have d21:Sm 250 (q1 - q2):=(m1.sub m2).mono (by omega)
 have d21b:Sm 250 (r1 - r2):=(m1b.sub m2b).mono (by omega)
 have d00:Sm 250 (q0 - q0):=(m0.sub m0).mono (by omega)
 have d00b:Sm 250 (r0 - r0):=(m0b.sub m0b).mono (by omega)
 have t1:Sm 250 (q0+(q1 - q0)*q3 - q0):=by rw[zpn];exact((m1.sub m0).mul m3).mono (by omega)
 have t1b:Sm 250 (r0+(r1 - r0)*q3 - r0):=by rw[zpn];exact((m1b.sub m0b).mul m3).mono (by omega)
 have u1:Sm 349 (q1 - q0):=d01.mono (by decide)
 have u1b:Sm 349 (r1 - r0):=d01b.mono (by decide)
 have u2:Sm 349 ((q1 - q0)*q3):=((m1.sub m0).mul m3).mono (by omega)
 have u2b:Sm 349 ((r1 - r0)*q3):=((m1b.sub m0b).mul m3).mono (by omega)
 have u3:Sm 349 (q0+(q1 - q0)*q3):=(m0.add ((m1.sub m0).mul m3)).mono (by omega)
 have u3b:Sm 349 (r0+(r1 - r0)*q3):=(m0b.add ((m1b.sub m0b).mul m3)).mono (by omega)
 have v02:Sm 349 (q0 - q2):=d20.mono (by decide)
 have v02b:Sm 349 (r0 - r2):=d20b.mono (by decide)
 have f02:Sm 349 (absR (q0 - q2)+absR (r0 - r2)):=((m0.sub m2).absR.add (m0b.sub m2b).absR).mono (by omega)
 have v21:Sm 349 (q2 - q1):=d12.mono (by decide)
 have v21b:Sm 349 (r2 - r1):=d12b.mono (by decide)
 have f21:Sm 349 (absR (q2 - q1)+absR (r2 - r1)):=((m2.sub m1).absR.add (m2b.sub m1b).absR).mono (by omega)
 have v01:Sm 349 (q0 - q1):=d10.mono (by decide)
 have v01b:Sm 349 (r0 - r1):=d10b.mono (by decide)
 have f01:Sm 349 (absR (q0 - q1)+absR (r0 - r1)):=((m0.sub m1).absR.add (m0b.sub m1b).absR).mono (by omega)
 have f9:Sm 349 (absR (q0 - q2)+absR (r0 - r2)+(absR (q2 - q1)+absR (r2 - r1))):=(((m0.sub m2).absR.add (m0b.sub m2b).absR).add ((m2.sub m1).absR.add (m2b.sub m1b).absR)).mono (by omega)
 refine zaw (e:=[x3_,y3_,x2_,y2_,z2_,w2_,x1_,y1_,z1_,w1_,x0_,y0_,z0_,w0_]) Tryz.func5 rfl Tryz.ntmps5 (ztJ rfl) [(0,(aP b0_ x0_ y0_ d0_ z0_ w0_)),(1,(aP b1_ x1_ y1_ d1_ z1_ w1_)),(2,(aP b2_ x2_ y2_ d2_ z2_ w2_)),(3,(aG b3_ x3_ y3_))] rfl (zaa ox3 (zaa oy3 (zaa ox2 (zaa oy2 (zaa oz2 (zaa ow2 (zaa ox1 (zaa oy1 (zaa oz1 (zaa ow1 (zaa ox0 (zaa oy0 (zaa oz0 (zaa ow0 zaN)))))))))))))) (fun a S=>?_)
 refine wp_seq_k fun K1 hK1=>?_
 refine zac ?_
 refine ti S (cs:=(lP b0_ x0_ y0_ d0_ z0_ w0_)) (zas rfl (S.at 0 rfl) rfl) (fun g1=>[⟨g1,29,(lP b0_ x0_ y0_ d0_ z0_ w0_)⟩]) fun g1 a V1 hgg1 S=>?_
 refine ti S (cs:=(lP b1_ x1_ y1_ d1_ z1_ w1_)) (zas rfl (S.at 2 rfl) rfl) (fun g2=>[⟨g1,29,(lP b0_ x0_ y0_ d0_ z0_ w0_)⟩,⟨g2,29,(lP b1_ x1_ y1_ d1_ z1_ w1_)⟩]) fun g2 a V2 hgg2 S=>?_
 refine ti S (cs:=(lP b2_ x2_ y2_ d2_ z2_ w2_)) (zas rfl (S.at 4 rfl) rfl) (fun g3=>[⟨g1,29,(lP b0_ x0_ y0_ d0_ z0_ w0_)⟩,⟨g2,29,(lP b1_ x1_ y1_ d1_ z1_ w1_)⟩,⟨g3,29,(lP b2_ x2_ y2_ d2_ z2_ w2_)⟩]) fun g3 a V3 hgg3 S=>?_
 refine ti S (cs:=(aL b3_ x3_ y3_)) (zas rfl (S.at 6 rfl) rfl) (fun g4=>[⟨g1,29,(lP b0_ x0_ y0_ d0_ z0_ w0_)⟩,⟨g2,29,(lP b1_ x1_ y1_ d1_ z1_ w1_)⟩,⟨g3,29,(lP b2_ x2_ y2_ d2_ z2_ w2_)⟩,⟨g4,27,(aL b3_ x3_ y3_)⟩]) fun g4 a V4 hgg4 S=>?_
 refine tv S (zaB rfl) fun a S=>?_
 refine hK1 _ _ ?_
 refine wp_seq_k fun K2 hK2=>?_
 refine wp_seq_k fun K3 hK3=>?_
 refine zac ?_
 refine tv S (zau rfl (S.at 4 rfl) (S.bx 0 rfl) rfl) fun a S=>?_
 refine tv S (zau rfl (S.at 4 rfl) (S.bx 1 rfl) rfl) fun a S=>?_
 refine tv S (zau rfl (S.at 4 rfl) (S.bx 2 rfl) rfl) fun a S=>?_
 refine ty S (F:=GP ([(b0_,x0_,y0_,d0_,z0_,w0_),(b1_,x1_,y1_,d1_,z1_,w1_),(b2_,x2_,y2_,d2_,z2_,w2_)])) (zfr rfl (S.at 2 rfl) (S.at 1 rfl) (S.at 0 rfl) (S.num 10 rfl) (S.num 11 rfl) (S.num 12 rfl) (S.num 13 rfl) (S.num 6 rfl) (S.num 7 rfl) (S.num 8 rfl) (S.num 9 rfl) (S.num 2 rfl) (S.num 3 rfl) (S.num 4 rfl) (S.num 5 rfl)) fun v a V5 hF hb S=>?_
 obtain⟨ov1,hov1⟩:∃z,z=v:=⟨_,rfl⟩
 rw[←hov1]at hF S
 have rov1:=hF
 refine tc S (F:=(fun v _=>v= .bool false)) (rc1 Tryz.func7 (S.at 0 rfl)) (zgX rov1 hG) fun v a V6 hF hb S=>?_
 replace rov1:=rov1.keep hb
 subst hF
 refine tv S (zab rfl (S.at 0 rfl)) fun a S=>?_
 refine tvg S (S.at 0 rfl) (zcU rfl (S.at 7 rfl) (S.bx 3 rfl) rfl) fun a S=>?_
 refine tyg S (S.at 1 rfl) (F:=GL ([(b3_,x3_,y3_)])) (zjR rfl (S.at 0 rfl) (S.num 0 rfl) (S.num 1 rfl)) fun v a V7 hF hb S=>?_
 replace rov1:=rov1.keep hb
 obtain⟨ov2,hov2⟩:∃z,z=v:=⟨_,rfl⟩
 rw[←hov2]at hF S
 have rov2:=hF
 refine tcg S (S.at 2 rfl) (F:=(fun v _=>v= .bool false)) (rc1 Tryz.func8 (S.at 0 rfl)) (zlL rov2 hG7) fun v a V8 hF hb S=>?_
 replace rov2:=rov2.keep hb
 replace rov1:=rov1.keep hb
 subst hF
 refine tv S (zan false rfl (S.at 3 rfl) (S.at 0 rfl)) fun a S=>?_
 refine hK3 _ _ ?_
 refine wp_cond_false (S.at 0 rfl) ?_
 refine wp_skip ?_
 refine hK2 _ _ ?_
 refine wp_seq_k fun K4 hK4=>?_
 have S:=S.keep [7,6,5,4] (ls':=[(7,pT g4 0),(6,pT g3 0),(5,pT g2 0),(4,pT g1 0)]) rfl
 refine zac ?_
 refine tv S (zau rfl (S.at 3 rfl) (S.bx 0 rfl) rfl) fun a S=>?_
 refine tv S (zau rfl (S.at 3 rfl) (S.bx 1 rfl) rfl) fun a S=>?_
 refine tv S (zau rfl (S.at 3 rfl) (S.bx 2 rfl) rfl) fun a S=>?_
 refine tc S (F:=(fun v _=>v= .bool (onR q0 r0 q1 r1 q2 r2))) (rc3 Tryz.func15 (S.at 2 rfl) (S.at 1 rfl) (S.at 0 rfl)) (zfo (T.keep S.below) (hP0 S.below) (hP1 S.below) (hP2 S.below) (by omega) (by omega) (by omega) (by assumption) (by assumption) (by assumption) (by assumption)) fun v a V9 hF hb S=>?_
 subst hF
 refine tv S (zak rfl (S.at 0 rfl)) fun a S=>?_
 refine hK4 _ _ ?_
 refine wp_seq_k fun K5 hK5=>?_
 have S:=S.keep [9,7,6,5,4] (ls':=[(9,.bool (onR q0 r0 q1 r1 q2 r2)),(7,pT g4 0),(6,pT g3 0),(5,pT g2 0),(4,pT g1 0)]) rfl
 refine via (P:=∀(a1:Act) (V10:World),Frm 148 [(7,pT g4 0),(5,pT g2 0),(4,pT g1 0)] [⟨g1,29,(lP b0_ x0_ y0_ d0_ z0_ w0_)⟩,⟨g2,29,(lP b1_ x1_ y1_ d1_ z1_ w1_)⟩,⟨g3,29,(lP b2_ x2_ y2_ d2_ z2_ w2_)⟩,⟨g4,27,(aL b3_ x3_ y3_)⟩] V [x3_,y3_,x2_,y2_,z2_,w2_,x1_,y1_,z1_,w1_,x0_,y0_,z0_,w0_] a1 V10→K5 a1 V10) ?_ fun hJ1=>?_
 ·intro a1 V10 S
  refine hK5 _ _ ?_
  refine wp_seq_k fun K6 hK6=>?_
  refine zac ?_
  refine tv S (zau rfl (S.at 2 rfl) (S.bx 0 rfl) rfl) fun a S=>?_
  refine tv S (zau rfl (S.at 2 rfl) (S.bx 1 rfl) rfl) fun a S=>?_
  refine tv S (zcU rfl (S.at 2 rfl) (S.bx 3 rfl) rfl) fun a S=>?_
  refine tc S (F:=PT 349 (q0+(q1 - q0)*q3) (r0+(r1 - r0)*q3)) (rc3 Tryz.func29 (S.at 2 rfl) (S.at 1 rfl) (S.at 0 rfl)) (ztF (((hP0 S.below)).to rfl rfl (by decide)) (((hP1 S.below)).to rfl rfl (by decide)) (((hP3 S.below)).to rfl (by decide)) (by assumption) (by assumption) (by assumption) (by assumption) (by assumption) (by assumption)) fun v a V11 hF hb S=>?_
  obtain⟨b1,x1,y1,b2,x2,y2,rfl,hq1,hq2,⟨hk1,hk2⟩,⟨hk3,hk4⟩,⟨ok1,ok2⟩,ok3,ok4⟩:=hF
  have S:=S.know ok1
  have S:=S.know ok2
  have S:=S.know ok3
  have S:=S.know ok4
  have hPq:=fun {V':World} (o1:x1.ok V' V'.heap.size) (o2:y1.ok V' V'.heap.size) (o3:x2.ok V' V'.heap.size) (o4:y2.ok V' V'.heap.size)=>(show P1 349 (q0+(q1 - q0)*q3) (r0+(r1 - r0)*q3) ((aP b1 x1 y1 b2 x2 y2)) V' from⟨b1,x1,y1,b2,x2,y2,rfl,hq1.q,hq2.q,⟨hk1,hk2⟩,⟨hk3,hk4⟩,⟨o1,o2⟩,o3,o4⟩)
  refine ti S (cs:=[.bool false,.slice none 0 0,.slice none 0 0,.bool false,.slice none 0 0,.slice none 0 0]) (zaz rfl (Tryz.zeroValue29 _) rfl) (fun g5=>[⟨g1,29,(lP b0_ x0_ y0_ d0_ z0_ w0_)⟩,⟨g2,29,(lP b1_ x1_ y1_ d1_ z1_ w1_)⟩,⟨g3,29,(lP b2_ x2_ y2_ d2_ z2_ w2_)⟩,⟨g4,27,(aL b3_ x3_ y3_)⟩,⟨g5,29,[.bool false,.slice none 0 0,.slice none 0 0,.bool false,.slice none 0 0,.slice none 0 0]⟩]) fun g5 a V12 hgg5 S=>?_
  refine zaA S (i:=4) (vs:=(lP b1 x1 y1 b2 x2 y2)) rfl (fun ht=>zav rfl (S.at 0 rfl) (S.at 1 rfl) zaY rfl (ztJ rfl) ht) (ztJ rfl) rfl rfl rfl (lb':=[⟨g1,29,(lP b0_ x0_ y0_ d0_ z0_ w0_)⟩,⟨g2,29,(lP b1_ x1_ y1_ d1_ z1_ w1_)⟩,⟨g3,29,(lP b2_ x2_ y2_ d2_ z2_ w2_)⟩,⟨g4,27,(aL b3_ x3_ y3_)⟩,⟨g5,29,(lP b1 x1 y1 b2 x2 y2)⟩]) rfl (fun V13 S=>?_)
  refine hK6 _ _ ?_
  refine wp_seq_k fun K7 hK7=>?_
  have S:=S.keep [10,7,5,4] (ls':=[(10,pT g5 0),(7,pT g4 0),(5,pT g2 0),(4,pT g1 0)]) rfl
  refine via (P:=∀(a2:Act) (V14:World),Frm 148 [(11,.bool (inB q3)),(10,pT g5 0),(7,pT g4 0),(5,pT g2 0),(4,pT g1 0)] [⟨g1,29,(lP b0_ x0_ y0_ d0_ z0_ w0_)⟩,⟨g2,29,(lP b1_ x1_ y1_ d1_ z1_ w1_)⟩,⟨g3,29,(lP b2_ x2_ y2_ d2_ z2_ w2_)⟩,⟨g4,27,(aL b3_ x3_ y3_)⟩,⟨g5,29,(lP b1 x1 y1 b2 x2 y2)⟩] V [y2,x2,y1,x1,x3_,y3_,x2_,y2_,z2_,w2_,x1_,y1_,z1_,w1_,x0_,y0_,z0_,w0_] a2 V14→K7 a2 V14) ?_ fun hJ2=>?_
  ·intro a2 V14 S
   refine hK7 _ _ ?_
   refine wp_seq_k fun K8 hK8=>?_
   refine zac ?_
   refine tv S (zau rfl (S.at 4 rfl) (S.bx 0 rfl) rfl) fun a S=>?_
   refine tv S (zau rfl (S.at 4 rfl) (S.bx 1 rfl) rfl) fun a S=>?_
   refine tc S (F:=(fun v _=>v= .bool (decide (za5 q0 r0 q1 r1=0)))) (rc2 Tryz.func33 (S.at 1 rfl) (S.at 0 rfl)) (zq7 (((hP0 S.below)).to rfl rfl (by decide)) (((hP1 S.below)).to rfl rfl (by decide))) fun v a V15 hF hb S=>?_
   subst hF
   refine tv S (zak rfl (S.at 0 rfl)) fun a S=>?_
   refine hK8 _ _ ?_
   refine wp_seq_k fun K9 hK9=>?_
   have S:=S.keep [12,11,10,7,5,4] (ls':=[(12,.bool (decide (za5 q0 r0 q1 r1=0))),(11,.bool (inB q3)),(10,pT g5 0),(7,pT g4 0),(5,pT g2 0),(4,pT g1 0)]) rfl
   refine via (P:=∀(a3:Act) (V16:World),Frm 148 [(13,.bool (zf7 q3)),(12,.bool (decide (za5 q0 r0 q1 r1=0))),(11,.bool (inB q3)),(10,pT g5 0),(7,pT g4 0),(5,pT g2 0),(4,pT g1 0)] [⟨g1,29,(lP b0_ x0_ y0_ d0_ z0_ w0_)⟩,⟨g2,29,(lP b1_ x1_ y1_ d1_ z1_ w1_)⟩,⟨g3,29,(lP b2_ x2_ y2_ d2_ z2_ w2_)⟩,⟨g4,27,(aL b3_ x3_ y3_)⟩,⟨g5,29,(lP b1 x1 y1 b2 x2 y2)⟩] V [y2,x2,y1,x1,x3_,y3_,x2_,y2_,z2_,w2_,x1_,y1_,z1_,w1_,x0_,y0_,z0_,w0_] a3 V16→K9 a3 V16) ?_ fun hJ3=>?_
   ·intro a3 V16 S
    refine hK9 _ _ ?_
    refine wp_seq_k fun K10 hK10=>?_
    rcases ztT (inB q3)with hin|hin
    ·skip
     rcases ztT (zf7 q3)with hinn|hinn
     ·skip
      rcases ztT (decide (za5 q0 r0 q1 r1=0))with hal|hal
      ·skip
       obtain⟨W1,hW1⟩:∃W,W=V16:=⟨_,rfl⟩
       rw[←hW1]at S ⊢
       have S0:=S
       refine fr 46 [102,103,104,105,106,107,108,109,110,111,112,113,114,115,116,117,118,119,120,121,122,123,124,125,126,127,128,129,130,131,132,133,134,135,136,137,138,139,140,141,142,143,144,145,146,147] [IsV ((aP b0_ x0_ y0_ d0_ z0_ w0_)),IsV ((aP b1_ x1_ y1_ d1_ z1_ w1_)),IsV ((aP b1 x1 y1 b2 x2 y2)),IsV (.bool true),IsV (.bool true),IsV (.bool true),IsV (undef),IsV (.bool true),IsV (.bool true),IsV (.bool true),IsV ((aP b0_ x0_ y0_ d0_ z0_ w0_)),IsV ((aP b1_ x1_ y1_ d1_ z1_ w1_)),IsV ((aP b1 x1 y1 b2 x2 y2)),IsV (.bool false),IsV (.bool true),IsV (.bool true),IsV (.bool true),IsV (.bool false),IsV (.bool false),IsV (.bool true),IsV (.bool true),IsV (.bool true),IsV ((aP b0_ x0_ y0_ d0_ z0_ w0_)),IsV ((aP b1_ x1_ y1_ d1_ z1_ w1_)),IsV ((aP b1 x1 y1 b2 x2 y2)),IsV (.int .i64 (zag (crs q0 r0 q1 r1 (q0+(q1 - q0)*q3) (r0+(r1 - r0)*q3)) 0)),IsV (.bool true),IsV (.bool true),IsV (.bool true),IsV ((aP b0_ x0_ y0_ d0_ z0_ w0_)),IsV ((aP b1_ x1_ y1_ d1_ z1_ w1_)),IsV ((aP b1 x1 y1 b2 x2 y2)),IsV (.bool false),IsV (.bool true),IsV (.bool false),IsV (.bool false),IsV (undef),IsV (undef),IsV (undef),IsV (undef),IsV (.bool false),IsV (.bool true),IsV (.bool true),IsV (.bool true),IsV (.bool true),IsV (.bool true)] S ?_ ?_
       ·refine sc (fun _ _ S _ _=>sv rfl (zau rfl (S.at 6 rfl) (S.bx 0 rfl) rfl)) ?_
        refine sc (fun _ _ S _ _=>sv rfl (zau rfl (S.at 5 rfl) (S.bx 1 rfl) rfl)) ?_
        refine sc (fun _ _ S _ _=>sv rfl (zau rfl (S.at 3 rfl) (S.bx 4 rfl) rfl)) ?_
        refine sc (fun _ _ S _ hd=>sl rfl (rc3 Tryz.func15 (hd.v 0 rfl rfl) (hd.v 1 rfl rfl) (hd.v 2 rfl rfl)) (zbn (zfo (T.keep S.below) (hP0 S.below) (hP1 S.below) (hPq (S.num 3 rfl) (S.num 2 rfl) (S.num 1 rfl) (S.num 0 rfl)) (by omega) (by omega) (by omega) (by assumption) (by assumption) (by assumption) (by assumption)) (fun _ _ h=>h.trans (congrArg Value.bool (show(onR q0 r0 q1 r1 (q0+(q1 - q0)*q3) (r0+(r1 - r0)*q3))=true from(zgU hal)))))) ?_
        refine sc (fun _ _ S _ _=>sv rfl (zao (c:=true) (zab rfl (S.at 2 rfl)) hin)) ?_
        refine sc (fun _ _ _ _ hd=>sv rfl (zab rfl (hd.v 4 rfl rfl))) ?_
        refine sc (fun _ _ _ _ hd=>sk rfl (hd.v 5 rfl rfl)) ?_
        refine sc (fun _ _ _ _ hd=>sv rfl (zan true rfl (hd.v 5 rfl rfl) rfl)) ?_
        refine sc (fun _ _ _ _ hd=>sv rfl (zao (c:=true) (zby rfl (hd.v 3 rfl rfl) (hd.v 7 rfl rfl)) rfl)) ?_
        refine sc (fun _ _ _ _ hd=>sv rfl (zab rfl (hd.v 8 rfl rfl))) ?_
        refine sc (fun _ _ S _ hd=>svg rfl (hd.v 9 rfl rfl) (zau rfl (S.at 6 rfl) (S.bx 0 rfl) rfl)) ?_
        refine sc (fun _ _ S _ hd=>svg rfl (hd.v 9 rfl rfl) (zau rfl (S.at 5 rfl) (S.bx 1 rfl) rfl)) ?_
        refine sc (fun _ _ S _ hd=>svg rfl (hd.v 9 rfl rfl) (zau rfl (S.at 3 rfl) (S.bx 4 rfl) rfl)) ?_
        refine sc (fun _ _ S _ hd=>slg rfl (hd.v 9 rfl rfl) (rc3 Tryz.func17 (hd.v 10 rfl rfl) (hd.v 11 rfl rfl) (hd.v 12 rfl rfl)) (zbn (zcR (T.keep S.below) (hP0 S.below) (hP1 S.below) (hPq (S.num 3 rfl) (S.num 2 rfl) (S.num 1 rfl) (S.num 0 rfl)) (by omega) (by omega) (by omega) (by assumption) (by assumption) (by assumption) (by assumption)) (fun _ _ h=>h.trans (congrArg Value.bool (show(zbF q0 r0 q1 r1 (q0+(q1 - q0)*q3) (r0+(r1 - r0)*q3))=false from(zdP hal)))))) ?_
        refine sc (fun _ _ S _ hd=>svg rfl (hd.v 9 rfl rfl) (zao (c:=true) (zab rfl (S.at 0 rfl)) hinn)) ?_
        refine sc (fun _ _ _ _ hd=>svg rfl (hd.v 9 rfl rfl) (zab rfl (hd.v 14 rfl rfl))) ?_
        refine sc (fun _ _ S _ hd=>svg rfl (hd.v 15 rfl rfl) (zao (c:=true) (zab rfl (S.at 1 rfl)) hal)) ?_
        refine sc (fun _ _ _ _ hd=>svg rfl (hd.v 15 rfl rfl) (zb8 (b:=true) rfl (hd.v 16 rfl rfl))) ?_
        refine sc (fun _ _ _ _ hd=>svg rfl (hd.v 9 rfl rfl) (zan true rfl (hd.v 15 rfl rfl) (hd.v 17 rfl rfl))) ?_
        refine sc (fun _ _ _ _ hd=>svg rfl (hd.v 9 rfl rfl) (zao (c:=true) (zby rfl (hd.v 13 rfl rfl) (hd.v 18 rfl rfl)) rfl)) ?_
        refine sc (fun _ _ _ _ hd=>sv rfl (zan true rfl (hd.v 9 rfl rfl) (hd.v 19 rfl rfl))) ?_
        refine sc (fun _ _ _ _ hd=>sv rfl (zab rfl (hd.v 20 rfl rfl))) ?_
        refine sc (fun _ _ S _ hd=>svg rfl (hd.v 21 rfl rfl) (zau rfl (S.at 6 rfl) (S.bx 0 rfl) rfl)) ?_
        refine sc (fun _ _ S _ hd=>svg rfl (hd.v 21 rfl rfl) (zau rfl (S.at 5 rfl) (S.bx 1 rfl) rfl)) ?_
        refine sc (fun _ _ S _ hd=>svg rfl (hd.v 21 rfl rfl) (zau rfl (S.at 3 rfl) (S.bx 4 rfl) rfl)) ?_
        refine sc (fun _ _ S _ hd=>slg rfl (hd.v 21 rfl rfl) (rc3 Tryz.func10 (hd.v 22 rfl rfl) (hd.v 23 rfl rfl) (hd.v 24 rfl rfl)) (zce (T.keep S.below) (hP0 S.below) (hP1 S.below) (hPq (S.num 3 rfl) (S.num 2 rfl) (S.num 1 rfl) (S.num 0 rfl)) (by omega) (by omega) (by omega) (by assumption) (by assumption) (by assumption) (by assumption))) ?_
        refine sc (fun _ _ _ _ hd=>svg rfl (hd.v 21 rfl rfl) (zao (c:=true) (zbr _ (by decide) rfl (hd.v 25 rfl rfl) rfl) zez)) ?_
        refine sc (fun _ _ _ _ hd=>sv rfl (zan true rfl (hd.v 21 rfl rfl) (hd.v 26 rfl rfl))) ?_
        refine sc (fun _ _ _ _ hd=>sv rfl (zab rfl (hd.v 27 rfl rfl))) ?_
        refine sc (fun _ _ S _ hd=>svg rfl (hd.v 28 rfl rfl) (zau rfl (S.at 6 rfl) (S.bx 0 rfl) rfl)) ?_
        refine sc (fun _ _ S _ hd=>svg rfl (hd.v 28 rfl rfl) (zau rfl (S.at 5 rfl) (S.bx 1 rfl) rfl)) ?_
        refine sc (fun _ _ S _ hd=>svg rfl (hd.v 28 rfl rfl) (zau rfl (S.at 3 rfl) (S.bx 4 rfl) rfl)) ?_
        refine sc (fun _ _ S _ hd=>slg rfl (hd.v 28 rfl rfl) (rc3 Tryz.func19 (hd.v 29 rfl rfl) (hd.v 30 rfl rfl) (hd.v 31 rfl rfl)) (zbn (zcm (T.keep S.below) (hP0 S.below) (hP1 S.below) (hPq (S.num 3 rfl) (S.num 2 rfl) (S.num 1 rfl) (S.num 0 rfl)) (by omega) (by omega) (by omega) (by assumption) (by assumption) (by assumption) (by assumption)) (fun _ _ h=>h.trans (congrArg Value.bool (show(za8 q0 r0 q1 r1 (q0+(q1 - q0)*q3) (r0+(r1 - r0)*q3))=false from(zda hal)))))) ?_
        refine sc (fun _ _ S _ hd=>svg rfl (hd.v 28 rfl rfl) (zao (c:=true) (zab rfl (S.at 1 rfl)) hal)) ?_
        refine sc (fun _ _ _ _ hd=>svg rfl (hd.v 28 rfl rfl) (zb8 (b:=true) rfl (hd.v 33 rfl rfl))) ?_
        refine sc (fun _ _ _ _ hd=>svg rfl (hd.v 28 rfl rfl) (zab rfl (hd.v 34 rfl rfl))) ?_
        refine sc (fun _ _ _ _ hd=>sk rfl (hd.v 35 rfl rfl)) ?_
        refine sc (fun _ _ _ _ hd=>sk rfl (hd.v 35 rfl rfl)) ?_
        refine sc (fun _ _ _ _ hd=>sk rfl (hd.v 35 rfl rfl)) ?_
        refine sc (fun _ _ _ _ hd=>sk rfl (hd.v 35 rfl rfl)) ?_
        refine sc (fun _ _ _ _ hd=>svg rfl (hd.v 28 rfl rfl) (zan false rfl (hd.v 35 rfl rfl) rfl)) ?_
        refine sc (fun _ _ _ _ hd=>svg rfl (hd.v 28 rfl rfl) (zao (c:=true) (zby rfl (hd.v 32 rfl rfl) (hd.v 40 rfl rfl)) rfl)) ?_
        refine sc (fun _ _ _ _ hd=>sv rfl (zan true rfl (hd.v 28 rfl rfl) (hd.v 41 rfl rfl))) ?_
        refine sc (fun _ _ _ _ hd=>sv rfl (zab rfl (hd.v 42 rfl rfl))) ?_
        refine sc (fun _ _ S _ hd=>slg rfl (hd.v 43 rfl rfl) (rc0 Tryz.func9) (zdm (T.keep S.below))) ?_
        refine sc (fun _ _ _ _ hd=>sv rfl (zan true rfl (hd.v 43 rfl rfl) (hd.v 44 rfl rfl))) ?_
        exact sn
       ·intro a4 V17 S hB hf
        have S:=S.add (hf.v 45 rfl rfl)
        clear hf S0
        show wpList _ _ _ [_] _ _
        refine tv S (zak rfl (S.at 0 rfl)) fun a S=>?_
        refine hK10 _ _ ?_
        refine wp_ret ?_
        exact zaD rfl S (S.at 0 rfl) ⟨_,rfl,rfl,S.below⟩
      ·skip
       obtain⟨W2,hW2⟩:∃W,W=V16:=⟨_,rfl⟩
       rw[←hW2]at S ⊢
       have S0:=S
       refine fr 46 [102,103,104,105,106,107,108,109,110,111,112,113,114,115,116,117,118,119,120,121,122,123,124,125,126,127,128,129,130,131,132,133,134,135,136,137,138,139,140,141,142,143,144,145,146,147] [IsV ((aP b0_ x0_ y0_ d0_ z0_ w0_)),IsV ((aP b1_ x1_ y1_ d1_ z1_ w1_)),IsV ((aP b1 x1 y1 b2 x2 y2)),IsV (.bool true),IsV (.bool true),IsV (.bool true),IsV (undef),IsV (.bool true),IsV (.bool true),IsV (.bool true),IsV ((aP b0_ x0_ y0_ d0_ z0_ w0_)),IsV ((aP b1_ x1_ y1_ d1_ z1_ w1_)),IsV ((aP b1 x1 y1 b2 x2 y2)),IsV (.bool true),IsV (.bool true),IsV (.bool true),IsV (.bool false),IsV (.bool true),IsV (.bool true),IsV (.bool true),IsV (.bool true),IsV (.bool true),IsV ((aP b0_ x0_ y0_ d0_ z0_ w0_)),IsV ((aP b1_ x1_ y1_ d1_ z1_ w1_)),IsV ((aP b1 x1 y1 b2 x2 y2)),IsV (.int .i64 (zag (crs q0 r0 q1 r1 (q0+(q1 - q0)*q3) (r0+(r1 - r0)*q3)) 0)),IsV (.bool true),IsV (.bool true),IsV (.bool true),IsV ((aP b0_ x0_ y0_ d0_ z0_ w0_)),IsV ((aP b1_ x1_ y1_ d1_ z1_ w1_)),IsV ((aP b1 x1 y1 b2 x2 y2)),IsV (.bool (za8 q0 r0 q1 r1 (q0+(q1 - q0)*q3) (r0+(r1 - r0)*q3))),IsV (.bool false),IsV (.bool true),IsV (.bool true),IsV ((aG b3_ x3_ y3_)),QT 2 ((1:Int)),IsV (.int .i64 (zag q3 (1:Int))),IsV (.bool (decide (0<zag q3 (1:Int)))),IsV (.bool (decide (0<zag q3 (1:Int)))),IsV (.bool true),IsV (.bool true),IsV (.bool true),IsV (.bool true),IsV (.bool true)] S ?_ ?_
       ·refine sc (fun _ _ S _ _=>sv rfl (zau rfl (S.at 6 rfl) (S.bx 0 rfl) rfl)) ?_
        refine sc (fun _ _ S _ _=>sv rfl (zau rfl (S.at 5 rfl) (S.bx 1 rfl) rfl)) ?_
        refine sc (fun _ _ S _ _=>sv rfl (zau rfl (S.at 3 rfl) (S.bx 4 rfl) rfl)) ?_
        refine sc (fun _ _ S _ hd=>sl rfl (rc3 Tryz.func15 (hd.v 0 rfl rfl) (hd.v 1 rfl rfl) (hd.v 2 rfl rfl)) (zbn (zfo (T.keep S.below) (hP0 S.below) (hP1 S.below) (hPq (S.num 3 rfl) (S.num 2 rfl) (S.num 1 rfl) (S.num 0 rfl)) (by omega) (by omega) (by omega) (by assumption) (by assumption) (by assumption) (by assumption)) (fun _ _ h=>h.trans (congrArg Value.bool (show(onR q0 r0 q1 r1 (q0+(q1 - q0)*q3) (r0+(r1 - r0)*q3))=true from((zk5 hal).trans hin)))))) ?_
        refine sc (fun _ _ S _ _=>sv rfl (zao (c:=true) (zab rfl (S.at 2 rfl)) hin)) ?_
        refine sc (fun _ _ _ _ hd=>sv rfl (zab rfl (hd.v 4 rfl rfl))) ?_
        refine sc (fun _ _ _ _ hd=>sk rfl (hd.v 5 rfl rfl)) ?_
        refine sc (fun _ _ _ _ hd=>sv rfl (zan true rfl (hd.v 5 rfl rfl) rfl)) ?_
        refine sc (fun _ _ _ _ hd=>sv rfl (zao (c:=true) (zby rfl (hd.v 3 rfl rfl) (hd.v 7 rfl rfl)) rfl)) ?_
        refine sc (fun _ _ _ _ hd=>sv rfl (zab rfl (hd.v 8 rfl rfl))) ?_
        refine sc (fun _ _ S _ hd=>svg rfl (hd.v 9 rfl rfl) (zau rfl (S.at 6 rfl) (S.bx 0 rfl) rfl)) ?_
        refine sc (fun _ _ S _ hd=>svg rfl (hd.v 9 rfl rfl) (zau rfl (S.at 5 rfl) (S.bx 1 rfl) rfl)) ?_
        refine sc (fun _ _ S _ hd=>svg rfl (hd.v 9 rfl rfl) (zau rfl (S.at 3 rfl) (S.bx 4 rfl) rfl)) ?_
        refine sc (fun _ _ S _ hd=>slg rfl (hd.v 9 rfl rfl) (rc3 Tryz.func17 (hd.v 10 rfl rfl) (hd.v 11 rfl rfl) (hd.v 12 rfl rfl)) (zbn (zcR (T.keep S.below) (hP0 S.below) (hP1 S.below) (hPq (S.num 3 rfl) (S.num 2 rfl) (S.num 1 rfl) (S.num 0 rfl)) (by omega) (by omega) (by omega) (by assumption) (by assumption) (by assumption) (by assumption)) (fun _ _ h=>h.trans (congrArg Value.bool (show(zbF q0 r0 q1 r1 (q0+(q1 - q0)*q3) (r0+(r1 - r0)*q3))=true from((zeY hal).trans hinn)))))) ?_
        refine sc (fun _ _ S _ hd=>svg rfl (hd.v 9 rfl rfl) (zao (c:=true) (zab rfl (S.at 0 rfl)) hinn)) ?_
        refine sc (fun _ _ _ _ hd=>svg rfl (hd.v 9 rfl rfl) (zab rfl (hd.v 14 rfl rfl))) ?_
        refine sc (fun _ _ S _ hd=>svg rfl (hd.v 15 rfl rfl) (zao (c:=false) (zab rfl (S.at 1 rfl)) hal)) ?_
        refine sc (fun _ _ _ _ hd=>svg rfl (hd.v 15 rfl rfl) (zb8 (b:=false) rfl (hd.v 16 rfl rfl))) ?_
        refine sc (fun _ _ _ _ hd=>svg rfl (hd.v 9 rfl rfl) (zan true rfl (hd.v 15 rfl rfl) (hd.v 17 rfl rfl))) ?_
        refine sc (fun _ _ _ _ hd=>svg rfl (hd.v 9 rfl rfl) (zao (c:=true) (zby rfl (hd.v 13 rfl rfl) (hd.v 18 rfl rfl)) rfl)) ?_
        refine sc (fun _ _ _ _ hd=>sv rfl (zan true rfl (hd.v 9 rfl rfl) (hd.v 19 rfl rfl))) ?_
        refine sc (fun _ _ _ _ hd=>sv rfl (zab rfl (hd.v 20 rfl rfl))) ?_
        refine sc (fun _ _ S _ hd=>svg rfl (hd.v 21 rfl rfl) (zau rfl (S.at 6 rfl) (S.bx 0 rfl) rfl)) ?_
        refine sc (fun _ _ S _ hd=>svg rfl (hd.v 21 rfl rfl) (zau rfl (S.at 5 rfl) (S.bx 1 rfl) rfl)) ?_
        refine sc (fun _ _ S _ hd=>svg rfl (hd.v 21 rfl rfl) (zau rfl (S.at 3 rfl) (S.bx 4 rfl) rfl)) ?_
        refine sc (fun _ _ S _ hd=>slg rfl (hd.v 21 rfl rfl) (rc3 Tryz.func10 (hd.v 22 rfl rfl) (hd.v 23 rfl rfl) (hd.v 24 rfl rfl)) (zce (T.keep S.below) (hP0 S.below) (hP1 S.below) (hPq (S.num 3 rfl) (S.num 2 rfl) (S.num 1 rfl) (S.num 0 rfl)) (by omega) (by omega) (by omega) (by assumption) (by assumption) (by assumption) (by assumption))) ?_
        refine sc (fun _ _ _ _ hd=>svg rfl (hd.v 21 rfl rfl) (zao (c:=true) (zbr _ (by decide) rfl (hd.v 25 rfl rfl) rfl) zez)) ?_
        refine sc (fun _ _ _ _ hd=>sv rfl (zan true rfl (hd.v 21 rfl rfl) (hd.v 26 rfl rfl))) ?_
        refine sc (fun _ _ _ _ hd=>sv rfl (zab rfl (hd.v 27 rfl rfl))) ?_
        refine sc (fun _ _ S _ hd=>svg rfl (hd.v 28 rfl rfl) (zau rfl (S.at 6 rfl) (S.bx 0 rfl) rfl)) ?_
        refine sc (fun _ _ S _ hd=>svg rfl (hd.v 28 rfl rfl) (zau rfl (S.at 5 rfl) (S.bx 1 rfl) rfl)) ?_
        refine sc (fun _ _ S _ hd=>svg rfl (hd.v 28 rfl rfl) (zau rfl (S.at 3 rfl) (S.bx 4 rfl) rfl)) ?_
        refine sc (fun _ _ S _ hd=>slg rfl (hd.v 28 rfl rfl) (rc3 Tryz.func19 (hd.v 29 rfl rfl) (hd.v 30 rfl rfl) (hd.v 31 rfl rfl)) (zcm (T.keep S.below) (hP0 S.below) (hP1 S.below) (hPq (S.num 3 rfl) (S.num 2 rfl) (S.num 1 rfl) (S.num 0 rfl)) (by omega) (by omega) (by omega) (by assumption) (by assumption) (by assumption) (by assumption))) ?_
        refine sc (fun _ _ S _ hd=>svg rfl (hd.v 28 rfl rfl) (zao (c:=false) (zab rfl (S.at 1 rfl)) hal)) ?_
        refine sc (fun _ _ _ _ hd=>svg rfl (hd.v 28 rfl rfl) (zb8 (b:=false) rfl (hd.v 33 rfl rfl))) ?_
        refine sc (fun _ _ _ _ hd=>svg rfl (hd.v 28 rfl rfl) (zab rfl (hd.v 34 rfl rfl))) ?_
        refine sc (fun _ _ S _ hd=>svg rfl (hd.v 35 rfl rfl) (zcU rfl (S.at 4 rfl) (S.bx 3 rfl) rfl)) ?_
        refine sc (fun _ _ _ _ hd=>slg rfl (hd.v 35 rfl rfl) (rcc Tryz.func32) (zhl (n:=1) (by decide))) ?_
        refine sc (fun _ _ S _ hd=>slg rfl (hd.v 35 rfl rfl) (rc2 Tryz.func31 (hd.v 36 rfl rfl) rfl) (zfZ (hP3 S.below) ((hd.r 37 rfl rfl)).any (by decide) (by decide))) ?_
        refine sc (fun _ _ _ _ hd=>svg rfl (hd.v 35 rfl rfl) (zbT rfl (hd.v 38 rfl rfl) rfl)) ?_
        refine sc (fun _ _ _ _ hd=>svg rfl (hd.v 28 rfl rfl) (zan true rfl (hd.v 35 rfl rfl) (hd.v 39 rfl rfl))) ?_
        refine sc (fun _ _ _ _ hd=>svg rfl (hd.v 28 rfl rfl) (zao (c:=true) (zby rfl (hd.v 32 rfl rfl) (hd.v 40 rfl rfl)) (zeg hal))) ?_
        refine sc (fun _ _ _ _ hd=>sv rfl (zan true rfl (hd.v 28 rfl rfl) (hd.v 41 rfl rfl))) ?_
        refine sc (fun _ _ _ _ hd=>sv rfl (zab rfl (hd.v 42 rfl rfl))) ?_
        refine sc (fun _ _ S _ hd=>slg rfl (hd.v 43 rfl rfl) (rc0 Tryz.func9) (zdm (T.keep S.below))) ?_
        refine sc (fun _ _ _ _ hd=>sv rfl (zan true rfl (hd.v 43 rfl rfl) (hd.v 44 rfl rfl))) ?_
        exact sn
       ·intro a5 V18 S hB hf
        have S:=S.add (hf.v 45 rfl rfl)
        clear hf S0
        show wpList _ _ _ [_] _ _
        refine tv S (zak rfl (S.at 0 rfl)) fun a S=>?_
        refine hK10 _ _ ?_
        refine wp_ret ?_
        exact zaD rfl S (S.at 0 rfl) ⟨_,rfl,rfl,S.below⟩
     ·skip
      rcases ztT (decide (za5 q0 r0 q1 r1=0))with hal|hal
      ·skip
       obtain⟨W3,hW3⟩:∃W,W=V16:=⟨_,rfl⟩
       rw[←hW3]at S ⊢
       have S0:=S
       refine fr 46 [102,103,104,105,106,107,108,109,110,111,112,113,114,115,116,117,118,119,120,121,122,123,124,125,126,127,128,129,130,131,132,133,134,135,136,137,138,139,140,141,142,143,144,145,146,147] [IsV ((aP b0_ x0_ y0_ d0_ z0_ w0_)),IsV ((aP b1_ x1_ y1_ d1_ z1_ w1_)),IsV ((aP b1 x1 y1 b2 x2 y2)),IsV (.bool true),IsV (.bool true),IsV (.bool true),IsV (undef),IsV (.bool true),IsV (.bool true),IsV (.bool true),IsV ((aP b0_ x0_ y0_ d0_ z0_ w0_)),IsV ((aP b1_ x1_ y1_ d1_ z1_ w1_)),IsV ((aP b1 x1 y1 b2 x2 y2)),IsV (.bool false),IsV (.bool false),IsV (.bool false),IsV (undef),IsV (undef),IsV (.bool false),IsV (.bool true),IsV (.bool true),IsV (.bool true),IsV ((aP b0_ x0_ y0_ d0_ z0_ w0_)),IsV ((aP b1_ x1_ y1_ d1_ z1_ w1_)),IsV ((aP b1 x1 y1 b2 x2 y2)),IsV (.int .i64 (zag (crs q0 r0 q1 r1 (q0+(q1 - q0)*q3) (r0+(r1 - r0)*q3)) 0)),IsV (.bool true),IsV (.bool true),IsV (.bool true),IsV ((aP b0_ x0_ y0_ d0_ z0_ w0_)),IsV ((aP b1_ x1_ y1_ d1_ z1_ w1_)),IsV ((aP b1 x1 y1 b2 x2 y2)),IsV (.bool false),IsV (.bool true),IsV (.bool false),IsV (.bool false),IsV (undef),IsV (undef),IsV (undef),IsV (undef),IsV (.bool false),IsV (.bool true),IsV (.bool true),IsV (.bool true),IsV (.bool true),IsV (.bool true)] S ?_ ?_
       ·refine sc (fun _ _ S _ _=>sv rfl (zau rfl (S.at 6 rfl) (S.bx 0 rfl) rfl)) ?_
        refine sc (fun _ _ S _ _=>sv rfl (zau rfl (S.at 5 rfl) (S.bx 1 rfl) rfl)) ?_
        refine sc (fun _ _ S _ _=>sv rfl (zau rfl (S.at 3 rfl) (S.bx 4 rfl) rfl)) ?_
        refine sc (fun _ _ S _ hd=>sl rfl (rc3 Tryz.func15 (hd.v 0 rfl rfl) (hd.v 1 rfl rfl) (hd.v 2 rfl rfl)) (zbn (zfo (T.keep S.below) (hP0 S.below) (hP1 S.below) (hPq (S.num 3 rfl) (S.num 2 rfl) (S.num 1 rfl) (S.num 0 rfl)) (by omega) (by omega) (by omega) (by assumption) (by assumption) (by assumption) (by assumption)) (fun _ _ h=>h.trans (congrArg Value.bool (show(onR q0 r0 q1 r1 (q0+(q1 - q0)*q3) (r0+(r1 - r0)*q3))=true from(zgU hal)))))) ?_
        refine sc (fun _ _ S _ _=>sv rfl (zao (c:=true) (zab rfl (S.at 2 rfl)) hin)) ?_
        refine sc (fun _ _ _ _ hd=>sv rfl (zab rfl (hd.v 4 rfl rfl))) ?_
        refine sc (fun _ _ _ _ hd=>sk rfl (hd.v 5 rfl rfl)) ?_
        refine sc (fun _ _ _ _ hd=>sv rfl (zan true rfl (hd.v 5 rfl rfl) rfl)) ?_
        refine sc (fun _ _ _ _ hd=>sv rfl (zao (c:=true) (zby rfl (hd.v 3 rfl rfl) (hd.v 7 rfl rfl)) rfl)) ?_
        refine sc (fun _ _ _ _ hd=>sv rfl (zab rfl (hd.v 8 rfl rfl))) ?_
        refine sc (fun _ _ S _ hd=>svg rfl (hd.v 9 rfl rfl) (zau rfl (S.at 6 rfl) (S.bx 0 rfl) rfl)) ?_
        refine sc (fun _ _ S _ hd=>svg rfl (hd.v 9 rfl rfl) (zau rfl (S.at 5 rfl) (S.bx 1 rfl) rfl)) ?_
        refine sc (fun _ _ S _ hd=>svg rfl (hd.v 9 rfl rfl) (zau rfl (S.at 3 rfl) (S.bx 4 rfl) rfl)) ?_
        refine sc (fun _ _ S _ hd=>slg rfl (hd.v 9 rfl rfl) (rc3 Tryz.func17 (hd.v 10 rfl rfl) (hd.v 11 rfl rfl) (hd.v 12 rfl rfl)) (zbn (zcR (T.keep S.below) (hP0 S.below) (hP1 S.below) (hPq (S.num 3 rfl) (S.num 2 rfl) (S.num 1 rfl) (S.num 0 rfl)) (by omega) (by omega) (by omega) (by assumption) (by assumption) (by assumption) (by assumption)) (fun _ _ h=>h.trans (congrArg Value.bool (show(zbF q0 r0 q1 r1 (q0+(q1 - q0)*q3) (r0+(r1 - r0)*q3))=false from(zdP hal)))))) ?_
        refine sc (fun _ _ S _ hd=>svg rfl (hd.v 9 rfl rfl) (zao (c:=false) (zab rfl (S.at 0 rfl)) hinn)) ?_
        refine sc (fun _ _ _ _ hd=>svg rfl (hd.v 9 rfl rfl) (zab rfl (hd.v 14 rfl rfl))) ?_
        refine sc (fun _ _ _ _ hd=>sk rfl (hd.v 15 rfl rfl)) ?_
        refine sc (fun _ _ _ _ hd=>sk rfl (hd.v 15 rfl rfl)) ?_
        refine sc (fun _ _ _ _ hd=>svg rfl (hd.v 9 rfl rfl) (zan false rfl (hd.v 15 rfl rfl) rfl)) ?_
        refine sc (fun _ _ _ _ hd=>svg rfl (hd.v 9 rfl rfl) (zao (c:=true) (zby rfl (hd.v 13 rfl rfl) (hd.v 18 rfl rfl)) rfl)) ?_
        refine sc (fun _ _ _ _ hd=>sv rfl (zan true rfl (hd.v 9 rfl rfl) (hd.v 19 rfl rfl))) ?_
        refine sc (fun _ _ _ _ hd=>sv rfl (zab rfl (hd.v 20 rfl rfl))) ?_
        refine sc (fun _ _ S _ hd=>svg rfl (hd.v 21 rfl rfl) (zau rfl (S.at 6 rfl) (S.bx 0 rfl) rfl)) ?_
        refine sc (fun _ _ S _ hd=>svg rfl (hd.v 21 rfl rfl) (zau rfl (S.at 5 rfl) (S.bx 1 rfl) rfl)) ?_
        refine sc (fun _ _ S _ hd=>svg rfl (hd.v 21 rfl rfl) (zau rfl (S.at 3 rfl) (S.bx 4 rfl) rfl)) ?_
        refine sc (fun _ _ S _ hd=>slg rfl (hd.v 21 rfl rfl) (rc3 Tryz.func10 (hd.v 22 rfl rfl) (hd.v 23 rfl rfl) (hd.v 24 rfl rfl)) (zce (T.keep S.below) (hP0 S.below) (hP1 S.below) (hPq (S.num 3 rfl) (S.num 2 rfl) (S.num 1 rfl) (S.num 0 rfl)) (by omega) (by omega) (by omega) (by assumption) (by assumption) (by assumption) (by assumption))) ?_
        refine sc (fun _ _ _ _ hd=>svg rfl (hd.v 21 rfl rfl) (zao (c:=true) (zbr _ (by decide) rfl (hd.v 25 rfl rfl) rfl) zez)) ?_
        refine sc (fun _ _ _ _ hd=>sv rfl (zan true rfl (hd.v 21 rfl rfl) (hd.v 26 rfl rfl))) ?_
        refine sc (fun _ _ _ _ hd=>sv rfl (zab rfl (hd.v 27 rfl rfl))) ?_
        refine sc (fun _ _ S _ hd=>svg rfl (hd.v 28 rfl rfl) (zau rfl (S.at 6 rfl) (S.bx 0 rfl) rfl)) ?_
        refine sc (fun _ _ S _ hd=>svg rfl (hd.v 28 rfl rfl) (zau rfl (S.at 5 rfl) (S.bx 1 rfl) rfl)) ?_
        refine sc (fun _ _ S _ hd=>svg rfl (hd.v 28 rfl rfl) (zau rfl (S.at 3 rfl) (S.bx 4 rfl) rfl)) ?_
        refine sc (fun _ _ S _ hd=>slg rfl (hd.v 28 rfl rfl) (rc3 Tryz.func19 (hd.v 29 rfl rfl) (hd.v 30 rfl rfl) (hd.v 31 rfl rfl)) (zbn (zcm (T.keep S.below) (hP0 S.below) (hP1 S.below) (hPq (S.num 3 rfl) (S.num 2 rfl) (S.num 1 rfl) (S.num 0 rfl)) (by omega) (by omega) (by omega) (by assumption) (by assumption) (by assumption) (by assumption)) (fun _ _ h=>h.trans (congrArg Value.bool (show(za8 q0 r0 q1 r1 (q0+(q1 - q0)*q3) (r0+(r1 - r0)*q3))=false from(zda hal)))))) ?_
        refine sc (fun _ _ S _ hd=>svg rfl (hd.v 28 rfl rfl) (zao (c:=true) (zab rfl (S.at 1 rfl)) hal)) ?_
        refine sc (fun _ _ _ _ hd=>svg rfl (hd.v 28 rfl rfl) (zb8 (b:=true) rfl (hd.v 33 rfl rfl))) ?_
        refine sc (fun _ _ _ _ hd=>svg rfl (hd.v 28 rfl rfl) (zab rfl (hd.v 34 rfl rfl))) ?_
        refine sc (fun _ _ _ _ hd=>sk rfl (hd.v 35 rfl rfl)) ?_
        refine sc (fun _ _ _ _ hd=>sk rfl (hd.v 35 rfl rfl)) ?_
        refine sc (fun _ _ _ _ hd=>sk rfl (hd.v 35 rfl rfl)) ?_
        refine sc (fun _ _ _ _ hd=>sk rfl (hd.v 35 rfl rfl)) ?_
        refine sc (fun _ _ _ _ hd=>svg rfl (hd.v 28 rfl rfl) (zan false rfl (hd.v 35 rfl rfl) rfl)) ?_
        refine sc (fun _ _ _ _ hd=>svg rfl (hd.v 28 rfl rfl) (zao (c:=true) (zby rfl (hd.v 32 rfl rfl) (hd.v 40 rfl rfl)) rfl)) ?_
        refine sc (fun _ _ _ _ hd=>sv rfl (zan true rfl (hd.v 28 rfl rfl) (hd.v 41 rfl rfl))) ?_
        refine sc (fun _ _ _ _ hd=>sv rfl (zab rfl (hd.v 42 rfl rfl))) ?_
        refine sc (fun _ _ S _ hd=>slg rfl (hd.v 43 rfl rfl) (rc0 Tryz.func9) (zdm (T.keep S.below))) ?_
        refine sc (fun _ _ _ _ hd=>sv rfl (zan true rfl (hd.v 43 rfl rfl) (hd.v 44 rfl rfl))) ?_
        exact sn
       ·intro a6 V19 S hB hf
        have S:=S.add (hf.v 45 rfl rfl)
        clear hf S0
        show wpList _ _ _ [_] _ _
        refine tv S (zak rfl (S.at 0 rfl)) fun a S=>?_
        refine hK10 _ _ ?_
        refine wp_ret ?_
        exact zaD rfl S (S.at 0 rfl) ⟨_,rfl,rfl,S.below⟩
      ·skip
       obtain⟨W4,hW4⟩:∃W,W=V16:=⟨_,rfl⟩
       rw[←hW4]at S ⊢
       have S0:=S
       refine fr 46 [102,103,104,105,106,107,108,109,110,111,112,113,114,115,116,117,118,119,120,121,122,123,124,125,126,127,128,129,130,131,132,133,134,135,136,137,138,139,140,141,142,143,144,145,146,147] [IsV ((aP b0_ x0_ y0_ d0_ z0_ w0_)),IsV ((aP b1_ x1_ y1_ d1_ z1_ w1_)),IsV ((aP b1 x1 y1 b2 x2 y2)),IsV (.bool true),IsV (.bool true),IsV (.bool true),IsV (undef),IsV (.bool true),IsV (.bool true),IsV (.bool true),IsV ((aP b0_ x0_ y0_ d0_ z0_ w0_)),IsV ((aP b1_ x1_ y1_ d1_ z1_ w1_)),IsV ((aP b1 x1 y1 b2 x2 y2)),IsV (.bool false),IsV (.bool false),IsV (.bool false),IsV (undef),IsV (undef),IsV (.bool false),IsV (.bool true),IsV (.bool true),IsV (.bool true),IsV ((aP b0_ x0_ y0_ d0_ z0_ w0_)),IsV ((aP b1_ x1_ y1_ d1_ z1_ w1_)),IsV ((aP b1 x1 y1 b2 x2 y2)),IsV (.int .i64 (zag (crs q0 r0 q1 r1 (q0+(q1 - q0)*q3) (r0+(r1 - r0)*q3)) 0)),IsV (.bool true),IsV (.bool true),IsV (.bool true),IsV ((aP b0_ x0_ y0_ d0_ z0_ w0_)),IsV ((aP b1_ x1_ y1_ d1_ z1_ w1_)),IsV ((aP b1 x1 y1 b2 x2 y2)),IsV (.bool (za8 q0 r0 q1 r1 (q0+(q1 - q0)*q3) (r0+(r1 - r0)*q3))),IsV (.bool false),IsV (.bool true),IsV (.bool true),IsV ((aG b3_ x3_ y3_)),QT 2 ((1:Int)),IsV (.int .i64 (zag q3 (1:Int))),IsV (.bool (decide (0<zag q3 (1:Int)))),IsV (.bool (decide (0<zag q3 (1:Int)))),IsV (.bool true),IsV (.bool true),IsV (.bool true),IsV (.bool true),IsV (.bool true)] S ?_ ?_
       ·refine sc (fun _ _ S _ _=>sv rfl (zau rfl (S.at 6 rfl) (S.bx 0 rfl) rfl)) ?_
        refine sc (fun _ _ S _ _=>sv rfl (zau rfl (S.at 5 rfl) (S.bx 1 rfl) rfl)) ?_
        refine sc (fun _ _ S _ _=>sv rfl (zau rfl (S.at 3 rfl) (S.bx 4 rfl) rfl)) ?_
        refine sc (fun _ _ S _ hd=>sl rfl (rc3 Tryz.func15 (hd.v 0 rfl rfl) (hd.v 1 rfl rfl) (hd.v 2 rfl rfl)) (zbn (zfo (T.keep S.below) (hP0 S.below) (hP1 S.below) (hPq (S.num 3 rfl) (S.num 2 rfl) (S.num 1 rfl) (S.num 0 rfl)) (by omega) (by omega) (by omega) (by assumption) (by assumption) (by assumption) (by assumption)) (fun _ _ h=>h.trans (congrArg Value.bool (show(onR q0 r0 q1 r1 (q0+(q1 - q0)*q3) (r0+(r1 - r0)*q3))=true from((zk5 hal).trans hin)))))) ?_
        refine sc (fun _ _ S _ _=>sv rfl (zao (c:=true) (zab rfl (S.at 2 rfl)) hin)) ?_
        refine sc (fun _ _ _ _ hd=>sv rfl (zab rfl (hd.v 4 rfl rfl))) ?_
        refine sc (fun _ _ _ _ hd=>sk rfl (hd.v 5 rfl rfl)) ?_
        refine sc (fun _ _ _ _ hd=>sv rfl (zan true rfl (hd.v 5 rfl rfl) rfl)) ?_
        refine sc (fun _ _ _ _ hd=>sv rfl (zao (c:=true) (zby rfl (hd.v 3 rfl rfl) (hd.v 7 rfl rfl)) rfl)) ?_
        refine sc (fun _ _ _ _ hd=>sv rfl (zab rfl (hd.v 8 rfl rfl))) ?_
        refine sc (fun _ _ S _ hd=>svg rfl (hd.v 9 rfl rfl) (zau rfl (S.at 6 rfl) (S.bx 0 rfl) rfl)) ?_
        refine sc (fun _ _ S _ hd=>svg rfl (hd.v 9 rfl rfl) (zau rfl (S.at 5 rfl) (S.bx 1 rfl) rfl)) ?_
        refine sc (fun _ _ S _ hd=>svg rfl (hd.v 9 rfl rfl) (zau rfl (S.at 3 rfl) (S.bx 4 rfl) rfl)) ?_
        refine sc (fun _ _ S _ hd=>slg rfl (hd.v 9 rfl rfl) (rc3 Tryz.func17 (hd.v 10 rfl rfl) (hd.v 11 rfl rfl) (hd.v 12 rfl rfl)) (zbn (zcR (T.keep S.below) (hP0 S.below) (hP1 S.below) (hPq (S.num 3 rfl) (S.num 2 rfl) (S.num 1 rfl) (S.num 0 rfl)) (by omega) (by omega) (by omega) (by assumption) (by assumption) (by assumption) (by assumption)) (fun _ _ h=>h.trans (congrArg Value.bool (show(zbF q0 r0 q1 r1 (q0+(q1 - q0)*q3) (r0+(r1 - r0)*q3))=false from((zeY hal).trans hinn)))))) ?_
        refine sc (fun _ _ S _ hd=>svg rfl (hd.v 9 rfl rfl) (zao (c:=false) (zab rfl (S.at 0 rfl)) hinn)) ?_
        refine sc (fun _ _ _ _ hd=>svg rfl (hd.v 9 rfl rfl) (zab rfl (hd.v 14 rfl rfl))) ?_
        refine sc (fun _ _ _ _ hd=>sk rfl (hd.v 15 rfl rfl)) ?_
        refine sc (fun _ _ _ _ hd=>sk rfl (hd.v 15 rfl rfl)) ?_
        refine sc (fun _ _ _ _ hd=>svg rfl (hd.v 9 rfl rfl) (zan false rfl (hd.v 15 rfl rfl) rfl)) ?_
        refine sc (fun _ _ _ _ hd=>svg rfl (hd.v 9 rfl rfl) (zao (c:=true) (zby rfl (hd.v 13 rfl rfl) (hd.v 18 rfl rfl)) rfl)) ?_
        refine sc (fun _ _ _ _ hd=>sv rfl (zan true rfl (hd.v 9 rfl rfl) (hd.v 19 rfl rfl))) ?_
        refine sc (fun _ _ _ _ hd=>sv rfl (zab rfl (hd.v 20 rfl rfl))) ?_
        refine sc (fun _ _ S _ hd=>svg rfl (hd.v 21 rfl rfl) (zau rfl (S.at 6 rfl) (S.bx 0 rfl) rfl)) ?_
        refine sc (fun _ _ S _ hd=>svg rfl (hd.v 21 rfl rfl) (zau rfl (S.at 5 rfl) (S.bx 1 rfl) rfl)) ?_
        refine sc (fun _ _ S _ hd=>svg rfl (hd.v 21 rfl rfl) (zau rfl (S.at 3 rfl) (S.bx 4 rfl) rfl)) ?_
        refine sc (fun _ _ S _ hd=>slg rfl (hd.v 21 rfl rfl) (rc3 Tryz.func10 (hd.v 22 rfl rfl) (hd.v 23 rfl rfl) (hd.v 24 rfl rfl)) (zce (T.keep S.below) (hP0 S.below) (hP1 S.below) (hPq (S.num 3 rfl) (S.num 2 rfl) (S.num 1 rfl) (S.num 0 rfl)) (by omega) (by omega) (by omega) (by assumption) (by assumption) (by assumption) (by assumption))) ?_
        refine sc (fun _ _ _ _ hd=>svg rfl (hd.v 21 rfl rfl) (zao (c:=true) (zbr _ (by decide) rfl (hd.v 25 rfl rfl) rfl) zez)) ?_
        refine sc (fun _ _ _ _ hd=>sv rfl (zan true rfl (hd.v 21 rfl rfl) (hd.v 26 rfl rfl))) ?_
        refine sc (fun _ _ _ _ hd=>sv rfl (zab rfl (hd.v 27 rfl rfl))) ?_
        refine sc (fun _ _ S _ hd=>svg rfl (hd.v 28 rfl rfl) (zau rfl (S.at 6 rfl) (S.bx 0 rfl) rfl)) ?_
        refine sc (fun _ _ S _ hd=>svg rfl (hd.v 28 rfl rfl) (zau rfl (S.at 5 rfl) (S.bx 1 rfl) rfl)) ?_
        refine sc (fun _ _ S _ hd=>svg rfl (hd.v 28 rfl rfl) (zau rfl (S.at 3 rfl) (S.bx 4 rfl) rfl)) ?_
        refine sc (fun _ _ S _ hd=>slg rfl (hd.v 28 rfl rfl) (rc3 Tryz.func19 (hd.v 29 rfl rfl) (hd.v 30 rfl rfl) (hd.v 31 rfl rfl)) (zcm (T.keep S.below) (hP0 S.below) (hP1 S.below) (hPq (S.num 3 rfl) (S.num 2 rfl) (S.num 1 rfl) (S.num 0 rfl)) (by omega) (by omega) (by omega) (by assumption) (by assumption) (by assumption) (by assumption))) ?_
        refine sc (fun _ _ S _ hd=>svg rfl (hd.v 28 rfl rfl) (zao (c:=false) (zab rfl (S.at 1 rfl)) hal)) ?_
        refine sc (fun _ _ _ _ hd=>svg rfl (hd.v 28 rfl rfl) (zb8 (b:=false) rfl (hd.v 33 rfl rfl))) ?_
        refine sc (fun _ _ _ _ hd=>svg rfl (hd.v 28 rfl rfl) (zab rfl (hd.v 34 rfl rfl))) ?_
        refine sc (fun _ _ S _ hd=>svg rfl (hd.v 35 rfl rfl) (zcU rfl (S.at 4 rfl) (S.bx 3 rfl) rfl)) ?_
        refine sc (fun _ _ _ _ hd=>slg rfl (hd.v 35 rfl rfl) (rcc Tryz.func32) (zhl (n:=1) (by decide))) ?_
        refine sc (fun _ _ S _ hd=>slg rfl (hd.v 35 rfl rfl) (rc2 Tryz.func31 (hd.v 36 rfl rfl) rfl) (zfZ (hP3 S.below) ((hd.r 37 rfl rfl)).any (by decide) (by decide))) ?_
        refine sc (fun _ _ _ _ hd=>svg rfl (hd.v 35 rfl rfl) (zbT rfl (hd.v 38 rfl rfl) rfl)) ?_
        refine sc (fun _ _ _ _ hd=>svg rfl (hd.v 28 rfl rfl) (zan true rfl (hd.v 35 rfl rfl) (hd.v 39 rfl rfl))) ?_
        refine sc (fun _ _ _ _ hd=>svg rfl (hd.v 28 rfl rfl) (zao (c:=true) (zby rfl (hd.v 32 rfl rfl) (hd.v 40 rfl rfl)) (zeg hal))) ?_
        refine sc (fun _ _ _ _ hd=>sv rfl (zan true rfl (hd.v 28 rfl rfl) (hd.v 41 rfl rfl))) ?_
        refine sc (fun _ _ _ _ hd=>sv rfl (zab rfl (hd.v 42 rfl rfl))) ?_
        refine sc (fun _ _ S _ hd=>slg rfl (hd.v 43 rfl rfl) (rc0 Tryz.func9) (zdm (T.keep S.below))) ?_
        refine sc (fun _ _ _ _ hd=>sv rfl (zan true rfl (hd.v 43 rfl rfl) (hd.v 44 rfl rfl))) ?_
        exact sn
       ·intro a7 V20 S hB hf
        have S:=S.add (hf.v 45 rfl rfl)
        clear hf S0
        show wpList _ _ _ [_] _ _
        refine tv S (zak rfl (S.at 0 rfl)) fun a S=>?_
        refine hK10 _ _ ?_
        refine wp_ret ?_
        exact zaD rfl S (S.at 0 rfl) ⟨_,rfl,rfl,S.below⟩
    ·skip
     rcases ztT (zf7 q3)with hinn|hinn
     ·skip
      rcases ztT (decide (za5 q0 r0 q1 r1=0))with hal|hal
      ·skip
       exact absurd (zpm hinn) (by rw[hin];decide)
      ·skip
       exact absurd (zpm hinn) (by rw[hin];decide)
     ·skip
      rcases ztT (decide (za5 q0 r0 q1 r1=0))with hal|hal
      ·skip
       obtain⟨W5,hW5⟩:∃W,W=V16:=⟨_,rfl⟩
       rw[←hW5]at S ⊢
       have S0:=S
       refine fr 46 [102,103,104,105,106,107,108,109,110,111,112,113,114,115,116,117,118,119,120,121,122,123,124,125,126,127,128,129,130,131,132,133,134,135,136,137,138,139,140,141,142,143,144,145,146,147] [IsV ((aP b0_ x0_ y0_ d0_ z0_ w0_)),IsV ((aP b1_ x1_ y1_ d1_ z1_ w1_)),IsV ((aP b1 x1 y1 b2 x2 y2)),IsV (.bool true),IsV (.bool false),IsV (.bool false),IsV (.bool true),IsV (.bool true),IsV (.bool true),IsV (.bool true),IsV ((aP b0_ x0_ y0_ d0_ z0_ w0_)),IsV ((aP b1_ x1_ y1_ d1_ z1_ w1_)),IsV ((aP b1 x1 y1 b2 x2 y2)),IsV (.bool false),IsV (.bool false),IsV (.bool false),IsV (undef),IsV (undef),IsV (.bool false),IsV (.bool true),IsV (.bool true),IsV (.bool true),IsV ((aP b0_ x0_ y0_ d0_ z0_ w0_)),IsV ((aP b1_ x1_ y1_ d1_ z1_ w1_)),IsV ((aP b1 x1 y1 b2 x2 y2)),IsV (.int .i64 (zag (crs q0 r0 q1 r1 (q0+(q1 - q0)*q3) (r0+(r1 - r0)*q3)) 0)),IsV (.bool true),IsV (.bool true),IsV (.bool true),IsV ((aP b0_ x0_ y0_ d0_ z0_ w0_)),IsV ((aP b1_ x1_ y1_ d1_ z1_ w1_)),IsV ((aP b1 x1 y1 b2 x2 y2)),IsV (.bool false),IsV (.bool true),IsV (.bool false),IsV (.bool false),IsV (undef),IsV (undef),IsV (undef),IsV (undef),IsV (.bool false),IsV (.bool true),IsV (.bool true),IsV (.bool true),IsV (.bool true),IsV (.bool true)] S ?_ ?_
       ·refine sc (fun _ _ S _ _=>sv rfl (zau rfl (S.at 6 rfl) (S.bx 0 rfl) rfl)) ?_
        refine sc (fun _ _ S _ _=>sv rfl (zau rfl (S.at 5 rfl) (S.bx 1 rfl) rfl)) ?_
        refine sc (fun _ _ S _ _=>sv rfl (zau rfl (S.at 3 rfl) (S.bx 4 rfl) rfl)) ?_
        refine sc (fun _ _ S _ hd=>sl rfl (rc3 Tryz.func15 (hd.v 0 rfl rfl) (hd.v 1 rfl rfl) (hd.v 2 rfl rfl)) (zbn (zfo (T.keep S.below) (hP0 S.below) (hP1 S.below) (hPq (S.num 3 rfl) (S.num 2 rfl) (S.num 1 rfl) (S.num 0 rfl)) (by omega) (by omega) (by omega) (by assumption) (by assumption) (by assumption) (by assumption)) (fun _ _ h=>h.trans (congrArg Value.bool (show(onR q0 r0 q1 r1 (q0+(q1 - q0)*q3) (r0+(r1 - r0)*q3))=true from(zgU hal)))))) ?_
        refine sc (fun _ _ S _ _=>sv rfl (zao (c:=false) (zab rfl (S.at 2 rfl)) hin)) ?_
        refine sc (fun _ _ _ _ hd=>sv rfl (zab rfl (hd.v 4 rfl rfl))) ?_
        refine sc (fun _ _ S _ hd=>svg rfl (hd.v 5 rfl rfl) (zao (c:=true) (zab rfl (S.at 1 rfl)) hal)) ?_
        refine sc (fun _ _ _ _ hd=>sv rfl (zan false rfl (hd.v 5 rfl rfl) (hd.v 6 rfl rfl))) ?_
        refine sc (fun _ _ _ _ hd=>sv rfl (zao (c:=true) (zby rfl (hd.v 3 rfl rfl) (hd.v 7 rfl rfl)) rfl)) ?_
        refine sc (fun _ _ _ _ hd=>sv rfl (zab rfl (hd.v 8 rfl rfl))) ?_
        refine sc (fun _ _ S _ hd=>svg rfl (hd.v 9 rfl rfl) (zau rfl (S.at 6 rfl) (S.bx 0 rfl) rfl)) ?_
        refine sc (fun _ _ S _ hd=>svg rfl (hd.v 9 rfl rfl) (zau rfl (S.at 5 rfl) (S.bx 1 rfl) rfl)) ?_
        refine sc (fun _ _ S _ hd=>svg rfl (hd.v 9 rfl rfl) (zau rfl (S.at 3 rfl) (S.bx 4 rfl) rfl)) ?_
        refine sc (fun _ _ S _ hd=>slg rfl (hd.v 9 rfl rfl) (rc3 Tryz.func17 (hd.v 10 rfl rfl) (hd.v 11 rfl rfl) (hd.v 12 rfl rfl)) (zbn (zcR (T.keep S.below) (hP0 S.below) (hP1 S.below) (hPq (S.num 3 rfl) (S.num 2 rfl) (S.num 1 rfl) (S.num 0 rfl)) (by omega) (by omega) (by omega) (by assumption) (by assumption) (by assumption) (by assumption)) (fun _ _ h=>h.trans (congrArg Value.bool (show(zbF q0 r0 q1 r1 (q0+(q1 - q0)*q3) (r0+(r1 - r0)*q3))=false from(zdP hal)))))) ?_
        refine sc (fun _ _ S _ hd=>svg rfl (hd.v 9 rfl rfl) (zao (c:=false) (zab rfl (S.at 0 rfl)) hinn)) ?_
        refine sc (fun _ _ _ _ hd=>svg rfl (hd.v 9 rfl rfl) (zab rfl (hd.v 14 rfl rfl))) ?_
        refine sc (fun _ _ _ _ hd=>sk rfl (hd.v 15 rfl rfl)) ?_
        refine sc (fun _ _ _ _ hd=>sk rfl (hd.v 15 rfl rfl)) ?_
        refine sc (fun _ _ _ _ hd=>svg rfl (hd.v 9 rfl rfl) (zan false rfl (hd.v 15 rfl rfl) rfl)) ?_
        refine sc (fun _ _ _ _ hd=>svg rfl (hd.v 9 rfl rfl) (zao (c:=true) (zby rfl (hd.v 13 rfl rfl) (hd.v 18 rfl rfl)) rfl)) ?_
        refine sc (fun _ _ _ _ hd=>sv rfl (zan true rfl (hd.v 9 rfl rfl) (hd.v 19 rfl rfl))) ?_
        refine sc (fun _ _ _ _ hd=>sv rfl (zab rfl (hd.v 20 rfl rfl))) ?_
        refine sc (fun _ _ S _ hd=>svg rfl (hd.v 21 rfl rfl) (zau rfl (S.at 6 rfl) (S.bx 0 rfl) rfl)) ?_
        refine sc (fun _ _ S _ hd=>svg rfl (hd.v 21 rfl rfl) (zau rfl (S.at 5 rfl) (S.bx 1 rfl) rfl)) ?_
        refine sc (fun _ _ S _ hd=>svg rfl (hd.v 21 rfl rfl) (zau rfl (S.at 3 rfl) (S.bx 4 rfl) rfl)) ?_
        refine sc (fun _ _ S _ hd=>slg rfl (hd.v 21 rfl rfl) (rc3 Tryz.func10 (hd.v 22 rfl rfl) (hd.v 23 rfl rfl) (hd.v 24 rfl rfl)) (zce (T.keep S.below) (hP0 S.below) (hP1 S.below) (hPq (S.num 3 rfl) (S.num 2 rfl) (S.num 1 rfl) (S.num 0 rfl)) (by omega) (by omega) (by omega) (by assumption) (by assumption) (by assumption) (by assumption))) ?_
        refine sc (fun _ _ _ _ hd=>svg rfl (hd.v 21 rfl rfl) (zao (c:=true) (zbr _ (by decide) rfl (hd.v 25 rfl rfl) rfl) zez)) ?_
        refine sc (fun _ _ _ _ hd=>sv rfl (zan true rfl (hd.v 21 rfl rfl) (hd.v 26 rfl rfl))) ?_
        refine sc (fun _ _ _ _ hd=>sv rfl (zab rfl (hd.v 27 rfl rfl))) ?_
        refine sc (fun _ _ S _ hd=>svg rfl (hd.v 28 rfl rfl) (zau rfl (S.at 6 rfl) (S.bx 0 rfl) rfl)) ?_
        refine sc (fun _ _ S _ hd=>svg rfl (hd.v 28 rfl rfl) (zau rfl (S.at 5 rfl) (S.bx 1 rfl) rfl)) ?_
        refine sc (fun _ _ S _ hd=>svg rfl (hd.v 28 rfl rfl) (zau rfl (S.at 3 rfl) (S.bx 4 rfl) rfl)) ?_
        refine sc (fun _ _ S _ hd=>slg rfl (hd.v 28 rfl rfl) (rc3 Tryz.func19 (hd.v 29 rfl rfl) (hd.v 30 rfl rfl) (hd.v 31 rfl rfl)) (zbn (zcm (T.keep S.below) (hP0 S.below) (hP1 S.below) (hPq (S.num 3 rfl) (S.num 2 rfl) (S.num 1 rfl) (S.num 0 rfl)) (by omega) (by omega) (by omega) (by assumption) (by assumption) (by assumption) (by assumption)) (fun _ _ h=>h.trans (congrArg Value.bool (show(za8 q0 r0 q1 r1 (q0+(q1 - q0)*q3) (r0+(r1 - r0)*q3))=false from(zda hal)))))) ?_
        refine sc (fun _ _ S _ hd=>svg rfl (hd.v 28 rfl rfl) (zao (c:=true) (zab rfl (S.at 1 rfl)) hal)) ?_
        refine sc (fun _ _ _ _ hd=>svg rfl (hd.v 28 rfl rfl) (zb8 (b:=true) rfl (hd.v 33 rfl rfl))) ?_
        refine sc (fun _ _ _ _ hd=>svg rfl (hd.v 28 rfl rfl) (zab rfl (hd.v 34 rfl rfl))) ?_
        refine sc (fun _ _ _ _ hd=>sk rfl (hd.v 35 rfl rfl)) ?_
        refine sc (fun _ _ _ _ hd=>sk rfl (hd.v 35 rfl rfl)) ?_
        refine sc (fun _ _ _ _ hd=>sk rfl (hd.v 35 rfl rfl)) ?_
        refine sc (fun _ _ _ _ hd=>sk rfl (hd.v 35 rfl rfl)) ?_
        refine sc (fun _ _ _ _ hd=>svg rfl (hd.v 28 rfl rfl) (zan false rfl (hd.v 35 rfl rfl) rfl)) ?_
        refine sc (fun _ _ _ _ hd=>svg rfl (hd.v 28 rfl rfl) (zao (c:=true) (zby rfl (hd.v 32 rfl rfl) (hd.v 40 rfl rfl)) rfl)) ?_
        refine sc (fun _ _ _ _ hd=>sv rfl (zan true rfl (hd.v 28 rfl rfl) (hd.v 41 rfl rfl))) ?_
        refine sc (fun _ _ _ _ hd=>sv rfl (zab rfl (hd.v 42 rfl rfl))) ?_
        refine sc (fun _ _ S _ hd=>slg rfl (hd.v 43 rfl rfl) (rc0 Tryz.func9) (zdm (T.keep S.below))) ?_
        refine sc (fun _ _ _ _ hd=>sv rfl (zan true rfl (hd.v 43 rfl rfl) (hd.v 44 rfl rfl))) ?_
        exact sn
       ·intro a8 V21 S hB hf
        have S:=S.add (hf.v 45 rfl rfl)
        clear hf S0
        show wpList _ _ _ [_] _ _
        refine tv S (zak rfl (S.at 0 rfl)) fun a S=>?_
        refine hK10 _ _ ?_
        refine wp_ret ?_
        exact zaD rfl S (S.at 0 rfl) ⟨_,rfl,rfl,S.below⟩
      ·skip
       obtain⟨W6,hW6⟩:∃W,W=V16:=⟨_,rfl⟩
       rw[←hW6]at S ⊢
       have S0:=S
       refine fr 46 [102,103,104,105,106,107,108,109,110,111,112,113,114,115,116,117,118,119,120,121,122,123,124,125,126,127,128,129,130,131,132,133,134,135,136,137,138,139,140,141,142,143,144,145,146,147] [IsV ((aP b0_ x0_ y0_ d0_ z0_ w0_)),IsV ((aP b1_ x1_ y1_ d1_ z1_ w1_)),IsV ((aP b1 x1 y1 b2 x2 y2)),IsV (.bool false),IsV (.bool false),IsV (.bool false),IsV (.bool false),IsV (.bool false),IsV (.bool true),IsV (.bool true),IsV ((aP b0_ x0_ y0_ d0_ z0_ w0_)),IsV ((aP b1_ x1_ y1_ d1_ z1_ w1_)),IsV ((aP b1 x1 y1 b2 x2 y2)),IsV (.bool false),IsV (.bool false),IsV (.bool false),IsV (undef),IsV (undef),IsV (.bool false),IsV (.bool true),IsV (.bool true),IsV (.bool true),IsV ((aP b0_ x0_ y0_ d0_ z0_ w0_)),IsV ((aP b1_ x1_ y1_ d1_ z1_ w1_)),IsV ((aP b1 x1 y1 b2 x2 y2)),IsV (.int .i64 (zag (crs q0 r0 q1 r1 (q0+(q1 - q0)*q3) (r0+(r1 - r0)*q3)) 0)),IsV (.bool true),IsV (.bool true),IsV (.bool true),IsV ((aP b0_ x0_ y0_ d0_ z0_ w0_)),IsV ((aP b1_ x1_ y1_ d1_ z1_ w1_)),IsV ((aP b1 x1 y1 b2 x2 y2)),IsV (.bool (za8 q0 r0 q1 r1 (q0+(q1 - q0)*q3) (r0+(r1 - r0)*q3))),IsV (.bool false),IsV (.bool true),IsV (.bool true),IsV ((aG b3_ x3_ y3_)),QT 2 ((1:Int)),IsV (.int .i64 (zag q3 (1:Int))),IsV (.bool (decide (0<zag q3 (1:Int)))),IsV (.bool (decide (0<zag q3 (1:Int)))),IsV (.bool true),IsV (.bool true),IsV (.bool true),IsV (.bool true),IsV (.bool true)] S ?_ ?_
       ·refine sc (fun _ _ S _ _=>sv rfl (zau rfl (S.at 6 rfl) (S.bx 0 rfl) rfl)) ?_
        refine sc (fun _ _ S _ _=>sv rfl (zau rfl (S.at 5 rfl) (S.bx 1 rfl) rfl)) ?_
        refine sc (fun _ _ S _ _=>sv rfl (zau rfl (S.at 3 rfl) (S.bx 4 rfl) rfl)) ?_
        refine sc (fun _ _ S _ hd=>sl rfl (rc3 Tryz.func15 (hd.v 0 rfl rfl) (hd.v 1 rfl rfl) (hd.v 2 rfl rfl)) (zbn (zfo (T.keep S.below) (hP0 S.below) (hP1 S.below) (hPq (S.num 3 rfl) (S.num 2 rfl) (S.num 1 rfl) (S.num 0 rfl)) (by omega) (by omega) (by omega) (by assumption) (by assumption) (by assumption) (by assumption)) (fun _ _ h=>h.trans (congrArg Value.bool (show(onR q0 r0 q1 r1 (q0+(q1 - q0)*q3) (r0+(r1 - r0)*q3))=false from((zk5 hal).trans hin)))))) ?_
        refine sc (fun _ _ S _ _=>sv rfl (zao (c:=false) (zab rfl (S.at 2 rfl)) hin)) ?_
        refine sc (fun _ _ _ _ hd=>sv rfl (zab rfl (hd.v 4 rfl rfl))) ?_
        refine sc (fun _ _ S _ hd=>svg rfl (hd.v 5 rfl rfl) (zao (c:=false) (zab rfl (S.at 1 rfl)) hal)) ?_
        refine sc (fun _ _ _ _ hd=>sv rfl (zan false rfl (hd.v 5 rfl rfl) (hd.v 6 rfl rfl))) ?_
        refine sc (fun _ _ _ _ hd=>sv rfl (zao (c:=true) (zby rfl (hd.v 3 rfl rfl) (hd.v 7 rfl rfl)) rfl)) ?_
        refine sc (fun _ _ _ _ hd=>sv rfl (zab rfl (hd.v 8 rfl rfl))) ?_
        refine sc (fun _ _ S _ hd=>svg rfl (hd.v 9 rfl rfl) (zau rfl (S.at 6 rfl) (S.bx 0 rfl) rfl)) ?_
        refine sc (fun _ _ S _ hd=>svg rfl (hd.v 9 rfl rfl) (zau rfl (S.at 5 rfl) (S.bx 1 rfl) rfl)) ?_
        refine sc (fun _ _ S _ hd=>svg rfl (hd.v 9 rfl rfl) (zau rfl (S.at 3 rfl) (S.bx 4 rfl) rfl)) ?_
        refine sc (fun _ _ S _ hd=>slg rfl (hd.v 9 rfl rfl) (rc3 Tryz.func17 (hd.v 10 rfl rfl) (hd.v 11 rfl rfl) (hd.v 12 rfl rfl)) (zbn (zcR (T.keep S.below) (hP0 S.below) (hP1 S.below) (hPq (S.num 3 rfl) (S.num 2 rfl) (S.num 1 rfl) (S.num 0 rfl)) (by omega) (by omega) (by omega) (by assumption) (by assumption) (by assumption) (by assumption)) (fun _ _ h=>h.trans (congrArg Value.bool (show(zbF q0 r0 q1 r1 (q0+(q1 - q0)*q3) (r0+(r1 - r0)*q3))=false from((zeY hal).trans hinn)))))) ?_
        refine sc (fun _ _ S _ hd=>svg rfl (hd.v 9 rfl rfl) (zao (c:=false) (zab rfl (S.at 0 rfl)) hinn)) ?_
        refine sc (fun _ _ _ _ hd=>svg rfl (hd.v 9 rfl rfl) (zab rfl (hd.v 14 rfl rfl))) ?_
        refine sc (fun _ _ _ _ hd=>sk rfl (hd.v 15 rfl rfl)) ?_
        refine sc (fun _ _ _ _ hd=>sk rfl (hd.v 15 rfl rfl)) ?_
        refine sc (fun _ _ _ _ hd=>svg rfl (hd.v 9 rfl rfl) (zan false rfl (hd.v 15 rfl rfl) rfl)) ?_
        refine sc (fun _ _ _ _ hd=>svg rfl (hd.v 9 rfl rfl) (zao (c:=true) (zby rfl (hd.v 13 rfl rfl) (hd.v 18 rfl rfl)) rfl)) ?_
        refine sc (fun _ _ _ _ hd=>sv rfl (zan true rfl (hd.v 9 rfl rfl) (hd.v 19 rfl rfl))) ?_
        refine sc (fun _ _ _ _ hd=>sv rfl (zab rfl (hd.v 20 rfl rfl))) ?_
        refine sc (fun _ _ S _ hd=>svg rfl (hd.v 21 rfl rfl) (zau rfl (S.at 6 rfl) (S.bx 0 rfl) rfl)) ?_
        refine sc (fun _ _ S _ hd=>svg rfl (hd.v 21 rfl rfl) (zau rfl (S.at 5 rfl) (S.bx 1 rfl) rfl)) ?_
        refine sc (fun _ _ S _ hd=>svg rfl (hd.v 21 rfl rfl) (zau rfl (S.at 3 rfl) (S.bx 4 rfl) rfl)) ?_
        refine sc (fun _ _ S _ hd=>slg rfl (hd.v 21 rfl rfl) (rc3 Tryz.func10 (hd.v 22 rfl rfl) (hd.v 23 rfl rfl) (hd.v 24 rfl rfl)) (zce (T.keep S.below) (hP0 S.below) (hP1 S.below) (hPq (S.num 3 rfl) (S.num 2 rfl) (S.num 1 rfl) (S.num 0 rfl)) (by omega) (by omega) (by omega) (by assumption) (by assumption) (by assumption) (by assumption))) ?_
        refine sc (fun _ _ _ _ hd=>svg rfl (hd.v 21 rfl rfl) (zao (c:=true) (zbr _ (by decide) rfl (hd.v 25 rfl rfl) rfl) zez)) ?_
        refine sc (fun _ _ _ _ hd=>sv rfl (zan true rfl (hd.v 21 rfl rfl) (hd.v 26 rfl rfl))) ?_
        refine sc (fun _ _ _ _ hd=>sv rfl (zab rfl (hd.v 27 rfl rfl))) ?_
        refine sc (fun _ _ S _ hd=>svg rfl (hd.v 28 rfl rfl) (zau rfl (S.at 6 rfl) (S.bx 0 rfl) rfl)) ?_
        refine sc (fun _ _ S _ hd=>svg rfl (hd.v 28 rfl rfl) (zau rfl (S.at 5 rfl) (S.bx 1 rfl) rfl)) ?_
        refine sc (fun _ _ S _ hd=>svg rfl (hd.v 28 rfl rfl) (zau rfl (S.at 3 rfl) (S.bx 4 rfl) rfl)) ?_
        refine sc (fun _ _ S _ hd=>slg rfl (hd.v 28 rfl rfl) (rc3 Tryz.func19 (hd.v 29 rfl rfl) (hd.v 30 rfl rfl) (hd.v 31 rfl rfl)) (zcm (T.keep S.below) (hP0 S.below) (hP1 S.below) (hPq (S.num 3 rfl) (S.num 2 rfl) (S.num 1 rfl) (S.num 0 rfl)) (by omega) (by omega) (by omega) (by assumption) (by assumption) (by assumption) (by assumption))) ?_
        refine sc (fun _ _ S _ hd=>svg rfl (hd.v 28 rfl rfl) (zao (c:=false) (zab rfl (S.at 1 rfl)) hal)) ?_
        refine sc (fun _ _ _ _ hd=>svg rfl (hd.v 28 rfl rfl) (zb8 (b:=false) rfl (hd.v 33 rfl rfl))) ?_
        refine sc (fun _ _ _ _ hd=>svg rfl (hd.v 28 rfl rfl) (zab rfl (hd.v 34 rfl rfl))) ?_
        refine sc (fun _ _ S _ hd=>svg rfl (hd.v 35 rfl rfl) (zcU rfl (S.at 4 rfl) (S.bx 3 rfl) rfl)) ?_
        refine sc (fun _ _ _ _ hd=>slg rfl (hd.v 35 rfl rfl) (rcc Tryz.func32) (zhl (n:=1) (by decide))) ?_
        refine sc (fun _ _ S _ hd=>slg rfl (hd.v 35 rfl rfl) (rc2 Tryz.func31 (hd.v 36 rfl rfl) rfl) (zfZ (hP3 S.below) ((hd.r 37 rfl rfl)).any (by decide) (by decide))) ?_
        refine sc (fun _ _ _ _ hd=>svg rfl (hd.v 35 rfl rfl) (zbT rfl (hd.v 38 rfl rfl) rfl)) ?_
        refine sc (fun _ _ _ _ hd=>svg rfl (hd.v 28 rfl rfl) (zan true rfl (hd.v 35 rfl rfl) (hd.v 39 rfl rfl))) ?_
        refine sc (fun _ _ _ _ hd=>svg rfl (hd.v 28 rfl rfl) (zao (c:=true) (zby rfl (hd.v 32 rfl rfl) (hd.v 40 rfl rfl)) (zeg hal))) ?_
        refine sc (fun _ _ _ _ hd=>sv rfl (zan true rfl (hd.v 28 rfl rfl) (hd.v 41 rfl rfl))) ?_
        refine sc (fun _ _ _ _ hd=>sv rfl (zab rfl (hd.v 42 rfl rfl))) ?_
        refine sc (fun _ _ S _ hd=>slg rfl (hd.v 43 rfl rfl) (rc0 Tryz.func9) (zdm (T.keep S.below))) ?_
        refine sc (fun _ _ _ _ hd=>sv rfl (zan true rfl (hd.v 43 rfl rfl) (hd.v 44 rfl rfl))) ?_
        exact sn
       ·intro a9 V22 S hB hf
        have S:=S.add (hf.v 45 rfl rfl)
        clear hf S0
        show wpList _ _ _ [_] _ _
        refine tv S (zak rfl (S.at 0 rfl)) fun a S=>?_
        refine hK10 _ _ ?_
        refine wp_ret ?_
        exact zaD rfl S (S.at 0 rfl) ⟨_,rfl,rfl,S.below⟩
   rcases ztT (decide (0<zag q3 0))with hs3_|hs3_
   ·skip
    obtain⟨W7,hW7⟩:∃W,W=V15:=⟨_,rfl⟩
    rw[←hW7]at S ⊢
    have S0:=S
    refine fr 9 [93,94,95,96,97,98,99,100,101] [IsV ((aG b3_ x3_ y3_)),IsV (.int .i64 (zag q3 0)),IsV (.bool true),IsV (.bool true),IsV ((aG b3_ x3_ y3_)),QT 2 ((1:Int)),IsV (.int .i64 (zag q3 (1:Int))),IsV (.bool (decide (zag q3 (1:Int)<0))),IsV (.bool (decide (zag q3 (1:Int)<0)))] S ?_ ?_
    ·refine sc (fun _ _ S _ _=>sv rfl (zcU rfl (S.at 3 rfl) (S.bx 3 rfl) rfl)) ?_
     refine sc (fun _ _ S _ hd=>sl rfl (rc1 Tryz.func30 (hd.v 0 rfl rfl)) (zgQ (hP3 S.below))) ?_
     refine sc (fun _ _ _ _ hd=>sv rfl (zao (c:=true) (zbT rfl (hd.v 1 rfl rfl) rfl) hs3_)) ?_
     refine sc (fun _ _ _ _ hd=>sv rfl (zab rfl (hd.v 2 rfl rfl))) ?_
     refine sc (fun _ _ S _ hd=>svg rfl (hd.v 3 rfl rfl) (zcU rfl (S.at 3 rfl) (S.bx 3 rfl) rfl)) ?_
     refine sc (fun _ _ _ _ hd=>slg rfl (hd.v 3 rfl rfl) (rcc Tryz.func32) (zhl (n:=1) (by decide))) ?_
     refine sc (fun _ _ S _ hd=>slg rfl (hd.v 3 rfl rfl) (rc2 Tryz.func31 (hd.v 4 rfl rfl) rfl) (zfZ (hP3 S.below) ((hd.r 5 rfl rfl)).any (by decide) (by decide))) ?_
     refine sc (fun _ _ _ _ hd=>svg rfl (hd.v 3 rfl rfl) (zdr rfl (hd.v 6 rfl rfl) rfl)) ?_
     refine sc (fun _ _ _ _ hd=>sv rfl (zan true rfl (hd.v 3 rfl rfl) (hd.v 7 rfl rfl))) ?_
     exact sn
    ·intro a10 V23 S hB hf
     have S:=S.add (hf.v 8 rfl rfl)
     clear hf S0
     show wpList _ _ _ [_] _ _
     refine tv S (zao (zak rfl (S.at 0 rfl)) (show(decide (zag q3 (1:Int)<0))=zf7 q3 from(zsk hs3_))) fun a S=>?_
     have S:=S.sel [0,2,3,4,5,6,7] rfl
     have S:=S.seln [0,1,2,3,4,5,6,7,8,9,10,11,12,13,14,15,16,17] rfl
     have S:=S.reorder [0,1,2,3,4] rfl (by decide)
     exact hJ3 _ _ S
   ·skip
    obtain⟨W8,hW8⟩:∃W,W=V15:=⟨_,rfl⟩
    rw[←hW8]at S ⊢
    have S0:=S
    refine fr 9 [93,94,95,96,97,98,99,100,101] [IsV ((aG b3_ x3_ y3_)),IsV (.int .i64 (zag q3 0)),IsV (.bool false),IsV (.bool false),IsV (undef),IsV (undef),IsV (undef),IsV (undef),IsV (.bool false)] S ?_ ?_
    ·refine sc (fun _ _ S _ _=>sv rfl (zcU rfl (S.at 3 rfl) (S.bx 3 rfl) rfl)) ?_
     refine sc (fun _ _ S _ hd=>sl rfl (rc1 Tryz.func30 (hd.v 0 rfl rfl)) (zgQ (hP3 S.below))) ?_
     refine sc (fun _ _ _ _ hd=>sv rfl (zao (c:=false) (zbT rfl (hd.v 1 rfl rfl) rfl) hs3_)) ?_
     refine sc (fun _ _ _ _ hd=>sv rfl (zab rfl (hd.v 2 rfl rfl))) ?_
     refine sc (fun _ _ _ _ hd=>sk rfl (hd.v 3 rfl rfl)) ?_
     refine sc (fun _ _ _ _ hd=>sk rfl (hd.v 3 rfl rfl)) ?_
     refine sc (fun _ _ _ _ hd=>sk rfl (hd.v 3 rfl rfl)) ?_
     refine sc (fun _ _ _ _ hd=>sk rfl (hd.v 3 rfl rfl)) ?_
     refine sc (fun _ _ _ _ hd=>sv rfl (zan false rfl (hd.v 3 rfl rfl) rfl)) ?_
     exact sn
    ·intro a11 V24 S hB hf
     have S:=S.add (hf.v 8 rfl rfl)
     clear hf S0
     show wpList _ _ _ [_] _ _
     refine tv S (zao (zak rfl (S.at 0 rfl)) (show(false)=zf7 q3 from(zsl hs3_))) fun a S=>?_
     have S:=S.sel [0,2,3,4,5,6,7] rfl
     have S:=S.seln [0,1,2,3,4,5,6,7,8,9,10,11,12,13,14,15,16,17] rfl
     have S:=S.reorder [0,1,2,3,4] rfl (by decide)
     exact hJ3 _ _ S
  rcases ztT (decide (0≤zag q3 0))with hs2_|hs2_
  ·skip
   obtain⟨W9,hW9⟩:∃W,W=V13:=⟨_,rfl⟩
   rw[←hW9]at S ⊢
   have S0:=S
   refine fr 9 [81,82,83,84,85,86,87,88,89] [IsV ((aG b3_ x3_ y3_)),IsV (.int .i64 (zag q3 0)),IsV (.bool true),IsV (.bool true),IsV ((aG b3_ x3_ y3_)),QT 2 ((1:Int)),IsV (.int .i64 (zag q3 (1:Int))),IsV (.bool (decide (zag q3 (1:Int)≤0))),IsV (.bool (decide (zag q3 (1:Int)≤0)))] S ?_ ?_
   ·refine sc (fun _ _ S _ _=>sv rfl (zcU rfl (S.at 1 rfl) (S.bx 3 rfl) rfl)) ?_
    refine sc (fun _ _ S _ hd=>sl rfl (rc1 Tryz.func30 (hd.v 0 rfl rfl)) (zgQ (hP3 S.below))) ?_
    refine sc (fun _ _ _ _ hd=>sv rfl (zao (c:=true) (zkW rfl (hd.v 1 rfl rfl) rfl) hs2_)) ?_
    refine sc (fun _ _ _ _ hd=>sv rfl (zab rfl (hd.v 2 rfl rfl))) ?_
    refine sc (fun _ _ S _ hd=>svg rfl (hd.v 3 rfl rfl) (zcU rfl (S.at 1 rfl) (S.bx 3 rfl) rfl)) ?_
    refine sc (fun _ _ _ _ hd=>slg rfl (hd.v 3 rfl rfl) (rcc Tryz.func32) (zhl (n:=1) (by decide))) ?_
    refine sc (fun _ _ S _ hd=>slg rfl (hd.v 3 rfl rfl) (rc2 Tryz.func31 (hd.v 4 rfl rfl) rfl) (zfZ (hP3 S.below) ((hd.r 5 rfl rfl)).any (by decide) (by decide))) ?_
    refine sc (fun _ _ _ _ hd=>svg rfl (hd.v 3 rfl rfl) (zo0 rfl (hd.v 6 rfl rfl) rfl)) ?_
    refine sc (fun _ _ _ _ hd=>sv rfl (zan true rfl (hd.v 3 rfl rfl) (hd.v 7 rfl rfl))) ?_
    exact sn
   ·intro a12 V25 S hB hf
    have S:=S.add (hf.v 8 rfl rfl)
    clear hf S0
    show wpList _ _ _ [_] _ _
    refine tv S (zao (zak rfl (S.at 0 rfl)) (show(decide (zag q3 (1:Int)≤0))=inB q3 from(ztg hs2_))) fun a S=>?_
    have S:=S.sel [0,2,3,4,5] rfl
    have S:=S.seln [0,1,2,3,4,5,6,7,8,9,10,11,12,13,14,15,16,17] rfl
    have S:=S.reorder [0,1,2,3,4] rfl (by decide)
    exact hJ2 _ _ S
  ·skip
   obtain⟨W10,hW10⟩:∃W,W=V13:=⟨_,rfl⟩
   rw[←hW10]at S ⊢
   have S0:=S
   refine fr 9 [81,82,83,84,85,86,87,88,89] [IsV ((aG b3_ x3_ y3_)),IsV (.int .i64 (zag q3 0)),IsV (.bool false),IsV (.bool false),IsV (undef),IsV (undef),IsV (undef),IsV (undef),IsV (.bool false)] S ?_ ?_
   ·refine sc (fun _ _ S _ _=>sv rfl (zcU rfl (S.at 1 rfl) (S.bx 3 rfl) rfl)) ?_
    refine sc (fun _ _ S _ hd=>sl rfl (rc1 Tryz.func30 (hd.v 0 rfl rfl)) (zgQ (hP3 S.below))) ?_
    refine sc (fun _ _ _ _ hd=>sv rfl (zao (c:=false) (zkW rfl (hd.v 1 rfl rfl) rfl) hs2_)) ?_
    refine sc (fun _ _ _ _ hd=>sv rfl (zab rfl (hd.v 2 rfl rfl))) ?_
    refine sc (fun _ _ _ _ hd=>sk rfl (hd.v 3 rfl rfl)) ?_
    refine sc (fun _ _ _ _ hd=>sk rfl (hd.v 3 rfl rfl)) ?_
    refine sc (fun _ _ _ _ hd=>sk rfl (hd.v 3 rfl rfl)) ?_
    refine sc (fun _ _ _ _ hd=>sk rfl (hd.v 3 rfl rfl)) ?_
    refine sc (fun _ _ _ _ hd=>sv rfl (zan false rfl (hd.v 3 rfl rfl) rfl)) ?_
    exact sn
   ·intro a13 V26 S hB hf
    have S:=S.add (hf.v 8 rfl rfl)
    clear hf S0
    show wpList _ _ _ [_] _ _
    refine tv S (zao (zak rfl (S.at 0 rfl)) (show(false)=inB q3 from(zth hs2_))) fun a S=>?_
    have S:=S.sel [0,2,3,4,5] rfl
    have S:=S.seln [0,1,2,3,4,5,6,7,8,9,10,11,12,13,14,15,16,17] rfl
    have S:=S.reorder [0,1,2,3,4] rfl (by decide)
    exact hJ2 _ _ S
 refine wp_seq_k fun K11 hK11=>?_
 rcases ztT (onR q0 r0 q1 r1 q2 r2)with hs1_|hs1_
 ·skip
  obtain⟨W11,hW11⟩:∃W,W=V9:=⟨_,rfl⟩
  rw[←hW11]at S ⊢
  have S0:=S
  refine fr 48 [29,30,31,32,33,34,35,36,37,38,39,40,41,42,43,44,45,46,47,48,49,50,51,52,53,54,55,56,57,58,59,60,61,62,63,64,65,66,67,68,69,70,71,72,73,74,75,76] [IsV ((aP b1_ x1_ y1_ d1_ z1_ w1_)),IsV ((aP b0_ x0_ y0_ d0_ z0_ w0_)),IsV ((aP b2_ x2_ y2_ d2_ z2_ w2_)),IsV (.bool (onR q1 r1 q0 r0 q2 r2)),IsV (.bool (onR q0 r0 q1 r1 q2 r2)),IsV (.bool false),IsV (.bool false),IsV (.bool true),IsV (.bool true),IsV ((aP b0_ x0_ y0_ d0_ z0_ w0_)),IsV ((aP b2_ x2_ y2_ d2_ z2_ w2_)),QT 349 (absR (q0 - q2)+absR (r0 - r2)),IsV ((aP b2_ x2_ y2_ d2_ z2_ w2_)),IsV ((aP b1_ x1_ y1_ d1_ z1_ w1_)),QT 349 (absR (q2 - q1)+absR (r2 - r1)),QL 349 6 ([absR (q0 - q2)+absR (r0 - r2),absR (q2 - q1)+absR (r2 - r1)]),QT 349 ((absR (q0 - q2)+absR (r0 - r2))+(absR (q2 - q1)+absR (r2 - r1))),IsV ((aP b0_ x0_ y0_ d0_ z0_ w0_)),IsV ((aP b1_ x1_ y1_ d1_ z1_ w1_)),QT 349 (absR (q0 - q1)+absR (r0 - r1)),IsV (.bool true),IsV (.bool false),IsV (.bool false),IsV (.bool false),IsV (.bool false),IsV ((aP b0_ x0_ y0_ d0_ z0_ w0_)),IsV ((aP b1_ x1_ y1_ d1_ z1_ w1_)),IsV ((aP b0_ x0_ y0_ d0_ z0_ w0_)),IsV (.bool true),IsV (.bool false),IsV (.bool false),IsV (.bool false),IsV ((aP b0_ x0_ y0_ d0_ z0_ w0_)),IsV ((aP b1_ x1_ y1_ d1_ z1_ w1_)),IsV ((aP b1_ x1_ y1_ d1_ z1_ w1_)),IsV (.bool true),IsV (.bool false),IsV (.bool false),IsV (.bool false),IsV (.bool true),IsV (.bool true),IsV ((aP b0_ x0_ y0_ d0_ z0_ w0_)),IsV ((aP b1_ x1_ y1_ d1_ z1_ w1_)),IsV ((aP b2_ x2_ y2_ d2_ z2_ w2_)),IsV (.int .i64 (zag (crs q0 r0 q1 r1 q2 r2) 0)),IsV (.bool false),IsV (.bool false),IsV (.bool false)] S ?_ ?_
  ·refine sc (fun _ _ S _ _=>sv rfl (zau rfl (S.at 3 rfl) (S.bx 1 rfl) rfl)) ?_
   refine sc (fun _ _ S _ _=>sv rfl (zau rfl (S.at 4 rfl) (S.bx 0 rfl) rfl)) ?_
   refine sc (fun _ _ S _ _=>sv rfl (zau rfl (S.at 2 rfl) (S.bx 2 rfl) rfl)) ?_
   refine sc (fun _ _ S _ hd=>sl rfl (rc3 Tryz.func15 (hd.v 0 rfl rfl) (hd.v 1 rfl rfl) (hd.v 2 rfl rfl)) (zfo (T.keep S.below) (hP1 S.below) (hP0 S.below) (hP2 S.below) (by omega) (by omega) (by omega) (by assumption) (by assumption) (by assumption) (by assumption))) ?_
   refine sc (fun _ _ S _ _=>sv rfl (zab rfl (S.at 0 rfl))) ?_
   refine sc (fun _ _ _ _ hd=>sv rfl (zao (c:=false) (ziC rfl (hd.v 3 rfl rfl) (hd.v 4 rfl rfl)) zlQ)) ?_
   refine sc (fun _ _ _ _ hd=>sv rfl (zab rfl (hd.v 5 rfl rfl))) ?_
   refine sc (fun _ _ S _ hd=>svg rfl (hd.v 6 rfl rfl) (zao (c:=true) (zab rfl (S.at 0 rfl)) hs1_)) ?_
   refine sc (fun _ _ _ _ hd=>svg rfl (hd.v 6 rfl rfl) (zab rfl (hd.v 7 rfl rfl))) ?_
   refine sc (fun _ _ S _ hd=>svg rfl (hd.v 8 rfl rfl) (zau rfl (S.at 4 rfl) (S.bx 0 rfl) rfl)) ?_
   refine sc (fun _ _ S _ hd=>svg rfl (hd.v 8 rfl rfl) (zau rfl (S.at 2 rfl) (S.bx 2 rfl) rfl)) ?_
   refine sc (fun _ _ S _ hd=>slg rfl (hd.v 8 rfl rfl) (rc2 Tryz.func28 (hd.v 9 rfl rfl) (hd.v 10 rfl rfl)) (zpS (((hP0 S.below)).to rfl rfl (by decide)) (((hP2 S.below)).to rfl rfl (by decide)) (by assumption) (by assumption) (by assumption))) ?_
   refine sc (fun _ _ S _ hd=>svg rfl (hd.v 8 rfl rfl) (zau rfl (S.at 2 rfl) (S.bx 2 rfl) rfl)) ?_
   refine sc (fun _ _ S _ hd=>svg rfl (hd.v 8 rfl rfl) (zau rfl (S.at 3 rfl) (S.bx 1 rfl) rfl)) ?_
   refine sc (fun _ _ S _ hd=>slg rfl (hd.v 8 rfl rfl) (rc2 Tryz.func28 (hd.v 12 rfl rfl) (hd.v 13 rfl rfl)) (zpS (((hP2 S.below)).to rfl rfl (by decide)) (((hP1 S.below)).to rfl rfl (by decide)) (by assumption) (by assumption) (by assumption))) ?_
   refine sc (fun _ _ _ _ hd=>syg rfl (hd.v 8 rfl rfl) (zcy rfl rfl rfl ((hd.r 11 rfl rfl)).any ((hd.r 14 rfl rfl)).any)) ?_
   refine sc (fun _ _ _ _ hd=>slg rfl (hd.v 8 rfl rfl) (rc1 Tryz.func27 rfl) (zgN ((hd.r 15 rfl rfl)).row (by decide) (by assumption))) ?_
   refine sc (fun _ _ S _ hd=>svg rfl (hd.v 8 rfl rfl) (zau rfl (S.at 4 rfl) (S.bx 0 rfl) rfl)) ?_
   refine sc (fun _ _ S _ hd=>svg rfl (hd.v 8 rfl rfl) (zau rfl (S.at 3 rfl) (S.bx 1 rfl) rfl)) ?_
   refine sc (fun _ _ S _ hd=>slg rfl (hd.v 8 rfl rfl) (rc2 Tryz.func28 (hd.v 17 rfl rfl) (hd.v 18 rfl rfl)) (zpS (((hP0 S.below)).to rfl rfl (by decide)) (((hP1 S.below)).to rfl rfl (by decide)) (by assumption) (by assumption) (by assumption))) ?_
   refine sc (fun _ _ _ _ hd=>slg rfl (hd.v 8 rfl rfl) (rc2 Tryz.func26 rfl rfl) (zbn (zrU ((hd.r 16 rfl rfl)).any ((hd.r 19 rfl rfl)).any (by decide) (by decide)) (fun _ _ h=>h.trans (congrArg Value.bool (show(decide (zag ((absR (q0 - q2)+absR (r0 - r2))+(absR (q2 - q1)+absR (r2 - r1))) (absR (q0 - q1)+absR (r0 - r1))=0))=true from(zsj hs1_)))))) ?_
   refine sc (fun _ _ _ _ hd=>svg rfl (hd.v 8 rfl rfl) (zb8 (b:=true) rfl (hd.v 20 rfl rfl))) ?_
   refine sc (fun _ _ _ _ hd=>svg rfl (hd.v 6 rfl rfl) (zan true rfl (hd.v 8 rfl rfl) (hd.v 21 rfl rfl))) ?_
   refine sc (fun _ _ _ _ hd=>sv rfl (zan false rfl (hd.v 6 rfl rfl) (hd.v 22 rfl rfl))) ?_
   refine sc (fun _ _ _ _ hd=>sv rfl (zab rfl (hd.v 23 rfl rfl))) ?_
   refine sc (fun _ _ S _ hd=>svg rfl (hd.v 24 rfl rfl) (zau rfl (S.at 4 rfl) (S.bx 0 rfl) rfl)) ?_
   refine sc (fun _ _ S _ hd=>svg rfl (hd.v 24 rfl rfl) (zau rfl (S.at 3 rfl) (S.bx 1 rfl) rfl)) ?_
   refine sc (fun _ _ S _ hd=>svg rfl (hd.v 24 rfl rfl) (zau rfl (S.at 4 rfl) (S.bx 0 rfl) rfl)) ?_
   refine sc (fun _ _ S _ hd=>slg rfl (hd.v 24 rfl rfl) (rc3 Tryz.func15 (hd.v 25 rfl rfl) (hd.v 26 rfl rfl) (hd.v 27 rfl rfl)) (zbn (zfo (T.keep S.below) (hP0 S.below) (hP1 S.below) (hP0 S.below) (by omega) (by omega) (by omega) (by assumption) (by assumption) (by assumption) (by assumption)) (fun _ _ h=>h.trans (congrArg Value.bool (show(onR q0 r0 q1 r1 q0 r0)=true from zsh))))) ?_
   refine sc (fun _ _ _ _ hd=>svg rfl (hd.v 24 rfl rfl) (zb8 (b:=true) rfl (hd.v 28 rfl rfl))) ?_
   refine sc (fun _ _ _ _ hd=>sv rfl (zan false rfl (hd.v 24 rfl rfl) (hd.v 29 rfl rfl))) ?_
   refine sc (fun _ _ _ _ hd=>sv rfl (zab rfl (hd.v 30 rfl rfl))) ?_
   refine sc (fun _ _ S _ hd=>svg rfl (hd.v 31 rfl rfl) (zau rfl (S.at 4 rfl) (S.bx 0 rfl) rfl)) ?_
   refine sc (fun _ _ S _ hd=>svg rfl (hd.v 31 rfl rfl) (zau rfl (S.at 3 rfl) (S.bx 1 rfl) rfl)) ?_
   refine sc (fun _ _ S _ hd=>svg rfl (hd.v 31 rfl rfl) (zau rfl (S.at 3 rfl) (S.bx 1 rfl) rfl)) ?_
   refine sc (fun _ _ S _ hd=>slg rfl (hd.v 31 rfl rfl) (rc3 Tryz.func15 (hd.v 32 rfl rfl) (hd.v 33 rfl rfl) (hd.v 34 rfl rfl)) (zbn (zfo (T.keep S.below) (hP0 S.below) (hP1 S.below) (hP1 S.below) (by omega) (by omega) (by omega) (by assumption) (by assumption) (by assumption) (by assumption)) (fun _ _ h=>h.trans (congrArg Value.bool (show(onR q0 r0 q1 r1 q1 r1)=true from ztf))))) ?_
   refine sc (fun _ _ _ _ hd=>svg rfl (hd.v 31 rfl rfl) (zb8 (b:=true) rfl (hd.v 35 rfl rfl))) ?_
   refine sc (fun _ _ _ _ hd=>sv rfl (zan false rfl (hd.v 31 rfl rfl) (hd.v 36 rfl rfl))) ?_
   refine sc (fun _ _ _ _ hd=>sv rfl (zab rfl (hd.v 37 rfl rfl))) ?_
   refine sc (fun _ _ S _ hd=>svg rfl (hd.v 38 rfl rfl) (zao (c:=true) (zab rfl (S.at 0 rfl)) hs1_)) ?_
   refine sc (fun _ _ _ _ hd=>svg rfl (hd.v 38 rfl rfl) (zab rfl (hd.v 39 rfl rfl))) ?_
   refine sc (fun _ _ S _ hd=>svg rfl (hd.v 40 rfl rfl) (zau rfl (S.at 4 rfl) (S.bx 0 rfl) rfl)) ?_
   refine sc (fun _ _ S _ hd=>svg rfl (hd.v 40 rfl rfl) (zau rfl (S.at 3 rfl) (S.bx 1 rfl) rfl)) ?_
   refine sc (fun _ _ S _ hd=>svg rfl (hd.v 40 rfl rfl) (zau rfl (S.at 2 rfl) (S.bx 2 rfl) rfl)) ?_
   refine sc (fun _ _ S _ hd=>slg rfl (hd.v 40 rfl rfl) (rc3 Tryz.func10 (hd.v 41 rfl rfl) (hd.v 42 rfl rfl) (hd.v 43 rfl rfl)) (zce (T.keep S.below) (hP0 S.below) (hP1 S.below) (hP2 S.below) (by omega) (by omega) (by omega) (by assumption) (by assumption) (by assumption) (by assumption))) ?_
   refine sc (fun _ _ _ _ hd=>svg rfl (hd.v 40 rfl rfl) (zao (c:=false) (zfC _ (by decide) rfl (hd.v 44 rfl rfl) rfl) (zqN hs1_))) ?_
   refine sc (fun _ _ _ _ hd=>svg rfl (hd.v 38 rfl rfl) (zan true rfl (hd.v 40 rfl rfl) (hd.v 45 rfl rfl))) ?_
   refine sc (fun _ _ _ _ hd=>sv rfl (zan false rfl (hd.v 38 rfl rfl) (hd.v 46 rfl rfl))) ?_
   exact sn
  ·intro a14 V27 S hB hf
   have S:=S.add (hf.v 47 rfl rfl)
   clear hf S0
   show wpList _ _ _ [] _ _
   refine hK11 _ _ ?_
   refine wp_cond_false (S.at 0 rfl) ?_
   refine wp_skip ?_
   have S:=S.sel [2,4,5] rfl
   have S:=S.seln [0,1,2,3,4,5,6,7,8,9,10,11,12,13] rfl
   have S:=S.reorder [0,1,2,3] rfl (by decide)
   exact hJ1 _ _ S
 ·skip
  obtain⟨W12,hW12⟩:∃W,W=V9:=⟨_,rfl⟩
  rw[←hW12]at S ⊢
  have S0:=S
  refine fr 48 [29,30,31,32,33,34,35,36,37,38,39,40,41,42,43,44,45,46,47,48,49,50,51,52,53,54,55,56,57,58,59,60,61,62,63,64,65,66,67,68,69,70,71,72,73,74,75,76] [IsV ((aP b1_ x1_ y1_ d1_ z1_ w1_)),IsV ((aP b0_ x0_ y0_ d0_ z0_ w0_)),IsV ((aP b2_ x2_ y2_ d2_ z2_ w2_)),IsV (.bool (onR q1 r1 q0 r0 q2 r2)),IsV (.bool (onR q0 r0 q1 r1 q2 r2)),IsV (.bool false),IsV (.bool false),IsV (.bool false),IsV (.bool false),IsV (undef),IsV (undef),IsV (undef),IsV (undef),IsV (undef),IsV (undef),IsV (undef),IsV (undef),IsV (undef),IsV (undef),IsV (undef),IsV (undef),IsV (undef),IsV (.bool false),IsV (.bool false),IsV (.bool false),IsV ((aP b0_ x0_ y0_ d0_ z0_ w0_)),IsV ((aP b1_ x1_ y1_ d1_ z1_ w1_)),IsV ((aP b0_ x0_ y0_ d0_ z0_ w0_)),IsV (.bool true),IsV (.bool false),IsV (.bool false),IsV (.bool false),IsV ((aP b0_ x0_ y0_ d0_ z0_ w0_)),IsV ((aP b1_ x1_ y1_ d1_ z1_ w1_)),IsV ((aP b1_ x1_ y1_ d1_ z1_ w1_)),IsV (.bool true),IsV (.bool false),IsV (.bool false),IsV (.bool false),IsV (.bool false),IsV (.bool false),IsV (undef),IsV (undef),IsV (undef),IsV (undef),IsV (undef),IsV (.bool false),IsV (.bool false)] S ?_ ?_
  ·refine sc (fun _ _ S _ _=>sv rfl (zau rfl (S.at 3 rfl) (S.bx 1 rfl) rfl)) ?_
   refine sc (fun _ _ S _ _=>sv rfl (zau rfl (S.at 4 rfl) (S.bx 0 rfl) rfl)) ?_
   refine sc (fun _ _ S _ _=>sv rfl (zau rfl (S.at 2 rfl) (S.bx 2 rfl) rfl)) ?_
   refine sc (fun _ _ S _ hd=>sl rfl (rc3 Tryz.func15 (hd.v 0 rfl rfl) (hd.v 1 rfl rfl) (hd.v 2 rfl rfl)) (zfo (T.keep S.below) (hP1 S.below) (hP0 S.below) (hP2 S.below) (by omega) (by omega) (by omega) (by assumption) (by assumption) (by assumption) (by assumption))) ?_
   refine sc (fun _ _ S _ _=>sv rfl (zab rfl (S.at 0 rfl))) ?_
   refine sc (fun _ _ _ _ hd=>sv rfl (zao (c:=false) (ziC rfl (hd.v 3 rfl rfl) (hd.v 4 rfl rfl)) zlQ)) ?_
   refine sc (fun _ _ _ _ hd=>sv rfl (zab rfl (hd.v 5 rfl rfl))) ?_
   refine sc (fun _ _ S _ hd=>svg rfl (hd.v 6 rfl rfl) (zao (c:=false) (zab rfl (S.at 0 rfl)) hs1_)) ?_
   refine sc (fun _ _ _ _ hd=>svg rfl (hd.v 6 rfl rfl) (zab rfl (hd.v 7 rfl rfl))) ?_
   refine sc (fun _ _ _ _ hd=>sk rfl (hd.v 8 rfl rfl)) ?_
   refine sc (fun _ _ _ _ hd=>sk rfl (hd.v 8 rfl rfl)) ?_
   refine sc (fun _ _ _ _ hd=>sk rfl (hd.v 8 rfl rfl)) ?_
   refine sc (fun _ _ _ _ hd=>sk rfl (hd.v 8 rfl rfl)) ?_
   refine sc (fun _ _ _ _ hd=>sk rfl (hd.v 8 rfl rfl)) ?_
   refine sc (fun _ _ _ _ hd=>sk rfl (hd.v 8 rfl rfl)) ?_
   refine sc (fun _ _ _ _ hd=>sk rfl (hd.v 8 rfl rfl)) ?_
   refine sc (fun _ _ _ _ hd=>sk rfl (hd.v 8 rfl rfl)) ?_
   refine sc (fun _ _ _ _ hd=>sk rfl (hd.v 8 rfl rfl)) ?_
   refine sc (fun _ _ _ _ hd=>sk rfl (hd.v 8 rfl rfl)) ?_
   refine sc (fun _ _ _ _ hd=>sk rfl (hd.v 8 rfl rfl)) ?_
   refine sc (fun _ _ _ _ hd=>sk rfl (hd.v 8 rfl rfl)) ?_
   refine sc (fun _ _ _ _ hd=>sk rfl (hd.v 8 rfl rfl)) ?_
   refine sc (fun _ _ _ _ hd=>svg rfl (hd.v 6 rfl rfl) (zan false rfl (hd.v 8 rfl rfl) rfl)) ?_
   refine sc (fun _ _ _ _ hd=>sv rfl (zan false rfl (hd.v 6 rfl rfl) (hd.v 22 rfl rfl))) ?_
   refine sc (fun _ _ _ _ hd=>sv rfl (zab rfl (hd.v 23 rfl rfl))) ?_
   refine sc (fun _ _ S _ hd=>svg rfl (hd.v 24 rfl rfl) (zau rfl (S.at 4 rfl) (S.bx 0 rfl) rfl)) ?_
   refine sc (fun _ _ S _ hd=>svg rfl (hd.v 24 rfl rfl) (zau rfl (S.at 3 rfl) (S.bx 1 rfl) rfl)) ?_
   refine sc (fun _ _ S _ hd=>svg rfl (hd.v 24 rfl rfl) (zau rfl (S.at 4 rfl) (S.bx 0 rfl) rfl)) ?_
   refine sc (fun _ _ S _ hd=>slg rfl (hd.v 24 rfl rfl) (rc3 Tryz.func15 (hd.v 25 rfl rfl) (hd.v 26 rfl rfl) (hd.v 27 rfl rfl)) (zbn (zfo (T.keep S.below) (hP0 S.below) (hP1 S.below) (hP0 S.below) (by omega) (by omega) (by omega) (by assumption) (by assumption) (by assumption) (by assumption)) (fun _ _ h=>h.trans (congrArg Value.bool (show(onR q0 r0 q1 r1 q0 r0)=true from zsh))))) ?_
   refine sc (fun _ _ _ _ hd=>svg rfl (hd.v 24 rfl rfl) (zb8 (b:=true) rfl (hd.v 28 rfl rfl))) ?_
   refine sc (fun _ _ _ _ hd=>sv rfl (zan false rfl (hd.v 24 rfl rfl) (hd.v 29 rfl rfl))) ?_
   refine sc (fun _ _ _ _ hd=>sv rfl (zab rfl (hd.v 30 rfl rfl))) ?_
   refine sc (fun _ _ S _ hd=>svg rfl (hd.v 31 rfl rfl) (zau rfl (S.at 4 rfl) (S.bx 0 rfl) rfl)) ?_
   refine sc (fun _ _ S _ hd=>svg rfl (hd.v 31 rfl rfl) (zau rfl (S.at 3 rfl) (S.bx 1 rfl) rfl)) ?_
   refine sc (fun _ _ S _ hd=>svg rfl (hd.v 31 rfl rfl) (zau rfl (S.at 3 rfl) (S.bx 1 rfl) rfl)) ?_
   refine sc (fun _ _ S _ hd=>slg rfl (hd.v 31 rfl rfl) (rc3 Tryz.func15 (hd.v 32 rfl rfl) (hd.v 33 rfl rfl) (hd.v 34 rfl rfl)) (zbn (zfo (T.keep S.below) (hP0 S.below) (hP1 S.below) (hP1 S.below) (by omega) (by omega) (by omega) (by assumption) (by assumption) (by assumption) (by assumption)) (fun _ _ h=>h.trans (congrArg Value.bool (show(onR q0 r0 q1 r1 q1 r1)=true from ztf))))) ?_
   refine sc (fun _ _ _ _ hd=>svg rfl (hd.v 31 rfl rfl) (zb8 (b:=true) rfl (hd.v 35 rfl rfl))) ?_
   refine sc (fun _ _ _ _ hd=>sv rfl (zan false rfl (hd.v 31 rfl rfl) (hd.v 36 rfl rfl))) ?_
   refine sc (fun _ _ _ _ hd=>sv rfl (zab rfl (hd.v 37 rfl rfl))) ?_
   refine sc (fun _ _ S _ hd=>svg rfl (hd.v 38 rfl rfl) (zao (c:=false) (zab rfl (S.at 0 rfl)) hs1_)) ?_
   refine sc (fun _ _ _ _ hd=>svg rfl (hd.v 38 rfl rfl) (zab rfl (hd.v 39 rfl rfl))) ?_
   refine sc (fun _ _ _ _ hd=>sk rfl (hd.v 40 rfl rfl)) ?_
   refine sc (fun _ _ _ _ hd=>sk rfl (hd.v 40 rfl rfl)) ?_
   refine sc (fun _ _ _ _ hd=>sk rfl (hd.v 40 rfl rfl)) ?_
   refine sc (fun _ _ _ _ hd=>sk rfl (hd.v 40 rfl rfl)) ?_
   refine sc (fun _ _ _ _ hd=>sk rfl (hd.v 40 rfl rfl)) ?_
   refine sc (fun _ _ _ _ hd=>svg rfl (hd.v 38 rfl rfl) (zan false rfl (hd.v 40 rfl rfl) rfl)) ?_
   refine sc (fun _ _ _ _ hd=>sv rfl (zan false rfl (hd.v 38 rfl rfl) (hd.v 46 rfl rfl))) ?_
   exact sn
  ·intro a15 V28 S hB hf
   have S:=S.add (hf.v 47 rfl rfl)
   clear hf S0
   show wpList _ _ _ [] _ _
   refine hK11 _ _ ?_
   refine wp_cond_false (S.at 0 rfl) ?_
   refine wp_skip ?_
   have S:=S.sel [2,4,5] rfl
   have S:=S.seln [0,1,2,3,4,5,6,7,8,9,10,11,12,13] rfl
   have S:=S.reorder [0,1,2,3] rfl (by decide)
   exact hJ1 _ _ S
theorem zqO (b0_:Bool)(x0_ y0_:Num)(d0_:Bool)(z0_ w0_:Num)(b1_:Bool)(x1_ y1_:Num)(d1_:Bool)(z1_ w1_:Num)(b2_:Bool)(x2_ y2_:Num)(d2_:Bool)(z2_ w2_:Num)(b3_:Bool)(x3_ y3_:Num){V:World}(T:TT V)(ox0:x0_.ok V V.heap.size)(oy0:y0_.ok V V.heap.size)(oz0:z0_.ok V V.heap.size)(ow0:w0_.ok V V.heap.size)(ox1:x1_.ok V V.heap.size)(oy1:y1_.ok V V.heap.size)(oz1:z1_.ok V V.heap.size)(ow1:w1_.ok V V.heap.size)(ox2:x2_.ok V V.heap.size)(oy2:y2_.ok V V.heap.size)(oz2:z2_.ok V V.heap.size)(ow2:w2_.ok V V.heap.size)(ox3:x3_.ok V V.heap.size)(oy3:y3_.ok V V.heap.size)(hG:zcn [(b0_,x0_,y0_,d0_,z0_,w0_),(b1_,x1_,y1_,d1_,z1_,w1_),(b2_,x2_,y2_,d2_,z2_,w2_)]=true):
  Calls Tryz.prog 5 #[(aP b0_ x0_ y0_ d0_ z0_ w0_),(aP b1_ x1_ y1_ d1_ z1_ w1_),(aP b2_ x2_ y2_ d2_ z2_ w2_),(aG b3_ x3_ y3_)] V (zam V (fun v _=>v= .bool true)):=by
 obtain⟨q0,hqa0⟩:∃q,qOf b0_ x0_.N y0_.N=q:=⟨_,rfl⟩
 obtain⟨r0,hra0⟩:∃q,qOf d0_ z0_.N w0_.N=q:=⟨_,rfl⟩
 obtain⟨q1,hqa1⟩:∃q,qOf b1_ x1_.N y1_.N=q:=⟨_,rfl⟩
 obtain⟨r1,hra1⟩:∃q,qOf d1_ z1_.N w1_.N=q:=⟨_,rfl⟩
 obtain⟨q2,hqa2⟩:∃q,qOf b2_ x2_.N y2_.N=q:=⟨_,rfl⟩
 obtain⟨r2,hra2⟩:∃q,qOf d2_ z2_.N w2_.N=q:=⟨_,rfl⟩
 obtain⟨q3,hqa3⟩:∃q,qOf b3_ x3_.N y3_.N=q:=⟨_,rfl⟩
 refine zaw (e:=[x3_,y3_,x2_,y2_,z2_,w2_,x1_,y1_,z1_,w1_,x0_,y0_,z0_,w0_]) Tryz.func5 rfl Tryz.ntmps5 (ztJ rfl) [(0,(aP b0_ x0_ y0_ d0_ z0_ w0_)),(1,(aP b1_ x1_ y1_ d1_ z1_ w1_)),(2,(aP b2_ x2_ y2_ d2_ z2_ w2_)),(3,(aG b3_ x3_ y3_))] rfl (zaa ox3 (zaa oy3 (zaa ox2 (zaa oy2 (zaa oz2 (zaa ow2 (zaa ox1 (zaa oy1 (zaa oz1 (zaa ow1 (zaa ox0 (zaa oy0 (zaa oz0 (zaa ow0 zaN)))))))))))))) (fun a S=>?_)
 refine wp_seq_k fun K1 hK1=>?_
 refine zac ?_
 refine ti S (cs:=(lP b0_ x0_ y0_ d0_ z0_ w0_)) (zas rfl (S.at 0 rfl) rfl) (fun g1=>[⟨g1,29,(lP b0_ x0_ y0_ d0_ z0_ w0_)⟩]) fun g1 a V1 hgg1 S=>?_
 refine ti S (cs:=(lP b1_ x1_ y1_ d1_ z1_ w1_)) (zas rfl (S.at 2 rfl) rfl) (fun g2=>[⟨g1,29,(lP b0_ x0_ y0_ d0_ z0_ w0_)⟩,⟨g2,29,(lP b1_ x1_ y1_ d1_ z1_ w1_)⟩]) fun g2 a V2 hgg2 S=>?_
 refine ti S (cs:=(lP b2_ x2_ y2_ d2_ z2_ w2_)) (zas rfl (S.at 4 rfl) rfl) (fun g3=>[⟨g1,29,(lP b0_ x0_ y0_ d0_ z0_ w0_)⟩,⟨g2,29,(lP b1_ x1_ y1_ d1_ z1_ w1_)⟩,⟨g3,29,(lP b2_ x2_ y2_ d2_ z2_ w2_)⟩]) fun g3 a V3 hgg3 S=>?_
 refine ti S (cs:=(aL b3_ x3_ y3_)) (zas rfl (S.at 6 rfl) rfl) (fun g4=>[⟨g1,29,(lP b0_ x0_ y0_ d0_ z0_ w0_)⟩,⟨g2,29,(lP b1_ x1_ y1_ d1_ z1_ w1_)⟩,⟨g3,29,(lP b2_ x2_ y2_ d2_ z2_ w2_)⟩,⟨g4,27,(aL b3_ x3_ y3_)⟩]) fun g4 a V4 hgg4 S=>?_
 refine tv S (zaB rfl) fun a S=>?_
 refine hK1 _ _ ?_
 refine wp_seq_k fun K2 hK2=>?_
 refine wp_seq_k fun K3 hK3=>?_
 refine zac ?_
 refine tv S (zau rfl (S.at 4 rfl) (S.bx 0 rfl) rfl) fun a S=>?_
 refine tv S (zau rfl (S.at 4 rfl) (S.bx 1 rfl) rfl) fun a S=>?_
 refine tv S (zau rfl (S.at 4 rfl) (S.bx 2 rfl) rfl) fun a S=>?_
 refine ty S (F:=GP ([(b0_,x0_,y0_,d0_,z0_,w0_),(b1_,x1_,y1_,d1_,z1_,w1_),(b2_,x2_,y2_,d2_,z2_,w2_)])) (zfr rfl (S.at 2 rfl) (S.at 1 rfl) (S.at 0 rfl) (S.num 10 rfl) (S.num 11 rfl) (S.num 12 rfl) (S.num 13 rfl) (S.num 6 rfl) (S.num 7 rfl) (S.num 8 rfl) (S.num 9 rfl) (S.num 2 rfl) (S.num 3 rfl) (S.num 4 rfl) (S.num 5 rfl)) fun v a V5 hF hb S=>?_
 obtain⟨ov1,hov1⟩:∃z,z=v:=⟨_,rfl⟩
 rw[←hov1]at hF S
 have rov1:=hF
 refine tc S (F:=(fun v _=>v= .bool true)) (rc1 Tryz.func7 (S.at 0 rfl)) (zgX rov1 hG) fun v a V6 hF hb S=>?_
 replace rov1:=rov1.keep hb
 subst hF
 refine tv S (zab rfl (S.at 0 rfl)) fun a S=>?_
 refine tk S (S.at 0 rfl) fun a S=>?_
 refine tk S (S.at 1 rfl) fun a S=>?_
 refine tk S (S.at 2 rfl) fun a S=>?_
 refine tv S (zan true rfl (S.at 3 rfl) rfl) fun a S=>?_
 refine hK3 _ _ ?_
 refine wp_cond_true (S.at 0 rfl) ?_
 refine wp_seq_k fun K4 hK4=>?_
 have S:=S.keep [8] (ls':=[(8,.bool false)]) rfl
 refine zac ?_
 refine tc S (F:=(fun v _=>v= .bool true)) (rc0 Tryz.func9) (zdm (T.keep S.below)) fun v a V7 hF hb S=>?_
 subst hF
 refine za1 S (v:= .bool true) (zak rfl (S.at 0 rfl)) rfl rfl (by decide) (ls':=[(24,.bool true)]) rfl (fun a S=>?_)
 refine hK4 _ _ ?_
 refine wp_ret ?_
 exact zaD rfl S (S.at 0 rfl) ⟨_,rfl,rfl,S.below⟩
theorem zpo (b0_:Bool)(x0_ y0_:Num)(d0_:Bool)(z0_ w0_:Num)(b1_:Bool)(x1_ y1_:Num)(d1_:Bool)(z1_ w1_:Num)(b2_:Bool)(x2_ y2_:Num)(d2_:Bool)(z2_ w2_:Num)(b3_:Bool)(x3_ y3_:Num){V:World}(T:TT V)(ox0:x0_.ok V V.heap.size)(oy0:y0_.ok V V.heap.size)(oz0:z0_.ok V V.heap.size)(ow0:w0_.ok V V.heap.size)(ox1:x1_.ok V V.heap.size)(oy1:y1_.ok V V.heap.size)(oz1:z1_.ok V V.heap.size)(ow1:w1_.ok V V.heap.size)(ox2:x2_.ok V V.heap.size)(oy2:y2_.ok V V.heap.size)(oz2:z2_.ok V V.heap.size)(ow2:w2_.ok V V.heap.size)(ox3:x3_.ok V V.heap.size)(oy3:y3_.ok V V.heap.size)(hG:zcn [(b0_,x0_,y0_,d0_,z0_,w0_),(b1_,x1_,y1_,d1_,z1_,w1_),(b2_,x2_,y2_,d2_,z2_,w2_)]=false)(hG7:zcS [(b3_,x3_,y3_)]=true):
  Calls Tryz.prog 5 #[(aP b0_ x0_ y0_ d0_ z0_ w0_),(aP b1_ x1_ y1_ d1_ z1_ w1_),(aP b2_ x2_ y2_ d2_ z2_ w2_),(aG b3_ x3_ y3_)] V (zam V (fun v _=>v= .bool true)):=by
 obtain⟨q0,hqa0⟩:∃q,qOf b0_ x0_.N y0_.N=q:=⟨_,rfl⟩
 obtain⟨r0,hra0⟩:∃q,qOf d0_ z0_.N w0_.N=q:=⟨_,rfl⟩
 obtain⟨q1,hqa1⟩:∃q,qOf b1_ x1_.N y1_.N=q:=⟨_,rfl⟩
 obtain⟨r1,hra1⟩:∃q,qOf d1_ z1_.N w1_.N=q:=⟨_,rfl⟩
 obtain⟨q2,hqa2⟩:∃q,qOf b2_ x2_.N y2_.N=q:=⟨_,rfl⟩
 obtain⟨r2,hra2⟩:∃q,qOf d2_ z2_.N w2_.N=q:=⟨_,rfl⟩
 obtain⟨q3,hqa3⟩:∃q,qOf b3_ x3_.N y3_.N=q:=⟨_,rfl⟩
 refine zaw (e:=[x3_,y3_,x2_,y2_,z2_,w2_,x1_,y1_,z1_,w1_,x0_,y0_,z0_,w0_]) Tryz.func5 rfl Tryz.ntmps5 (ztJ rfl) [(0,(aP b0_ x0_ y0_ d0_ z0_ w0_)),(1,(aP b1_ x1_ y1_ d1_ z1_ w1_)),(2,(aP b2_ x2_ y2_ d2_ z2_ w2_)),(3,(aG b3_ x3_ y3_))] rfl (zaa ox3 (zaa oy3 (zaa ox2 (zaa oy2 (zaa oz2 (zaa ow2 (zaa ox1 (zaa oy1 (zaa oz1 (zaa ow1 (zaa ox0 (zaa oy0 (zaa oz0 (zaa ow0 zaN)))))))))))))) (fun a S=>?_)
 refine wp_seq_k fun K1 hK1=>?_
 refine zac ?_
 refine ti S (cs:=(lP b0_ x0_ y0_ d0_ z0_ w0_)) (zas rfl (S.at 0 rfl) rfl) (fun g1=>[⟨g1,29,(lP b0_ x0_ y0_ d0_ z0_ w0_)⟩]) fun g1 a V1 hgg1 S=>?_
 refine ti S (cs:=(lP b1_ x1_ y1_ d1_ z1_ w1_)) (zas rfl (S.at 2 rfl) rfl) (fun g2=>[⟨g1,29,(lP b0_ x0_ y0_ d0_ z0_ w0_)⟩,⟨g2,29,(lP b1_ x1_ y1_ d1_ z1_ w1_)⟩]) fun g2 a V2 hgg2 S=>?_
 refine ti S (cs:=(lP b2_ x2_ y2_ d2_ z2_ w2_)) (zas rfl (S.at 4 rfl) rfl) (fun g3=>[⟨g1,29,(lP b0_ x0_ y0_ d0_ z0_ w0_)⟩,⟨g2,29,(lP b1_ x1_ y1_ d1_ z1_ w1_)⟩,⟨g3,29,(lP b2_ x2_ y2_ d2_ z2_ w2_)⟩]) fun g3 a V3 hgg3 S=>?_
 refine ti S (cs:=(aL b3_ x3_ y3_)) (zas rfl (S.at 6 rfl) rfl) (fun g4=>[⟨g1,29,(lP b0_ x0_ y0_ d0_ z0_ w0_)⟩,⟨g2,29,(lP b1_ x1_ y1_ d1_ z1_ w1_)⟩,⟨g3,29,(lP b2_ x2_ y2_ d2_ z2_ w2_)⟩,⟨g4,27,(aL b3_ x3_ y3_)⟩]) fun g4 a V4 hgg4 S=>?_
 refine tv S (zaB rfl) fun a S=>?_
 refine hK1 _ _ ?_
 refine wp_seq_k fun K2 hK2=>?_
 refine wp_seq_k fun K3 hK3=>?_
 refine zac ?_
 refine tv S (zau rfl (S.at 4 rfl) (S.bx 0 rfl) rfl) fun a S=>?_
 refine tv S (zau rfl (S.at 4 rfl) (S.bx 1 rfl) rfl) fun a S=>?_
 refine tv S (zau rfl (S.at 4 rfl) (S.bx 2 rfl) rfl) fun a S=>?_
 refine ty S (F:=GP ([(b0_,x0_,y0_,d0_,z0_,w0_),(b1_,x1_,y1_,d1_,z1_,w1_),(b2_,x2_,y2_,d2_,z2_,w2_)])) (zfr rfl (S.at 2 rfl) (S.at 1 rfl) (S.at 0 rfl) (S.num 10 rfl) (S.num 11 rfl) (S.num 12 rfl) (S.num 13 rfl) (S.num 6 rfl) (S.num 7 rfl) (S.num 8 rfl) (S.num 9 rfl) (S.num 2 rfl) (S.num 3 rfl) (S.num 4 rfl) (S.num 5 rfl)) fun v a V5 hF hb S=>?_
 obtain⟨ov1,hov1⟩:∃z,z=v:=⟨_,rfl⟩
 rw[←hov1]at hF S
 have rov1:=hF
 refine tc S (F:=(fun v _=>v= .bool false)) (rc1 Tryz.func7 (S.at 0 rfl)) (zgX rov1 hG) fun v a V6 hF hb S=>?_
 replace rov1:=rov1.keep hb
 subst hF
 refine tv S (zab rfl (S.at 0 rfl)) fun a S=>?_
 refine tvg S (S.at 0 rfl) (zcU rfl (S.at 7 rfl) (S.bx 3 rfl) rfl) fun a S=>?_
 refine tyg S (S.at 1 rfl) (F:=GL ([(b3_,x3_,y3_)])) (zjR rfl (S.at 0 rfl) (S.num 0 rfl) (S.num 1 rfl)) fun v a V7 hF hb S=>?_
 replace rov1:=rov1.keep hb
 obtain⟨ov2,hov2⟩:∃z,z=v:=⟨_,rfl⟩
 rw[←hov2]at hF S
 have rov2:=hF
 refine tcg S (S.at 2 rfl) (F:=(fun v _=>v= .bool true)) (rc1 Tryz.func8 (S.at 0 rfl)) (zlL rov2 hG7) fun v a V8 hF hb S=>?_
 replace rov2:=rov2.keep hb
 replace rov1:=rov1.keep hb
 subst hF
 refine tv S (zan false rfl (S.at 3 rfl) (S.at 0 rfl)) fun a S=>?_
 refine hK3 _ _ ?_
 refine wp_cond_true (S.at 0 rfl) ?_
 refine wp_seq_k fun K4 hK4=>?_
 have S:=S.keep [8] (ls':=[(8,.bool false)]) rfl
 refine zac ?_
 refine tc S (F:=(fun v _=>v= .bool true)) (rc0 Tryz.func9) (zdm (T.keep S.below)) fun v a V9 hF hb S=>?_
 subst hF
 refine za1 S (v:= .bool true) (zak rfl (S.at 0 rfl)) rfl rfl (by decide) (ls':=[(24,.bool true)]) rfl (fun a S=>?_)
 refine hK4 _ _ ?_
 refine wp_ret ?_
 exact zaD rfl S (S.at 0 rfl) ⟨_,rfl,rfl,S.below⟩
end Go.Proofs.YtdeelcoipmdoiaaGreatDoor
