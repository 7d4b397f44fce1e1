/- A part. -/
import Derived.Test.YtafokgknenienaaGreatDoorGRatL
import Derived.Test.YtafokgknenienaaGreatDoorGPSim
set_option maxHeartbeats 4000000
set_option maxRecDepth 100000
namespace Go.Proofs.YtafokgknenienaaGreatDoor
open Go Go.RowKit
variable {v v' v1 v2:Value}{V V':World}{K K' N M:Nat}{q q' q0 q1 q2 lo hi:Rat}
theorem zsD (h:N1 K N v V)(b:K≤1000000):Calls Tryz.prog 41 #[v] V (zao V fun v _=>v= .int .i64 ((bitsN N:Nat):Int)):=by
 obtain⟨x,rfl,rfl,hx,h1,h2,h3,h4⟩:=h
 exact ztc (zn6 V x.A x.n x.c x.N h1 h2 h3 (by omega))
theorem zfO (h:q1<q2):decide (0≤zaK q1 q2)=false:=by rw[zeH h];rfl
theorem zma (h:q1<q2):decide (zaK q1 q2<0)=true:=by rw[zeH h];rfl
theorem zgT (h: ¬q1<q2):decide (zaK q1 q2<0)=false:=by
 have:=of_decide_eq_true (zcp.2 h)
 exact decide_eq_false (by omega)
theorem zsE (h:decide (zaK q 0<0)=true):q<0:=by
 by_cases hc:q<0
 ·exact hc
 ·rw[zgT hc]at h;cases h
theorem zsF (h:decide (zaK q 0<0)=false)(h0:decide (zaK q 0=0)=false):0<q:=by
 have h1: ¬q<0:=fun hc=>by rw[zma hc]at h;cases h
 have h2:=zum h0
 grind
theorem zqS {s:Nat}(h:lo<q):lo<q+1/2^s:=by
 have:=zdh s
 have h2:(0:Rat)<1/2^s:=by rw[Rat.div_def,Rat.one_mul];exact Rat.inv_pos.2 this
 grind
theorem zqT (b0_:Bool)(x0_ y0_:Num)(b1_:Bool)(x1_ y1_:Num){V:World}(T:TT V)(ox0:x0_.ok V V.heap.size)(oy0:y0_.ok V V.heap.size)(ox1:x1_.ok V V.heap.size)(oy1:y1_.ok V V.heap.size)(hG:zbR [(b0_,x0_,y0_),(b1_,x1_,y1_)]=false):
  Calls Tryz.prog 4 #[(aG b0_ x0_ y0_),(aG b1_ x1_ y1_)] V (zao V (fun v _=>v= .bool true)):=by
 have hsz:=zf7 hG
 have hkx0:x0_.n≤40:=by omega
 have hky0:y0_.n≤40:=by omega
 have hkx1:x1_.n≤40:=by omega
 have hky1:y1_.n≤40:=by omega
 obtain⟨q0,hqa0⟩:∃q,qOf b0_ x0_.N y0_.N=q:=⟨_,rfl⟩
 obtain⟨q1,hqa1⟩:∃q,qOf b1_ x1_.N y1_.N=q:=⟨_,rfl⟩
 obtain⟨hn0,hd0⟩:=zcL hqa0 ox0 oy0
 obtain⟨hn1,hd1⟩:=zcL hqa1 ox1 oy1
 have hDL:=zhj hd0 hd1 (by omega)
 refine zaD (e:=[x1_,y1_,x0_,y0_]) Tryz.func4 rfl Tryz.ntmps4 (zuz rfl) [(0,(aG b0_ x0_ y0_)),(1,(aG b1_ x1_ y1_))] rfl (zak ox1 (zak oy1 (zak ox0 (zak oy0 zaW)))) (fun a S=>?_)
 refine wp_seq_k fun K1 hK1=>?_
 refine zaa ?_
 refine ti S (cs:=(aL b0_ x0_ y0_)) (zaH rfl (S.at 0 rfl) rfl) (fun g1=>[⟨g1,27,(aL b0_ x0_ y0_)⟩]) fun g1 a V1 hgg1 S=>?_
 refine ti S (cs:=(aL b1_ x1_ y1_)) (zaH rfl (S.at 2 rfl) rfl) (fun g2=>[⟨g1,27,(aL b0_ x0_ y0_)⟩,⟨g2,27,(aL b1_ x1_ y1_)⟩]) fun g2 a V2 hgg2 S=>?_
 refine tv S (zau rfl) fun a S=>?_
 refine hK1 _ _ ?_
 refine wp_seq_k fun K2 hK2=>?_
 refine wp_seq_k fun K3 hK3=>?_
 refine zaa ?_
 refine tv S (zab rfl (S.at 2 rfl) (S.bx 0 rfl) Tryz.underlying27 rfl (vs:=(aL b0_ x0_ y0_)) zae rfl) fun a S=>?_
 refine tv S (zab rfl (S.at 2 rfl) (S.bx 1 rfl) Tryz.underlying27 rfl (vs:=(aL b1_ x1_ y1_)) zae rfl) fun a S=>?_
 refine ty S (F:=GL ([(b0_,x0_,y0_),(b1_,x1_,y1_)])) (zel rfl (S.at 1 rfl) (S.at 0 rfl) (S.num 2 rfl) (S.num 3 rfl) (S.num 0 rfl) (S.num 1 rfl)) fun v a V3 hF hb S=>?_
 obtain⟨ov1,hov1⟩:∃z,z=v:=⟨_,rfl⟩
 rw[←hov1]at hF S
 have rov1:=hF
 refine tc S (F:=(fun v _=>v= .bool false)) (rc1 Tryz.func9 (S.at 0 rfl)) (zdU rov1 hG) fun v a V4 hF hb S=>?_
 replace rov1:=rov1.keep hb
 subst hF
 refine hK3 _ _ ?_
 refine wp_cond_false (S.at 0 rfl) ?_
 refine wp_skip ?_
 refine hK2 _ _ ?_
 refine wp_seq_k fun K4 hK4=>?_
 rcases zuJ (decide (q0<q1))with hs0|hs0
 ·skip
  have hlt:=of_decide_eq_true hs0
  obtain⟨s,hden2,⟨hlo,hhi⟩,hnp,hnn,hnr⟩:=zmx hlt
  have hs:=zlz hlt hDL hnr
  have hls:=zkp hlt hd0 hd1 hnr
  have hsm:=zrz hlt hn0 hn1 hd0 hd1 (by omega)
  have S:=S.keep [3,2] (ls':=[(3,pT g2 0),(2,pT g1 0)]) rfl
  refine zaa ?_
  refine tv S (zab rfl (S.at 1 rfl) (S.bx 0 rfl) Tryz.underlying27 rfl (vs:=(aL b0_ x0_ y0_)) zae rfl) fun a S=>?_
  refine tv S (zab rfl (S.at 1 rfl) (S.bx 1 rfl) Tryz.underlying27 rfl (vs:=(aL b1_ x1_ y1_)) zae rfl) fun a S=>?_
  refine tc S (F:=QV 42 (zba q0 q1) (.bool (decide (q0<q1)))) (rc2 Tryz.func32 (S.at 1 rfl) (S.at 0 rfl)) (zbn (zfT (T.keep S.below) (show Q1 40 (q0) ((aG b0_ x0_ y0_)) _ from⟨b0_,x0_,y0_,rfl,hqa0,hkx0,hky0,(S.num 2 rfl),(S.num 3 rfl)⟩) (show Q1 40 (q1) ((aG b1_ x1_ y1_)) _ from⟨b1_,x1_,y1_,rfl,hqa1,hkx1,hky1,(S.num 0 rfl),(S.num 1 rfl)⟩) (by omega) (by omega)) (fun v V2 h=>h.sml hsm)) fun v a V5 hF hb S=>?_
  obtain⟨b1,x1,y1,rfl,hq1,hk1,hk2,ok1,ok2⟩:=hF
  have S:=S.know ok1
  have S:=S.know ok2
  refine tv S (zad rfl (S.at 0 rfl)) fun a S=>?_
  refine tv S (zaq rfl (S.at 0 rfl) rfl) fun a S=>?_
  refine tv S (zbc (zaq rfl (S.at 1 rfl) rfl) (show(decide (q0<q1))=true from hs0)) fun a S=>?_
  refine ti S (cs:=[.bool false,.slice none 0 0,.slice none 0 0]) (zap rfl (Tryz.zeroValue27 _) rfl) (fun g3=>[⟨g1,27,(aL b0_ x0_ y0_)⟩,⟨g2,27,(aL b1_ x1_ y1_)⟩,⟨g3,27,[.bool false,.slice none 0 0,.slice none 0 0]⟩]) fun g3 a V6 hgg3 S=>?_
  refine zal S (i:=2) (vs:=(aL b1 x1 y1)) rfl (fun ht=>zah rfl (S.at 0 rfl) (S.at 2 rfl) zae rfl (zuz rfl) ht) (zuz rfl) rfl rfl rfl (lb':=[⟨g1,27,(aL b0_ x0_ y0_)⟩,⟨g2,27,(aL b1_ x1_ y1_)⟩,⟨g3,27,(aL b1 x1 y1)⟩]) rfl (fun V7 S=>?_)
  refine tv S (zam rfl (S.at 1 rfl)) fun a S=>?_
  refine hK4 _ _ ?_
  refine wp_seq_k fun K5 hK5=>?_
  refine wp_seq_k fun K6 hK6=>?_
  refine zaa ?_
  refine tv S (zab rfl (S.at 9 rfl) (S.bx 0 rfl) Tryz.underlying27 rfl (vs:=(aL b0_ x0_ y0_)) zae rfl) fun a S=>?_
  refine tv S (zab rfl (S.at 9 rfl) (S.bx 1 rfl) Tryz.underlying27 rfl (vs:=(aL b1_ x1_ y1_)) zae rfl) fun a S=>?_
  refine tc S (F:=(fun v _=>v= .int .i64 (zaK q0 q1))) (rc2 Tryz.func19 (S.at 1 rfl) (S.at 0 rfl)) (zds (show Q1 40 (q0) ((aG b0_ x0_ y0_)) _ from⟨b0_,x0_,y0_,rfl,hqa0,hkx0,hky0,(S.num 4 rfl),(S.num 5 rfl)⟩) (show Q1 40 (q1) ((aG b1_ x1_ y1_)) _ from⟨b1_,x1_,y1_,rfl,hqa1,hkx1,hky1,(S.num 2 rfl),(S.num 3 rfl)⟩) (by decide) (by decide)) fun v a V8 hF hb S=>?_
  subst hF
  refine tv S (zbc (zc3 rfl (S.at 0 rfl) rfl) (show(decide (0≤zaK q0 q1))=false from(zfO hlt))) fun a S=>?_
  refine hK6 _ _ ?_
  refine wp_cond_false (S.at 0 rfl) ?_
  refine wp_skip ?_
  refine hK5 _ _ ?_
  refine wp_seq_k fun K7 hK7=>?_
  refine wp_seq_k fun K8 hK8=>?_
  refine zaa ?_
  refine tv S (zad rfl (S.at 4 rfl)) fun a S=>?_
  refine tv S (zcO (b:=true) rfl (S.at 0 rfl)) fun a S=>?_
  refine tv S (zad rfl (S.at 0 rfl)) fun a S=>?_
  refine tvg S (S.at 0 rfl) (zab rfl (S.at 16 rfl) (S.bx 0 rfl) Tryz.underlying27 rfl (vs:=(aL b0_ x0_ y0_)) zae rfl) fun a S=>?_
  refine tvg S (S.at 1 rfl) (zab rfl (S.at 9 rfl) (S.bx 2 rfl) Tryz.underlying27 rfl (vs:=(aL b1 x1 y1)) zae rfl) fun a S=>?_
  refine tcg S (S.at 2 rfl) (F:=(fun v _=>v= .int .i64 (zaK q0 (zba q0 q1)))) (rc2 Tryz.func19 (S.at 1 rfl) (S.at 0 rfl)) (zds (show Q1 40 (q0) ((aG b0_ x0_ y0_)) _ from⟨b0_,x0_,y0_,rfl,hqa0,hkx0,hky0,(S.num 4 rfl),(S.num 5 rfl)⟩) (show QT 42 (zba q0 q1) ((aG b1 x1 y1)) _ from⟨b1,x1,y1,rfl,hq1,hk1,hk2,(S.num 1 rfl),(S.num 0 rfl)⟩).any (by decide) (by decide)) fun v a V9 hF hb S=>?_
  subst hF
  refine tvg S (S.at 3 rfl) (zbc (zc3 rfl (S.at 0 rfl) rfl) (show(decide (0≤zaK q0 (zba q0 q1)))=false from(zfO hlo))) fun a S=>?_
  refine tv S (zaM false rfl (S.at 4 rfl) (S.at 0 rfl)) fun a S=>?_
  refine tv S (zad rfl (S.at 0 rfl)) fun a S=>?_
  refine tvg S (S.at 0 rfl) (zab rfl (S.at 14 rfl) (S.bx 2 rfl) Tryz.underlying27 rfl (vs:=(aL b1 x1 y1)) zae rfl) fun a S=>?_
  refine tvg S (S.at 1 rfl) (zab rfl (S.at 22 rfl) (S.bx 1 rfl) Tryz.underlying27 rfl (vs:=(aL b1_ x1_ y1_)) zae rfl) fun a S=>?_
  refine tcg S (S.at 2 rfl) (F:=(fun v _=>v= .int .i64 (zaK (zba q0 q1) q1))) (rc2 Tryz.func19 (S.at 1 rfl) (S.at 0 rfl)) (zds (show QT 42 (zba q0 q1) ((aG b1 x1 y1)) _ from⟨b1,x1,y1,rfl,hq1,hk1,hk2,(S.num 1 rfl),(S.num 0 rfl)⟩).any (show Q1 40 (q1) ((aG b1_ x1_ y1_)) _ from⟨b1_,x1_,y1_,rfl,hqa1,hkx1,hky1,(S.num 2 rfl),(S.num 3 rfl)⟩) (by decide) (by decide)) fun v a V10 hF hb S=>?_
  subst hF
  refine tvg S (S.at 3 rfl) (zbc (zc3 rfl (S.at 0 rfl) rfl) (show(decide (0≤zaK (zba q0 q1) q1))=false from(zfO hhi))) fun a S=>?_
  refine tv S (zaM false rfl (S.at 4 rfl) (S.at 0 rfl)) fun a S=>?_
  refine hK8 _ _ ?_
  refine wp_cond_false (S.at 0 rfl) ?_
  refine wp_skip ?_
  refine hK7 _ _ ?_
  refine wp_seq_k fun K9 hK9=>?_
  have S:=S.keep [5,3,2] (ls':=[(5,pT g3 0),(3,pT g2 0),(2,pT g1 0)]) rfl
  refine zaa ?_
  refine tv S (zaf rfl (S.at 0 rfl) (za0 _)) fun a S=>?_
  refine tv S (zar rfl (S.at 0 rfl) (S.bx 2 rfl) (Tryz.isAgg23 _) rfl) fun a S=>?_
  refine tc S (F:=(fun v _=>v= .int .i64 (((s+1:Nat):Int)))) (rc1 Tryz.func41 (S.at 0 rfl)) (zbn (zsD (show NT 42 ((zba q0 q1).den) (aS y1) _ from⟨y1,rfl,hq1.2.2.2.1,(by rw[←hq1.2.2.2.1];exact hq1.2.2.2.2),hk2,(S.num 0 rfl)⟩).any (by omega)) (fun _ _ h=>h.trans (congrArg (fun n:Nat=>Value.int .i64 (n:Int)) (show bitsN ((zba q0 q1).den)=s+1 from(by rw[hden2,znN]))))) fun v a V11 hF hb S=>?_
  subst hF
  refine tv S (zam rfl (S.at 0 rfl)) fun a S=>?_
  refine hK9 _ _ ?_
  refine wp_seq_k fun K10 hK10=>?_
  refine wp_seq_k fun K11 hK11=>?_
  obtain⟨W1,hW1⟩:∃W,W=V11:=⟨_,rfl⟩
  rw[←hW1]at S ⊢
  have S0:=S
  refine fr 12 [54,55,56,57,58,59,60,61,62,63,64,65] [IsV (.int .i64 (((s+1:Nat):Int))),IsV (.bool false),IsV (.bool false),IsV (pT g3 2),IsV (aS y1),NT 1 ((1:Nat)),IsV (.int .i64 (((s+1:Nat):Int))),IsV (.int .i64 ((((s+1) - 1:Nat):Int))),NT 42 ((1:Nat)*2^((s+1) - 1)),IsV (.bool true),IsV (.bool false),IsV (.bool false)] S ?_ ?_
  ·refine sc (fun _ _ S _ _=>sv rfl (zad rfl (S.at 0 rfl))) ?_
   refine sc (fun _ _ _ _ hd=>sv rfl (zbc (zdj rfl (hd.v 0 rfl rfl) rfl) (show(decide (((s+1:Nat):Int)<1))=false from(decide_eq_false (by omega))))) ?_
   refine sc (fun _ _ _ _ hd=>sv rfl (zad rfl (hd.v 1 rfl rfl))) ?_
   refine sc (fun _ _ S _ hd=>svg rfl (hd.v 2 rfl rfl) (zaf rfl (S.at 4 rfl) (za0 _))) ?_
   refine sc (fun _ _ S _ hd=>svg rfl (hd.v 2 rfl rfl) (zar rfl (hd.v 3 rfl rfl) (S.bx 2 rfl) (Tryz.isAgg23 _) rfl)) ?_
   refine sc (fun _ _ _ _ hd=>syg rfl (hd.v 2 rfl rfl) (zbQ (c:=1) rfl (by decide) (by decide))) ?_
   refine sc (fun _ _ S _ hd=>svg rfl (hd.v 2 rfl rfl) (zad rfl (S.at 0 rfl))) ?_
   refine sc (fun _ _ _ _ hd=>svg rfl (hd.v 2 rfl rfl) (zeC (k:=s+1) (m:=1) (by omega) rfl (hd.v 6 rfl rfl) rfl (by omega))) ?_
   refine sc (fun _ _ _ _ hd=>slg rfl (hd.v 2 rfl rfl) (rc2 Tryz.func43 rfl (hd.v 7 rfl rfl)) (zbn (zhS (k:=(s+1) - 1) ((hd.r 5 rfl rfl)).any (by decide) (by omega)) (fun v V2 h=>h.to rfl (by omega)))) ?_
   refine sc (fun _ _ S _ hd=>slg rfl (hd.v 2 rfl rfl) (rc2 Tryz.func42 (hd.v 4 rfl rfl) rfl) (ztp (show NT 42 ((zba q0 q1).den) (aS y1) _ from⟨y1,rfl,hq1.2.2.2.1,(by rw[←hq1.2.2.2.1];exact hq1.2.2.2.2),hk2,(S.num 0 rfl)⟩) (hd.r 8 rfl rfl) (by rw[hden2];simp))) ?_
   refine sc (fun _ _ _ _ hd=>svg rfl (hd.v 2 rfl rfl) (zcO (b:=true) rfl (hd.v 9 rfl rfl))) ?_
   refine sc (fun _ _ _ _ hd=>sv rfl (zaM false rfl (hd.v 2 rfl rfl) (hd.v 10 rfl rfl))) ?_
   exact sn
  ·intro a1 V12 S hB hf
   have S:=S.add (hf.v 11 rfl rfl)
   clear hf S0
   show wpList _ _ _ [] _ _
   refine hK11 _ _ ?_
   refine wp_cond_false (S.at 0 rfl) ?_
   refine wp_skip ?_
   refine hK10 _ _ ?_
   refine wp_seq_k fun K12 hK12=>?_
   obtain⟨W2,hW2⟩:∃W,W=V12:=⟨_,rfl⟩
   rw[←hW2]at S ⊢
   have S0:=S
   refine fr 5 [66,67,68,69,8] [ZT 2 (1),IsV (pT g3 2),IsV (aS y1),QP 42 (1) ((zba q0 q1).den),RBx (W2) (27) ([.bool false,.slice none 0 0,.slice none 0 0])] S ?_ ?_
   ·refine sc (fun _ _ _ _ _=>sl rfl (rcc Tryz.func44) (zjg (n:=1) (by decide))) ?_
    refine sc (fun _ _ S _ _=>sv rfl (zaf rfl (S.at 5 rfl) (za0 _))) ?_
    refine sc (fun _ _ S _ hd=>sv rfl (zar rfl (hd.v 1 rfl rfl) (S.bx 2 rfl) (Tryz.isAgg23 _) rfl)) ?_
    refine sc (fun _ _ S _ hd=>by
     obtain⟨v,hv,hq⟩:=zmB (T:=27) (K3:=42) (by decide) (hd.r 0 rfl rfl) (show NT 42 ((zba q0 q1).den) (aS y1) _ from⟨y1,rfl,hq1.2.2.2.1,(by rw[←hq1.2.2.2.1];exact hq1.2.2.2.2),hk2,(S.num 0 rfl)⟩) (by omega) (by omega)
     exact sv rfl (zaL rfl rfl (hd.v 2 rfl rfl) hv) hq) ?_
    refine sc (fun _ _ _ hB _=>sy rfl (zlJ (cs:=[.bool false,.slice none 0 0,.slice none 0 0]) (zap rfl (Tryz.zeroValue27 _) rfl) hB.size)) ?_
    exact sn
   ·intro a2 V13 S hB hf
    obtain⟨b2,x2,y2,hv1,hq2,hk3,hk4,ok3,ok4⟩:=hf.r 3 rfl rfl
    have S:=S.add hv1
    have S:=S.know ok3
    have S:=S.know ok4
    obtain⟨g4,hvg4,hgg4,hbg4⟩:=hf.r 4 rfl rfl
    have S:=Frm.box (S.add hvg4) S0 hgg4 hbg4 rfl
    have S:Frm 125 [(8,pT g4 0),(69,(aG b2 x2 y2)),(65,.bool false),(7,.int .i64 (((s+1:Nat):Int))),(53,.int .i64 (((s+1:Nat):Int))),(52,aS y1),(51,pT g3 2),(5,pT g3 0),(3,pT g2 0),(2,pT g1 0)] [⟨g1,27,(aL b0_ x0_ y0_)⟩,⟨g2,27,(aL b1_ x1_ y1_)⟩,⟨g3,27,(aL b1 x1 y1)⟩,⟨g4,27,[.bool false,.slice none 0 0,.slice none 0 0]⟩] V _ _ _:=S
    clear hf S0
    show wpList _ _ _ [_] _ _
    refine zal S (i:=3) (vs:=(aL b2 x2 y2)) rfl (fun ht=>zah rfl (S.at 0 rfl) (S.at 1 rfl) zae rfl (zuz rfl) ht) (zuz rfl) rfl rfl rfl (lb':=[⟨g1,27,(aL b0_ x0_ y0_)⟩,⟨g2,27,(aL b1_ x1_ y1_)⟩,⟨g3,27,(aL b1 x1 y1)⟩,⟨g4,27,(aL b2 x2 y2)⟩]) rfl (fun V14 S=>?_)
    refine hK12 _ _ ?_
    refine wp_seq_k fun K13 hK13=>?_
    refine zaa ?_
    refine tv S (zab rfl (S.at 7 rfl) (S.bx 2 rfl) Tryz.underlying27 rfl (vs:=(aL b1 x1 y1)) zae rfl) fun a S=>?_
    refine tv S (zab rfl (S.at 1 rfl) (S.bx 3 rfl) Tryz.underlying27 rfl (vs:=(aL b2 x2 y2)) zae rfl) fun a S=>?_
    refine tc S (F:=QT 85 ((zba q0 q1) - (1/2^s:Rat))) (rc2 Tryz.func35 (S.at 1 rfl) (S.at 0 rfl)) (zsn (show QT 42 (zba q0 q1) ((aG b1 x1 y1)) _ from⟨b1,x1,y1,rfl,hq1,hk1,hk2,(S.num 3 rfl),(S.num 2 rfl)⟩).any (show Q1 42 ((1/2^s:Rat)) ((aG b2 x2 y2)) _ from⟨b2,x2,y2,rfl,zsq (zpa hq2.1) rfl (hq2.2.1.trans hden2),zuC hk3 (by decide),zuC hk4 (by decide),(S.num 1 rfl),(S.num 0 rfl)⟩) (by decide) (by decide)) fun v a V15 hF hb S=>?_
    obtain⟨b3,x3,y3,rfl,hq3,hk5,hk6,ok5,ok6⟩:=hF
    have S:=S.know ok5
    have S:=S.know ok6
    refine ti S (cs:=[.bool false,.slice none 0 0,.slice none 0 0]) (zap rfl (Tryz.zeroValue27 _) rfl) (fun g5=>[⟨g1,27,(aL b0_ x0_ y0_)⟩,⟨g2,27,(aL b1_ x1_ y1_)⟩,⟨g3,27,(aL b1 x1 y1)⟩,⟨g4,27,(aL b2 x2 y2)⟩,⟨g5,27,[.bool false,.slice none 0 0,.slice none 0 0]⟩]) fun g5 a V16 hgg5 S=>?_
    refine zal S (i:=4) (vs:=(aL b3 x3 y3)) rfl (fun ht=>zah rfl (S.at 0 rfl) (S.at 1 rfl) zae rfl (zuz rfl) ht) (zuz rfl) rfl rfl rfl (lb':=[⟨g1,27,(aL b0_ x0_ y0_)⟩,⟨g2,27,(aL b1_ x1_ y1_)⟩,⟨g3,27,(aL b1 x1 y1)⟩,⟨g4,27,(aL b2 x2 y2)⟩,⟨g5,27,(aL b3 x3 y3)⟩]) rfl (fun V17 S=>?_)
    refine hK13 _ _ ?_
    refine wp_seq_k fun K14 hK14=>?_
    refine wp_seq_k fun K15 hK15=>?_
    refine zaa ?_
    refine tv S (zab rfl (S.at 11 rfl) (S.bx 2 rfl) Tryz.underlying27 rfl (vs:=(aL b1 x1 y1)) zae rfl) fun a S=>?_
    refine tc S (F:=(fun v _=>v= .int .i64 (zaK (zba q0 q1) 0))) (rc1 Tryz.func17 (S.at 0 rfl)) (zej (show QT 42 (zba q0 q1) ((aG b1 x1 y1)) _ from⟨b1,x1,y1,rfl,hq1,hk1,hk2,(S.num 5 rfl),(S.num 4 rfl)⟩).any) fun v a V18 hF hb S=>?_
    subst hF
    refine tv S (zdj rfl (S.at 0 rfl) rfl) fun a S=>?_
    refine hK15 _ _ ?_
    rcases zuJ (decide (zaK (zba q0 q1) 0<0))with hc75|hc75
    ·refine wp_cond_true ((S.at 0 rfl).trans (congrArg Value.bool hc75)) ?_
     refine zaa ?_
     refine tv S (zab rfl (S.at 14 rfl) (S.bx 2 rfl) Tryz.underlying27 rfl (vs:=(aL b1 x1 y1)) zae rfl) fun a S=>?_
     refine tv S (zab rfl (S.at 8 rfl) (S.bx 3 rfl) Tryz.underlying27 rfl (vs:=(aL b2 x2 y2)) zae rfl) fun a S=>?_
     refine ty S (F:=QL 42 6 ([zba q0 q1,(1/2^s:Rat)])) (zbI rfl (S.at 1 rfl) (S.at 0 rfl) (show QT 42 (zba q0 q1) ((aG b1 x1 y1)) _ from⟨b1,x1,y1,rfl,hq1,hk1,hk2,(S.num 5 rfl),(S.num 4 rfl)⟩).any (show Q1 42 ((1/2^s:Rat)) ((aG b2 x2 y2)) _ from⟨b2,x2,y2,rfl,zsq (zpa hq2.1) rfl (hq2.2.1.trans hden2),zuC hk3 (by decide),zuC hk4 (by decide),(S.num 3 rfl),(S.num 2 rfl)⟩)) fun v a V19 hF hb S=>?_
     obtain⟨ov2,hov2⟩:∃z,z=v:=⟨_,rfl⟩
     rw[←hov2]at hF S
     have rov2:=hF
     refine tc S (F:=QT 85 ((zba q0 q1)+(1/2^s:Rat))) (rc1 Tryz.func29 (S.at 0 rfl)) (zfa (rov2).row (by decide)) fun v a V20 hF hb S=>?_
     replace rov2:=rov2.keep hb
     obtain⟨b4,x4,y4,rfl,hq4,hk7,hk8,ok7,ok8⟩:=hF
     have S:=S.know ok7
     have S:=S.know ok8
     refine zal S (i:=4) (vs:=(aL b4 x4 y4)) rfl (fun ht=>zah rfl (S.at 7 rfl) (S.at 0 rfl) zae rfl (zuz rfl) ht) (zuz rfl) rfl rfl rfl (lb':=[⟨g1,27,(aL b0_ x0_ y0_)⟩,⟨g2,27,(aL b1_ x1_ y1_)⟩,⟨g3,27,(aL b1 x1 y1)⟩,⟨g4,27,(aL b2 x2 y2)⟩,⟨g5,27,(aL b4 x4 y4)⟩]) rfl (fun V21 S=>?_)
     refine hK14 _ _ ?_
     refine wp_seq_k fun K16 hK16=>?_
     refine wp_seq_k fun K17 hK17=>?_
     rcases zuJ (decide (zaK (zba q0 q1) 0=0))with hs15|hs15
     ·skip
      have S:=S.keep [9,7,5,3,2] (ls':=[(9,pT g5 0),(7,.int .i64 (((s+1:Nat):Int))),(5,pT g3 0),(3,pT g2 0),(2,pT g1 0)]) rfl
      refine zaa ?_
      refine tv S (zab rfl (S.at 2 rfl) (S.bx 2 rfl) Tryz.underlying27 rfl (vs:=(aL b1 x1 y1)) zae rfl) fun a S=>?_
      refine tc S (F:=(fun v _=>v= .int .i64 (zaK (zba q0 q1) 0))) (rc1 Tryz.func17 (S.at 0 rfl)) (zej (show QT 42 (zba q0 q1) ((aG b1 x1 y1)) _ from⟨b1,x1,y1,rfl,hq1,hk1,hk2,(S.num 7 rfl),(S.num 6 rfl)⟩).any) fun v a V22 hF hb S=>?_
      subst hF
      refine tv S (zbc (zdR _ (by decide) rfl (S.at 0 rfl) rfl) (show(!decide (zaK (zba q0 q1) 0=0))=false from(by rw[hs15];rfl))) fun a S=>?_
      refine tv S (zad rfl (S.at 0 rfl)) fun a S=>?_
      refine tk S (S.at 0 rfl) fun a S=>?_
      refine tk S (S.at 1 rfl) fun a S=>?_
      refine tk S (S.at 2 rfl) fun a S=>?_
      refine tk S (S.at 3 rfl) fun a S=>?_
      refine tv S (zaM false rfl (S.at 4 rfl) rfl) fun a S=>?_
      refine tv S (zad rfl (S.at 0 rfl)) fun a S=>?_
      refine tk S (S.at 0 rfl) fun a S=>?_
      refine tk S (S.at 1 rfl) fun a S=>?_
      refine tk S (S.at 2 rfl) fun a S=>?_
      refine tk S (S.at 3 rfl) fun a S=>?_
      refine tv S (zaM false rfl (S.at 4 rfl) rfl) fun a S=>?_
      refine hK17 _ _ ?_
      refine wp_cond_false (S.at 0 rfl) ?_
      refine wp_skip ?_
      refine hK16 _ _ ?_
      refine wp_seq_k fun K18 hK18=>?_
      refine wp_seq_k fun K19 hK19=>?_
      have S:=S.keep [7,3,2] (ls':=[(7,.int .i64 (((s+1:Nat):Int))),(3,pT g2 0),(2,pT g1 0)]) rfl
      refine zaa ?_
      refine tv S (zad rfl (S.at 0 rfl)) fun a S=>?_
      refine tv S (zct _ (by decide) rfl (S.at 0 rfl) rfl) fun a S=>?_
      refine hK19 _ _ ?_
      rcases zuJ (decide (((s+1:Nat):Int)=1))with hc96|hc96
      ·refine wp_cond_true ((S.at 0 rfl).trans (congrArg Value.bool hc96)) ?_
       refine wp_seq_k fun K20 hK20=>?_
       refine zaa ?_
       refine tc S (F:=(fun v _=>v= .bool true)) (rc0 Tryz.func10) (zcl (T.keep S.below)) fun v a V23 hF hb S=>?_
       subst hF
       refine tv S (zam rfl (S.at 0 rfl)) fun a S=>?_
       refine hK20 _ _ ?_
       refine wp_ret ?_
       exact za5 rfl S (S.at 0 rfl) ⟨_,rfl,rfl,S.below⟩
      ·refine wp_cond_false ((S.at 0 rfl).trans (congrArg Value.bool hc96)) ?_
       have hs1:1≤s:=by have:=of_decide_eq_false hc96;omega
       refine wp_skip ?_
       refine hK18 _ _ ?_
       refine wp_seq_k fun K21 hK21=>?_
       refine zaa ?_
       refine ty S (F:=NT 1 ((1:Nat))) (zbQ (c:=1) rfl (by decide) (by decide)) fun v a V24 hF hb S=>?_
       obtain⟨x5,rfl,hN1,hn1,hk9,ok9⟩:=hF
       have S:=S.know ok9
       refine tv S (zad rfl (S.at 3 rfl)) fun a S=>?_
       refine tv S (zeC (k:=s+1) (m:=2) (by omega) rfl (S.at 0 rfl) rfl (by omega)) fun a S=>?_
       refine tc S (F:=NT 42 ((1:Nat)*2^((s+1) - 2))) (rc2 Tryz.func43 (S.at 2 rfl) (S.at 0 rfl)) (zbn (zhS (k:=(s+1) - 2) (show NT 1 ((1:Nat)) (aS x5) _ from⟨x5,rfl,hN1,hn1,hk9,(S.num 0 rfl)⟩).any (by decide) (by omega)) (fun v V2 h=>h.to rfl (by omega))) fun v a V25 hF hb S=>?_
       obtain⟨x6,rfl,hN2,hn2,hk10,ok10⟩:=hF
       have S:=S.know ok10
       refine tv S (zbp rfl (S.at 0 rfl) (zdQ _ _ _)) fun a S=>?_
       refine ty S (F:=NT 1 ((1:Nat))) (zbQ (c:=1) rfl (by decide) (by decide)) fun v a V26 hF hb S=>?_
       obtain⟨x7,rfl,hN3,hn3,hk11,ok11⟩:=hF
       have S:=S.know ok11
       refine tv S (zaL rfl (S.at 1 rfl) (S.at 0 rfl) (zcs _ _ _ _ _ _ _)) fun a S=>?_
       refine ti S (cs:=[.bool false,.slice none 0 0,.slice none 0 0]) (zap rfl (Tryz.zeroValue27 _) rfl) (fun g6=>[⟨g1,27,(aL b0_ x0_ y0_)⟩,⟨g2,27,(aL b1_ x1_ y1_)⟩,⟨g3,27,(aL b1 x1 y1)⟩,⟨g4,27,(aL b2 x2 y2)⟩,⟨g5,27,(aL b4 x4 y4)⟩,⟨g6,27,[.bool false,.slice none 0 0,.slice none 0 0]⟩]) fun g6 a V27 hgg6 S=>?_
       refine zal S (i:=5) (vs:=(aL false x6 x7)) rfl (fun ht=>zah rfl (S.at 0 rfl) (S.at 1 rfl) zae rfl (zuz rfl) ht) (zuz rfl) rfl rfl rfl (lb':=[⟨g1,27,(aL b0_ x0_ y0_)⟩,⟨g2,27,(aL b1_ x1_ y1_)⟩,⟨g3,27,(aL b1 x1 y1)⟩,⟨g4,27,(aL b2 x2 y2)⟩,⟨g5,27,(aL b4 x4 y4)⟩,⟨g6,27,(aL false x6 x7)⟩]) rfl (fun V28 S=>?_)
       refine hK21 _ _ ?_
       refine wp_seq_k fun K22 hK22=>?_
       refine zaa ?_
       refine tv S (zab rfl (S.at 12 rfl) (S.bx 0 rfl) Tryz.underlying27 rfl (vs:=(aL b0_ x0_ y0_)) zae rfl) fun a S=>?_
       refine tv S (zab rfl (S.at 1 rfl) (S.bx 5 rfl) Tryz.underlying27 rfl (vs:=(aL false x6 x7)) zae rfl) fun a S=>?_
       refine ty S (F:=QL 42 6 ([q0,((2:Rat)^((s+1) - 2))])) (zbI rfl (S.at 1 rfl) (S.at 0 rfl) (((show Q1 40 (q0) ((aG b0_ x0_ y0_)) _ from⟨b0_,x0_,y0_,rfl,hqa0,hkx0,hky0,(S.num 13 rfl),(S.num 14 rfl)⟩)).to rfl (by omega)) (show Q1 42 (((2:Rat)^((s+1) - 2))) ((aG false x6 x7)) _ from⟨false,x6,x7,rfl,zeg rfl hN2 hN3,zuC hk10 (by decide),zuC hk11 (by decide),(S.num 1 rfl),(S.num 0 rfl)⟩)) fun v a V29 hF hb S=>?_
       obtain⟨ov3,hov3⟩:∃z,z=v:=⟨_,rfl⟩
       rw[←hov3]at hF S
       have rov3:=hF
       refine tc S (F:=QT 84 (q0*((2:Rat)^((s+1) - 2)))) (rc1 Tryz.func31 (S.at 0 rfl)) (zek (rov3).row (by decide)) fun v a V30 hF hb S=>?_
       replace rov3:=rov3.keep hb
       obtain⟨b5,x8,y5,rfl,hq5,hk12,hk13,ok12,ok13⟩:=hF
       have S:=S.know ok12
       have S:=S.know ok13
       refine tc S (F:=ZT 42 (Rat.floor (q0*((2:Rat)^((s+1) - 2))))) (rc1 Tryz.func40 (S.at 0 rfl)) (zbn (zfA (show QT 84 (q0*((2:Rat)^((s+1) - 2))) ((aG b5 x8 y5)) _ from⟨b5,x8,y5,rfl,hq5,hk12,hk13,(S.num 1 rfl),(S.num 0 rfl)⟩).any (by decide)) (fun v V2 h=>h.lim (zfC hn0 (by omega)))) fun v a V31 hF hb S=>?_
       replace rov3:=rov3.keep hb
       obtain⟨b6,x9,rfl,hz1,hk14,ok14⟩:=hF
       have S:=S.know ok14
       refine ty S (F:=NT 1 ((1:Nat))) (zbQ (c:=1) rfl (by decide) (by decide)) fun v a V32 hF hb S=>?_
       replace rov3:=rov3.keep hb
       obtain⟨x10,rfl,hN4,hn4,hk15,ok15⟩:=hF
       have S:=S.know ok15
       refine tv S (zaL rfl (S.at 1 rfl) (S.at 0 rfl) (zcs _ _ _ _ _ _ _)) fun a S=>?_
       refine ti S (cs:=[.bool false,.slice none 0 0,.slice none 0 0]) (zap rfl (Tryz.zeroValue27 _) rfl) (fun g7=>[⟨g1,27,(aL b0_ x0_ y0_)⟩,⟨g2,27,(aL b1_ x1_ y1_)⟩,⟨g3,27,(aL b1 x1 y1)⟩,⟨g4,27,(aL b2 x2 y2)⟩,⟨g5,27,(aL b4 x4 y4)⟩,⟨g6,27,(aL false x6 x7)⟩,⟨g7,27,[.bool false,.slice none 0 0,.slice none 0 0]⟩]) fun g7 a V33 hgg7 S=>?_
       refine zal S (i:=6) (vs:=(aL b6 x9 x10)) rfl (fun ht=>zah rfl (S.at 0 rfl) (S.at 1 rfl) zae rfl (zuz rfl) ht) (zuz rfl) rfl rfl rfl (lb':=[⟨g1,27,(aL b0_ x0_ y0_)⟩,⟨g2,27,(aL b1_ x1_ y1_)⟩,⟨g3,27,(aL b1 x1 y1)⟩,⟨g4,27,(aL b2 x2 y2)⟩,⟨g5,27,(aL b4 x4 y4)⟩,⟨g6,27,(aL false x6 x7)⟩,⟨g7,27,(aL b6 x9 x10)⟩]) rfl (fun V34 S=>?_)
       refine hK22 _ _ ?_
       refine wp_seq_k fun K23 hK23=>?_
       have S:=S.keep [11,10,3] (ls':=[(11,pT g7 0),(10,pT g6 0),(3,pT g2 0)]) rfl
       obtain⟨W3,hW3⟩:∃W,W=V34:=⟨_,rfl⟩
       rw[←hW3]at S ⊢
       have S0:=S
       refine fr 13 [112,113,114,115,116,117,118,119,120,121,122,123,124] [IsV ((aG b6 x9 x10)),QT 2 ((1:Int)),QL 42 6 ([((Rat.floor (q0*((2:Rat)^((s+1) - 2))):Int):Rat),(1:Int)]),QT 85 (((Rat.floor (q0*((2:Rat)^((s+1) - 2))):Int):Rat)+(1:Int)),IsV ((aG b1_ x1_ y1_)),IsV ((aG false x6 x7)),QL 42 6 ([q1,((2:Rat)^((s+1) - 2))]),QT 84 (q1*((2:Rat)^((s+1) - 2))),IsV (.int .i64 (zaK (((Rat.floor (q0*((2:Rat)^((s+1) - 2))):Int):Rat)+(1:Int)) (q1*((2:Rat)^((s+1) - 2))))),IsV (.bool true),IsV (.bool true),IsV (.bool true),IsV (.bool true)] S ?_ ?_
       ·refine sc (fun _ _ S _ _=>sv rfl (zab rfl (S.at 0 rfl) (S.bx 6 rfl) Tryz.underlying27 rfl (vs:=(aL b6 x9 x10)) zae rfl)) ?_
        refine sc (fun _ _ _ _ _=>sl rfl (rcc Tryz.func23) (zhR (n:=1) (by decide))) ?_
        refine sc (fun _ _ S _ hd=>sy rfl (zbI rfl (hd.v 0 rfl rfl) rfl (show QT 42 (((Rat.floor (q0*((2:Rat)^((s+1) - 2))):Int):Rat)) ((aG b6 x9 x10)) _ from⟨b6,x9,x10,rfl,zj3 hz1 hN4 hn4,zuC hk14 (by decide),zuC hk15 (by decide),(S.num 1 rfl),(S.num 0 rfl)⟩).any ((((hd.r 1 rfl rfl)).any).to rfl (by omega)))) ?_
        refine sc (fun _ _ _ _ hd=>sl rfl (rc1 Tryz.func29 rfl) (zfa ((hd.r 2 rfl rfl)).row (by decide))) ?_
        refine sc (fun _ _ S _ _=>sv rfl (zab rfl (S.at 2 rfl) (S.bx 1 rfl) Tryz.underlying27 rfl (vs:=(aL b1_ x1_ y1_)) zae rfl)) ?_
        refine sc (fun _ _ S _ _=>sv rfl (zab rfl (S.at 1 rfl) (S.bx 5 rfl) Tryz.underlying27 rfl (vs:=(aL false x6 x7)) zae rfl)) ?_
        refine sc (fun _ _ S _ hd=>sy rfl (zbI rfl (hd.v 4 rfl rfl) (hd.v 5 rfl rfl) (((show Q1 40 (q1) ((aG b1_ x1_ y1_)) _ from⟨b1_,x1_,y1_,rfl,hqa1,hkx1,hky1,(S.num 15 rfl),(S.num 16 rfl)⟩)).to rfl (by omega)) (show Q1 42 (((2:Rat)^((s+1) - 2))) ((aG false x6 x7)) _ from⟨false,x6,x7,rfl,zeg rfl hN2 hN3,zuC hk10 (by decide),zuC hk11 (by decide),(S.num 5 rfl),(S.num 4 rfl)⟩))) ?_
        refine sc (fun _ _ _ _ hd=>sl rfl (rc1 Tryz.func31 rfl) (zek ((hd.r 6 rfl rfl)).row (by decide))) ?_
        refine sc (fun _ _ _ _ hd=>sl rfl (rc2 Tryz.func19 rfl rfl) (zds ((hd.r 3 rfl rfl)).any ((hd.r 7 rfl rfl)).any (by decide) (by decide))) ?_
        refine sc (fun _ _ _ _ hd=>sv rfl (zbc (zc3 rfl (hd.v 8 rfl rfl) rfl) (show(decide (0≤zaK (((Rat.floor (q0*((2:Rat)^((s+1) - 2))):Int):Rat)+(1:Int)) (q1*((2:Rat)^((s+1) - 2)))))=true from(decide_eq_true (zeG (hnr _ (by omega))))))) ?_
        refine sc (fun _ _ _ _ hd=>sv rfl (zad rfl (hd.v 9 rfl rfl))) ?_
        refine sc (fun _ _ S _ hd=>slg rfl (hd.v 10 rfl rfl) (rc0 Tryz.func10) (zcl (T.keep S.below))) ?_
        refine sc (fun _ _ _ _ hd=>sv rfl (zaM true rfl (hd.v 10 rfl rfl) (hd.v 11 rfl rfl))) ?_
        exact sn
       ·intro a3 V35 S hB hf
        have S:=S.add (hf.v 12 rfl rfl)
        clear hf S0
        show wpList _ _ _ [_] _ _
        refine tv S (zam rfl (S.at 0 rfl)) fun a S=>?_
        refine hK23 _ _ ?_
        refine wp_ret ?_
        exact za5 rfl S (S.at 0 rfl) ⟨_,rfl,rfl,S.below⟩
     ·skip
      have S:=S.keep [9,7,5,3,2] (ls':=[(9,pT g5 0),(7,.int .i64 (((s+1:Nat):Int))),(5,pT g3 0),(3,pT g2 0),(2,pT g1 0)]) rfl
      refine zaa ?_
      refine tv S (zab rfl (S.at 2 rfl) (S.bx 2 rfl) Tryz.underlying27 rfl (vs:=(aL b1 x1 y1)) zae rfl) fun a S=>?_
      refine tc S (F:=(fun v _=>v= .int .i64 (zaK (zba q0 q1) 0))) (rc1 Tryz.func17 (S.at 0 rfl)) (zej (show QT 42 (zba q0 q1) ((aG b1 x1 y1)) _ from⟨b1,x1,y1,rfl,hq1,hk1,hk2,(S.num 7 rfl),(S.num 6 rfl)⟩).any) fun v a V36 hF hb S=>?_
      subst hF
      refine tv S (zbc (zdR _ (by decide) rfl (S.at 0 rfl) rfl) (show(!decide (zaK (zba q0 q1) 0=0))=true from(by rw[hs15];rfl))) fun a S=>?_
      refine tv S (zad rfl (S.at 0 rfl)) fun a S=>?_
      refine tvg S (S.at 0 rfl) (zab rfl (S.at 8 rfl) (S.bx 0 rfl) Tryz.underlying27 rfl (vs:=(aL b0_ x0_ y0_)) zae rfl) fun a S=>?_
      refine tvg S (S.at 1 rfl) (zab rfl (S.at 5 rfl) (S.bx 4 rfl) Tryz.underlying27 rfl (vs:=(aL b4 x4 y4)) zae rfl) fun a S=>?_
      refine tcg S (S.at 2 rfl) (F:=(fun v _=>v= .int .i64 (zaK q0 ((zba q0 q1)+(1/2^s:Rat))))) (rc2 Tryz.func19 (S.at 1 rfl) (S.at 0 rfl)) (zds (show Q1 40 (q0) ((aG b0_ x0_ y0_)) _ from⟨b0_,x0_,y0_,rfl,hqa0,hkx0,hky0,(S.num 10 rfl),(S.num 11 rfl)⟩) (show QT 85 ((zba q0 q1)+(1/2^s:Rat)) ((aG b4 x4 y4)) _ from⟨b4,x4,y4,rfl,hq4,hk7,hk8,(S.num 1 rfl),(S.num 0 rfl)⟩).any (by decide) (by decide)) fun v a V37 hF hb S=>?_
      subst hF
      refine tvg S (S.at 3 rfl) (zbc (zdj rfl (S.at 0 rfl) rfl) (show(decide (zaK q0 ((zba q0 q1)+(1/2^s:Rat))<0))=true from(zma (zqS hlo)))) fun a S=>?_
      refine tv S (zaM true rfl (S.at 4 rfl) (S.at 0 rfl)) fun a S=>?_
      refine tv S (zad rfl (S.at 0 rfl)) fun a S=>?_
      refine tvg S (S.at 0 rfl) (zab rfl (S.at 10 rfl) (S.bx 4 rfl) Tryz.underlying27 rfl (vs:=(aL b4 x4 y4)) zae rfl) fun a S=>?_
      refine tvg S (S.at 1 rfl) (zab rfl (S.at 14 rfl) (S.bx 1 rfl) Tryz.underlying27 rfl (vs:=(aL b1_ x1_ y1_)) zae rfl) fun a S=>?_
      refine tcg S (S.at 2 rfl) (F:=(fun v _=>v= .int .i64 (zaK ((zba q0 q1)+(1/2^s:Rat)) q1))) (rc2 Tryz.func19 (S.at 1 rfl) (S.at 0 rfl)) (zds (show QT 85 ((zba q0 q1)+(1/2^s:Rat)) ((aG b4 x4 y4)) _ from⟨b4,x4,y4,rfl,hq4,hk7,hk8,(S.num 1 rfl),(S.num 0 rfl)⟩).any (show Q1 40 (q1) ((aG b1_ x1_ y1_)) _ from⟨b1_,x1_,y1_,rfl,hqa1,hkx1,hky1,(S.num 8 rfl),(S.num 9 rfl)⟩) (by decide) (by decide)) fun v a V38 hF hb S=>?_
      subst hF
      refine tvg S (S.at 3 rfl) (zbc (zdj rfl (S.at 0 rfl) rfl) (show(decide (zaK ((zba q0 q1)+(1/2^s:Rat)) q1<0))=false from(zgT (hnn (zsE hc75))))) fun a S=>?_
      refine tv S (zaM true rfl (S.at 4 rfl) (S.at 0 rfl)) fun a S=>?_
      refine hK17 _ _ ?_
      refine wp_cond_false (S.at 0 rfl) ?_
      refine wp_skip ?_
      refine hK16 _ _ ?_
      refine wp_seq_k fun K24 hK24=>?_
      refine wp_seq_k fun K25 hK25=>?_
      have S:=S.keep [7,3,2] (ls':=[(7,.int .i64 (((s+1:Nat):Int))),(3,pT g2 0),(2,pT g1 0)]) rfl
      refine zaa ?_
      refine tv S (zad rfl (S.at 0 rfl)) fun a S=>?_
      refine tv S (zct _ (by decide) rfl (S.at 0 rfl) rfl) fun a S=>?_
      refine hK25 _ _ ?_
      rcases zuJ (decide (((s+1:Nat):Int)=1))with hc96|hc96
      ·refine wp_cond_true ((S.at 0 rfl).trans (congrArg Value.bool hc96)) ?_
       refine wp_seq_k fun K26 hK26=>?_
       refine zaa ?_
       refine tc S (F:=(fun v _=>v= .bool true)) (rc0 Tryz.func10) (zcl (T.keep S.below)) fun v a V39 hF hb S=>?_
       subst hF
       refine tv S (zam rfl (S.at 0 rfl)) fun a S=>?_
       refine hK26 _ _ ?_
       refine wp_ret ?_
       exact za5 rfl S (S.at 0 rfl) ⟨_,rfl,rfl,S.below⟩
      ·refine wp_cond_false ((S.at 0 rfl).trans (congrArg Value.bool hc96)) ?_
       have hs1:1≤s:=by have:=of_decide_eq_false hc96;omega
       refine wp_skip ?_
       refine hK24 _ _ ?_
       refine wp_seq_k fun K27 hK27=>?_
       refine zaa ?_
       refine ty S (F:=NT 1 ((1:Nat))) (zbQ (c:=1) rfl (by decide) (by decide)) fun v a V40 hF hb S=>?_
       obtain⟨x11,rfl,hN5,hn5,hk16,ok16⟩:=hF
       have S:=S.know ok16
       refine tv S (zad rfl (S.at 3 rfl)) fun a S=>?_
       refine tv S (zeC (k:=s+1) (m:=2) (by omega) rfl (S.at 0 rfl) rfl (by omega)) fun a S=>?_
       refine tc S (F:=NT 42 ((1:Nat)*2^((s+1) - 2))) (rc2 Tryz.func43 (S.at 2 rfl) (S.at 0 rfl)) (zbn (zhS (k:=(s+1) - 2) (show NT 1 ((1:Nat)) (aS x11) _ from⟨x11,rfl,hN5,hn5,hk16,(S.num 0 rfl)⟩).any (by decide) (by omega)) (fun v V2 h=>h.to rfl (by omega))) fun v a V41 hF hb S=>?_
       obtain⟨x12,rfl,hN6,hn6,hk17,ok17⟩:=hF
       have S:=S.know ok17
       refine tv S (zbp rfl (S.at 0 rfl) (zdQ _ _ _)) fun a S=>?_
       refine ty S (F:=NT 1 ((1:Nat))) (zbQ (c:=1) rfl (by decide) (by decide)) fun v a V42 hF hb S=>?_
       obtain⟨x13,rfl,hN7,hn7,hk18,ok18⟩:=hF
       have S:=S.know ok18
       refine tv S (zaL rfl (S.at 1 rfl) (S.at 0 rfl) (zcs _ _ _ _ _ _ _)) fun a S=>?_
       refine ti S (cs:=[.bool false,.slice none 0 0,.slice none 0 0]) (zap rfl (Tryz.zeroValue27 _) rfl) (fun g8=>[⟨g1,27,(aL b0_ x0_ y0_)⟩,⟨g2,27,(aL b1_ x1_ y1_)⟩,⟨g3,27,(aL b1 x1 y1)⟩,⟨g4,27,(aL b2 x2 y2)⟩,⟨g5,27,(aL b4 x4 y4)⟩,⟨g8,27,[.bool false,.slice none 0 0,.slice none 0 0]⟩]) fun g8 a V43 hgg8 S=>?_
       refine zal S (i:=5) (vs:=(aL false x12 x13)) rfl (fun ht=>zah rfl (S.at 0 rfl) (S.at 1 rfl) zae rfl (zuz rfl) ht) (zuz rfl) rfl rfl rfl (lb':=[⟨g1,27,(aL b0_ x0_ y0_)⟩,⟨g2,27,(aL b1_ x1_ y1_)⟩,⟨g3,27,(aL b1 x1 y1)⟩,⟨g4,27,(aL b2 x2 y2)⟩,⟨g5,27,(aL b4 x4 y4)⟩,⟨g8,27,(aL false x12 x13)⟩]) rfl (fun V44 S=>?_)
       refine hK27 _ _ ?_
       refine wp_seq_k fun K28 hK28=>?_
       refine zaa ?_
       refine tv S (zab rfl (S.at 12 rfl) (S.bx 0 rfl) Tryz.underlying27 rfl (vs:=(aL b0_ x0_ y0_)) zae rfl) fun a S=>?_
       refine tv S (zab rfl (S.at 1 rfl) (S.bx 5 rfl) Tryz.underlying27 rfl (vs:=(aL false x12 x13)) zae rfl) fun a S=>?_
       refine ty S (F:=QL 42 6 ([q0,((2:Rat)^((s+1) - 2))])) (zbI rfl (S.at 1 rfl) (S.at 0 rfl) (((show Q1 40 (q0) ((aG b0_ x0_ y0_)) _ from⟨b0_,x0_,y0_,rfl,hqa0,hkx0,hky0,(S.num 13 rfl),(S.num 14 rfl)⟩)).to rfl (by omega)) (show Q1 42 (((2:Rat)^((s+1) - 2))) ((aG false x12 x13)) _ from⟨false,x12,x13,rfl,zeg rfl hN6 hN7,zuC hk17 (by decide),zuC hk18 (by decide),(S.num 1 rfl),(S.num 0 rfl)⟩)) fun v a V45 hF hb S=>?_
       obtain⟨ov4,hov4⟩:∃z,z=v:=⟨_,rfl⟩
       rw[←hov4]at hF S
       have rov4:=hF
       refine tc S (F:=QT 84 (q0*((2:Rat)^((s+1) - 2)))) (rc1 Tryz.func31 (S.at 0 rfl)) (zek (rov4).row (by decide)) fun v a V46 hF hb S=>?_
       replace rov4:=rov4.keep hb
       obtain⟨b7,x14,y6,rfl,hq6,hk19,hk20,ok19,ok20⟩:=hF
       have S:=S.know ok19
       have S:=S.know ok20
       refine tc S (F:=ZT 42 (Rat.floor (q0*((2:Rat)^((s+1) - 2))))) (rc1 Tryz.func40 (S.at 0 rfl)) (zbn (zfA (show QT 84 (q0*((2:Rat)^((s+1) - 2))) ((aG b7 x14 y6)) _ from⟨b7,x14,y6,rfl,hq6,hk19,hk20,(S.num 1 rfl),(S.num 0 rfl)⟩).any (by decide)) (fun v V2 h=>h.lim (zfC hn0 (by omega)))) fun v a V47 hF hb S=>?_
       replace rov4:=rov4.keep hb
       obtain⟨b8,x15,rfl,hz2,hk21,ok21⟩:=hF
       have S:=S.know ok21
       refine ty S (F:=NT 1 ((1:Nat))) (zbQ (c:=1) rfl (by decide) (by decide)) fun v a V48 hF hb S=>?_
       replace rov4:=rov4.keep hb
       obtain⟨x16,rfl,hN8,hn8,hk22,ok22⟩:=hF
       have S:=S.know ok22
       refine tv S (zaL rfl (S.at 1 rfl) (S.at 0 rfl) (zcs _ _ _ _ _ _ _)) fun a S=>?_
       refine ti S (cs:=[.bool false,.slice none 0 0,.slice none 0 0]) (zap rfl (Tryz.zeroValue27 _) rfl) (fun g9=>[⟨g1,27,(aL b0_ x0_ y0_)⟩,⟨g2,27,(aL b1_ x1_ y1_)⟩,⟨g3,27,(aL b1 x1 y1)⟩,⟨g4,27,(aL b2 x2 y2)⟩,⟨g5,27,(aL b4 x4 y4)⟩,⟨g8,27,(aL false x12 x13)⟩,⟨g9,27,[.bool false,.slice none 0 0,.slice none 0 0]⟩]) fun g9 a V49 hgg9 S=>?_
       refine zal S (i:=6) (vs:=(aL b8 x15 x16)) rfl (fun ht=>zah rfl (S.at 0 rfl) (S.at 1 rfl) zae rfl (zuz rfl) ht) (zuz rfl) rfl rfl rfl (lb':=[⟨g1,27,(aL b0_ x0_ y0_)⟩,⟨g2,27,(aL b1_ x1_ y1_)⟩,⟨g3,27,(aL b1 x1 y1)⟩,⟨g4,27,(aL b2 x2 y2)⟩,⟨g5,27,(aL b4 x4 y4)⟩,⟨g8,27,(aL false x12 x13)⟩,⟨g9,27,(aL b8 x15 x16)⟩]) rfl (fun V50 S=>?_)
       refine hK28 _ _ ?_
       refine wp_seq_k fun K29 hK29=>?_
       have S:=S.keep [11,10,3] (ls':=[(11,pT g9 0),(10,pT g8 0),(3,pT g2 0)]) rfl
       obtain⟨W4,hW4⟩:∃W,W=V50:=⟨_,rfl⟩
       rw[←hW4]at S ⊢
       have S0:=S
       refine fr 13 [112,113,114,115,116,117,118,119,120,121,122,123,124] [IsV ((aG b8 x15 x16)),QT 2 ((1:Int)),QL 42 6 ([((Rat.floor (q0*((2:Rat)^((s+1) - 2))):Int):Rat),(1:Int)]),QT 85 (((Rat.floor (q0*((2:Rat)^((s+1) - 2))):Int):Rat)+(1:Int)),IsV ((aG b1_ x1_ y1_)),IsV ((aG false x12 x13)),QL 42 6 ([q1,((2:Rat)^((s+1) - 2))]),QT 84 (q1*((2:Rat)^((s+1) - 2))),IsV (.int .i64 (zaK (((Rat.floor (q0*((2:Rat)^((s+1) - 2))):Int):Rat)+(1:Int)) (q1*((2:Rat)^((s+1) - 2))))),IsV (.bool true),IsV (.bool true),IsV (.bool true),IsV (.bool true)] S ?_ ?_
       ·refine sc (fun _ _ S _ _=>sv rfl (zab rfl (S.at 0 rfl) (S.bx 6 rfl) Tryz.underlying27 rfl (vs:=(aL b8 x15 x16)) zae rfl)) ?_
        refine sc (fun _ _ _ _ _=>sl rfl (rcc Tryz.func23) (zhR (n:=1) (by decide))) ?_
        refine sc (fun _ _ S _ hd=>sy rfl (zbI rfl (hd.v 0 rfl rfl) rfl (show QT 42 (((Rat.floor (q0*((2:Rat)^((s+1) - 2))):Int):Rat)) ((aG b8 x15 x16)) _ from⟨b8,x15,x16,rfl,zj3 hz2 hN8 hn8,zuC hk21 (by decide),zuC hk22 (by decide),(S.num 1 rfl),(S.num 0 rfl)⟩).any ((((hd.r 1 rfl rfl)).any).to rfl (by omega)))) ?_
        refine sc (fun _ _ _ _ hd=>sl rfl (rc1 Tryz.func29 rfl) (zfa ((hd.r 2 rfl rfl)).row (by decide))) ?_
        refine sc (fun _ _ S _ _=>sv rfl (zab rfl (S.at 2 rfl) (S.bx 1 rfl) Tryz.underlying27 rfl (vs:=(aL b1_ x1_ y1_)) zae rfl)) ?_
        refine sc (fun _ _ S _ _=>sv rfl (zab rfl (S.at 1 rfl) (S.bx 5 rfl) Tryz.underlying27 rfl (vs:=(aL false x12 x13)) zae rfl)) ?_
        refine sc (fun _ _ S _ hd=>sy rfl (zbI rfl (hd.v 4 rfl rfl) (hd.v 5 rfl rfl) (((show Q1 40 (q1) ((aG b1_ x1_ y1_)) _ from⟨b1_,x1_,y1_,rfl,hqa1,hkx1,hky1,(S.num 15 rfl),(S.num 16 rfl)⟩)).to rfl (by omega)) (show Q1 42 (((2:Rat)^((s+1) - 2))) ((aG false x12 x13)) _ from⟨false,x12,x13,rfl,zeg rfl hN6 hN7,zuC hk17 (by decide),zuC hk18 (by decide),(S.num 5 rfl),(S.num 4 rfl)⟩))) ?_
        refine sc (fun _ _ _ _ hd=>sl rfl (rc1 Tryz.func31 rfl) (zek ((hd.r 6 rfl rfl)).row (by decide))) ?_
        refine sc (fun _ _ _ _ hd=>sl rfl (rc2 Tryz.func19 rfl rfl) (zds ((hd.r 3 rfl rfl)).any ((hd.r 7 rfl rfl)).any (by decide) (by decide))) ?_
        refine sc (fun _ _ _ _ hd=>sv rfl (zbc (zc3 rfl (hd.v 8 rfl rfl) rfl) (show(decide (0≤zaK (((Rat.floor (q0*((2:Rat)^((s+1) - 2))):Int):Rat)+(1:Int)) (q1*((2:Rat)^((s+1) - 2)))))=true from(decide_eq_true (zeG (hnr _ (by omega))))))) ?_
        refine sc (fun _ _ _ _ hd=>sv rfl (zad rfl (hd.v 9 rfl rfl))) ?_
        refine sc (fun _ _ S _ hd=>slg rfl (hd.v 10 rfl rfl) (rc0 Tryz.func10) (zcl (T.keep S.below))) ?_
        refine sc (fun _ _ _ _ hd=>sv rfl (zaM true rfl (hd.v 10 rfl rfl) (hd.v 11 rfl rfl))) ?_
        exact sn
       ·intro a4 V51 S hB hf
        have S:=S.add (hf.v 12 rfl rfl)
        clear hf S0
        show wpList _ _ _ [_] _ _
        refine tv S (zam rfl (S.at 0 rfl)) fun a S=>?_
        refine hK29 _ _ ?_
        refine wp_ret ?_
        exact za5 rfl S (S.at 0 rfl) ⟨_,rfl,rfl,S.below⟩
    ·refine wp_cond_false ((S.at 0 rfl).trans (congrArg Value.bool hc75)) ?_
     refine wp_skip ?_
     refine hK14 _ _ ?_
     refine wp_seq_k fun K30 hK30=>?_
     refine wp_seq_k fun K31 hK31=>?_
     rcases zuJ (decide (zaK (zba q0 q1) 0=0))with hs15|hs15
     ·skip
      have S:=S.keep [9,7,5,3,2] (ls':=[(9,pT g5 0),(7,.int .i64 (((s+1:Nat):Int))),(5,pT g3 0),(3,pT g2 0),(2,pT g1 0)]) rfl
      refine zaa ?_
      refine tv S (zab rfl (S.at 2 rfl) (S.bx 2 rfl) Tryz.underlying27 rfl (vs:=(aL b1 x1 y1)) zae rfl) fun a S=>?_
      refine tc S (F:=(fun v _=>v= .int .i64 (zaK (zba q0 q1) 0))) (rc1 Tryz.func17 (S.at 0 rfl)) (zej (show QT 42 (zba q0 q1) ((aG b1 x1 y1)) _ from⟨b1,x1,y1,rfl,hq1,hk1,hk2,(S.num 5 rfl),(S.num 4 rfl)⟩).any) fun v a V52 hF hb S=>?_
      subst hF
      refine tv S (zbc (zdR _ (by decide) rfl (S.at 0 rfl) rfl) (show(!decide (zaK (zba q0 q1) 0=0))=false from(by rw[hs15];rfl))) fun a S=>?_
      refine tv S (zad rfl (S.at 0 rfl)) fun a S=>?_
      refine tk S (S.at 0 rfl) fun a S=>?_
      refine tk S (S.at 1 rfl) fun a S=>?_
      refine tk S (S.at 2 rfl) fun a S=>?_
      refine tk S (S.at 3 rfl) fun a S=>?_
      refine tv S (zaM false rfl (S.at 4 rfl) rfl) fun a S=>?_
      refine tv S (zad rfl (S.at 0 rfl)) fun a S=>?_
      refine tk S (S.at 0 rfl) fun a S=>?_
      refine tk S (S.at 1 rfl) fun a S=>?_
      refine tk S (S.at 2 rfl) fun a S=>?_
      refine tk S (S.at 3 rfl) fun a S=>?_
      refine tv S (zaM false rfl (S.at 4 rfl) rfl) fun a S=>?_
      refine hK31 _ _ ?_
      refine wp_cond_false (S.at 0 rfl) ?_
      refine wp_skip ?_
      refine hK30 _ _ ?_
      refine wp_seq_k fun K32 hK32=>?_
      refine wp_seq_k fun K33 hK33=>?_
      have S:=S.keep [7,3,2] (ls':=[(7,.int .i64 (((s+1:Nat):Int))),(3,pT g2 0),(2,pT g1 0)]) rfl
      refine zaa ?_
      refine tv S (zad rfl (S.at 0 rfl)) fun a S=>?_
      refine tv S (zct _ (by decide) rfl (S.at 0 rfl) rfl) fun a S=>?_
      refine hK33 _ _ ?_
      rcases zuJ (decide (((s+1:Nat):Int)=1))with hc96|hc96
      ·refine wp_cond_true ((S.at 0 rfl).trans (congrArg Value.bool hc96)) ?_
       refine wp_seq_k fun K34 hK34=>?_
       refine zaa ?_
       refine tc S (F:=(fun v _=>v= .bool true)) (rc0 Tryz.func10) (zcl (T.keep S.below)) fun v a V53 hF hb S=>?_
       subst hF
       refine tv S (zam rfl (S.at 0 rfl)) fun a S=>?_
       refine hK34 _ _ ?_
       refine wp_ret ?_
       exact za5 rfl S (S.at 0 rfl) ⟨_,rfl,rfl,S.below⟩
      ·refine wp_cond_false ((S.at 0 rfl).trans (congrArg Value.bool hc96)) ?_
       have hs1:1≤s:=by have:=of_decide_eq_false hc96;omega
       refine wp_skip ?_
       refine hK32 _ _ ?_
       refine wp_seq_k fun K35 hK35=>?_
       refine zaa ?_
       refine ty S (F:=NT 1 ((1:Nat))) (zbQ (c:=1) rfl (by decide) (by decide)) fun v a V54 hF hb S=>?_
       obtain⟨x17,rfl,hN9,hn9,hk23,ok23⟩:=hF
       have S:=S.know ok23
       refine tv S (zad rfl (S.at 3 rfl)) fun a S=>?_
       refine tv S (zeC (k:=s+1) (m:=2) (by omega) rfl (S.at 0 rfl) rfl (by omega)) fun a S=>?_
       refine tc S (F:=NT 42 ((1:Nat)*2^((s+1) - 2))) (rc2 Tryz.func43 (S.at 2 rfl) (S.at 0 rfl)) (zbn (zhS (k:=(s+1) - 2) (show NT 1 ((1:Nat)) (aS x17) _ from⟨x17,rfl,hN9,hn9,hk23,(S.num 0 rfl)⟩).any (by decide) (by omega)) (fun v V2 h=>h.to rfl (by omega))) fun v a V55 hF hb S=>?_
       obtain⟨x18,rfl,hN10,hn10,hk24,ok24⟩:=hF
       have S:=S.know ok24
       refine tv S (zbp rfl (S.at 0 rfl) (zdQ _ _ _)) fun a S=>?_
       refine ty S (F:=NT 1 ((1:Nat))) (zbQ (c:=1) rfl (by decide) (by decide)) fun v a V56 hF hb S=>?_
       obtain⟨x19,rfl,hN11,hn11,hk25,ok25⟩:=hF
       have S:=S.know ok25
       refine tv S (zaL rfl (S.at 1 rfl) (S.at 0 rfl) (zcs _ _ _ _ _ _ _)) fun a S=>?_
       refine ti S (cs:=[.bool false,.slice none 0 0,.slice none 0 0]) (zap rfl (Tryz.zeroValue27 _) rfl) (fun g10=>[⟨g1,27,(aL b0_ x0_ y0_)⟩,⟨g2,27,(aL b1_ x1_ y1_)⟩,⟨g3,27,(aL b1 x1 y1)⟩,⟨g4,27,(aL b2 x2 y2)⟩,⟨g5,27,(aL b3 x3 y3)⟩,⟨g10,27,[.bool false,.slice none 0 0,.slice none 0 0]⟩]) fun g10 a V57 hgg10 S=>?_
       refine zal S (i:=5) (vs:=(aL false x18 x19)) rfl (fun ht=>zah rfl (S.at 0 rfl) (S.at 1 rfl) zae rfl (zuz rfl) ht) (zuz rfl) rfl rfl rfl (lb':=[⟨g1,27,(aL b0_ x0_ y0_)⟩,⟨g2,27,(aL b1_ x1_ y1_)⟩,⟨g3,27,(aL b1 x1 y1)⟩,⟨g4,27,(aL b2 x2 y2)⟩,⟨g5,27,(aL b3 x3 y3)⟩,⟨g10,27,(aL false x18 x19)⟩]) rfl (fun V58 S=>?_)
       refine hK35 _ _ ?_
       refine wp_seq_k fun K36 hK36=>?_
       refine zaa ?_
       refine tv S (zab rfl (S.at 12 rfl) (S.bx 0 rfl) Tryz.underlying27 rfl (vs:=(aL b0_ x0_ y0_)) zae rfl) fun a S=>?_
       refine tv S (zab rfl (S.at 1 rfl) (S.bx 5 rfl) Tryz.underlying27 rfl (vs:=(aL false x18 x19)) zae rfl) fun a S=>?_
       refine ty S (F:=QL 42 6 ([q0,((2:Rat)^((s+1) - 2))])) (zbI rfl (S.at 1 rfl) (S.at 0 rfl) (((show Q1 40 (q0) ((aG b0_ x0_ y0_)) _ from⟨b0_,x0_,y0_,rfl,hqa0,hkx0,hky0,(S.num 11 rfl),(S.num 12 rfl)⟩)).to rfl (by omega)) (show Q1 42 (((2:Rat)^((s+1) - 2))) ((aG false x18 x19)) _ from⟨false,x18,x19,rfl,zeg rfl hN10 hN11,zuC hk24 (by decide),zuC hk25 (by decide),(S.num 1 rfl),(S.num 0 rfl)⟩)) fun v a V59 hF hb S=>?_
       obtain⟨ov5,hov5⟩:∃z,z=v:=⟨_,rfl⟩
       rw[←hov5]at hF S
       have rov5:=hF
       refine tc S (F:=QT 84 (q0*((2:Rat)^((s+1) - 2)))) (rc1 Tryz.func31 (S.at 0 rfl)) (zek (rov5).row (by decide)) fun v a V60 hF hb S=>?_
       replace rov5:=rov5.keep hb
       obtain⟨b9,x20,y7,rfl,hq7,hk26,hk27,ok26,ok27⟩:=hF
       have S:=S.know ok26
       have S:=S.know ok27
       refine tc S (F:=ZT 42 (Rat.floor (q0*((2:Rat)^((s+1) - 2))))) (rc1 Tryz.func40 (S.at 0 rfl)) (zbn (zfA (show QT 84 (q0*((2:Rat)^((s+1) - 2))) ((aG b9 x20 y7)) _ from⟨b9,x20,y7,rfl,hq7,hk26,hk27,(S.num 1 rfl),(S.num 0 rfl)⟩).any (by decide)) (fun v V2 h=>h.lim (zfC hn0 (by omega)))) fun v a V61 hF hb S=>?_
       replace rov5:=rov5.keep hb
       obtain⟨b10,x21,rfl,hz3,hk28,ok28⟩:=hF
       have S:=S.know ok28
       refine ty S (F:=NT 1 ((1:Nat))) (zbQ (c:=1) rfl (by decide) (by decide)) fun v a V62 hF hb S=>?_
       replace rov5:=rov5.keep hb
       obtain⟨x22,rfl,hN12,hn12,hk29,ok29⟩:=hF
       have S:=S.know ok29
       refine tv S (zaL rfl (S.at 1 rfl) (S.at 0 rfl) (zcs _ _ _ _ _ _ _)) fun a S=>?_
       refine ti S (cs:=[.bool false,.slice none 0 0,.slice none 0 0]) (zap rfl (Tryz.zeroValue27 _) rfl) (fun g11=>[⟨g1,27,(aL b0_ x0_ y0_)⟩,⟨g2,27,(aL b1_ x1_ y1_)⟩,⟨g3,27,(aL b1 x1 y1)⟩,⟨g4,27,(aL b2 x2 y2)⟩,⟨g5,27,(aL b3 x3 y3)⟩,⟨g10,27,(aL false x18 x19)⟩,⟨g11,27,[.bool false,.slice none 0 0,.slice none 0 0]⟩]) fun g11 a V63 hgg11 S=>?_
       refine zal S (i:=6) (vs:=(aL b10 x21 x22)) rfl (fun ht=>zah rfl (S.at 0 rfl) (S.at 1 rfl) zae rfl (zuz rfl) ht) (zuz rfl) rfl rfl rfl (lb':=[⟨g1,27,(aL b0_ x0_ y0_)⟩,⟨g2,27,(aL b1_ x1_ y1_)⟩,⟨g3,27,(aL b1 x1 y1)⟩,⟨g4,27,(aL b2 x2 y2)⟩,⟨g5,27,(aL b3 x3 y3)⟩,⟨g10,27,(aL false x18 x19)⟩,⟨g11,27,(aL b10 x21 x22)⟩]) rfl (fun V64 S=>?_)
       refine hK36 _ _ ?_
       refine wp_seq_k fun K37 hK37=>?_
       have S:=S.keep [11,10,3] (ls':=[(11,pT g11 0),(10,pT g10 0),(3,pT g2 0)]) rfl
       obtain⟨W5,hW5⟩:∃W,W=V64:=⟨_,rfl⟩
       rw[←hW5]at S ⊢
       have S0:=S
       refine fr 13 [112,113,114,115,116,117,118,119,120,121,122,123,124] [IsV ((aG b10 x21 x22)),QT 2 ((1:Int)),QL 42 6 ([((Rat.floor (q0*((2:Rat)^((s+1) - 2))):Int):Rat),(1:Int)]),QT 85 (((Rat.floor (q0*((2:Rat)^((s+1) - 2))):Int):Rat)+(1:Int)),IsV ((aG b1_ x1_ y1_)),IsV ((aG false x18 x19)),QL 42 6 ([q1,((2:Rat)^((s+1) - 2))]),QT 84 (q1*((2:Rat)^((s+1) - 2))),IsV (.int .i64 (zaK (((Rat.floor (q0*((2:Rat)^((s+1) - 2))):Int):Rat)+(1:Int)) (q1*((2:Rat)^((s+1) - 2))))),IsV (.bool true),IsV (.bool true),IsV (.bool true),IsV (.bool true)] S ?_ ?_
       ·refine sc (fun _ _ S _ _=>sv rfl (zab rfl (S.at 0 rfl) (S.bx 6 rfl) Tryz.underlying27 rfl (vs:=(aL b10 x21 x22)) zae rfl)) ?_
        refine sc (fun _ _ _ _ _=>sl rfl (rcc Tryz.func23) (zhR (n:=1) (by decide))) ?_
        refine sc (fun _ _ S _ hd=>sy rfl (zbI rfl (hd.v 0 rfl rfl) rfl (show QT 42 (((Rat.floor (q0*((2:Rat)^((s+1) - 2))):Int):Rat)) ((aG b10 x21 x22)) _ from⟨b10,x21,x22,rfl,zj3 hz3 hN12 hn12,zuC hk28 (by decide),zuC hk29 (by decide),(S.num 1 rfl),(S.num 0 rfl)⟩).any ((((hd.r 1 rfl rfl)).any).to rfl (by omega)))) ?_
        refine sc (fun _ _ _ _ hd=>sl rfl (rc1 Tryz.func29 rfl) (zfa ((hd.r 2 rfl rfl)).row (by decide))) ?_
        refine sc (fun _ _ S _ _=>sv rfl (zab rfl (S.at 2 rfl) (S.bx 1 rfl) Tryz.underlying27 rfl (vs:=(aL b1_ x1_ y1_)) zae rfl)) ?_
        refine sc (fun _ _ S _ _=>sv rfl (zab rfl (S.at 1 rfl) (S.bx 5 rfl) Tryz.underlying27 rfl (vs:=(aL false x18 x19)) zae rfl)) ?_
        refine sc (fun _ _ S _ hd=>sy rfl (zbI rfl (hd.v 4 rfl rfl) (hd.v 5 rfl rfl) (((show Q1 40 (q1) ((aG b1_ x1_ y1_)) _ from⟨b1_,x1_,y1_,rfl,hqa1,hkx1,hky1,(S.num 13 rfl),(S.num 14 rfl)⟩)).to rfl (by omega)) (show Q1 42 (((2:Rat)^((s+1) - 2))) ((aG false x18 x19)) _ from⟨false,x18,x19,rfl,zeg rfl hN10 hN11,zuC hk24 (by decide),zuC hk25 (by decide),(S.num 5 rfl),(S.num 4 rfl)⟩))) ?_
        refine sc (fun _ _ _ _ hd=>sl rfl (rc1 Tryz.func31 rfl) (zek ((hd.r 6 rfl rfl)).row (by decide))) ?_
        refine sc (fun _ _ _ _ hd=>sl rfl (rc2 Tryz.func19 rfl rfl) (zds ((hd.r 3 rfl rfl)).any ((hd.r 7 rfl rfl)).any (by decide) (by decide))) ?_
        refine sc (fun _ _ _ _ hd=>sv rfl (zbc (zc3 rfl (hd.v 8 rfl rfl) rfl) (show(decide (0≤zaK (((Rat.floor (q0*((2:Rat)^((s+1) - 2))):Int):Rat)+(1:Int)) (q1*((2:Rat)^((s+1) - 2)))))=true from(decide_eq_true (zeG (hnr _ (by omega))))))) ?_
        refine sc (fun _ _ _ _ hd=>sv rfl (zad rfl (hd.v 9 rfl rfl))) ?_
        refine sc (fun _ _ S _ hd=>slg rfl (hd.v 10 rfl rfl) (rc0 Tryz.func10) (zcl (T.keep S.below))) ?_
        refine sc (fun _ _ _ _ hd=>sv rfl (zaM true rfl (hd.v 10 rfl rfl) (hd.v 11 rfl rfl))) ?_
        exact sn
       ·intro a5 V65 S hB hf
        have S:=S.add (hf.v 12 rfl rfl)
        clear hf S0
        show wpList _ _ _ [_] _ _
        refine tv S (zam rfl (S.at 0 rfl)) fun a S=>?_
        refine hK37 _ _ ?_
        refine wp_ret ?_
        exact za5 rfl S (S.at 0 rfl) ⟨_,rfl,rfl,S.below⟩
     ·skip
      have S:=S.keep [9,7,5,3,2] (ls':=[(9,pT g5 0),(7,.int .i64 (((s+1:Nat):Int))),(5,pT g3 0),(3,pT g2 0),(2,pT g1 0)]) rfl
      refine zaa ?_
      refine tv S (zab rfl (S.at 2 rfl) (S.bx 2 rfl) Tryz.underlying27 rfl (vs:=(aL b1 x1 y1)) zae rfl) fun a S=>?_
      refine tc S (F:=(fun v _=>v= .int .i64 (zaK (zba q0 q1) 0))) (rc1 Tryz.func17 (S.at 0 rfl)) (zej (show QT 42 (zba q0 q1) ((aG b1 x1 y1)) _ from⟨b1,x1,y1,rfl,hq1,hk1,hk2,(S.num 5 rfl),(S.num 4 rfl)⟩).any) fun v a V66 hF hb S=>?_
      subst hF
      refine tv S (zbc (zdR _ (by decide) rfl (S.at 0 rfl) rfl) (show(!decide (zaK (zba q0 q1) 0=0))=true from(by rw[hs15];rfl))) fun a S=>?_
      refine tv S (zad rfl (S.at 0 rfl)) fun a S=>?_
      refine tvg S (S.at 0 rfl) (zab rfl (S.at 8 rfl) (S.bx 0 rfl) Tryz.underlying27 rfl (vs:=(aL b0_ x0_ y0_)) zae rfl) fun a S=>?_
      refine tvg S (S.at 1 rfl) (zab rfl (S.at 5 rfl) (S.bx 4 rfl) Tryz.underlying27 rfl (vs:=(aL b3 x3 y3)) zae rfl) fun a S=>?_
      refine tcg S (S.at 2 rfl) (F:=(fun v _=>v= .int .i64 (zaK q0 ((zba q0 q1) - (1/2^s:Rat))))) (rc2 Tryz.func19 (S.at 1 rfl) (S.at 0 rfl)) (zds (show Q1 40 (q0) ((aG b0_ x0_ y0_)) _ from⟨b0_,x0_,y0_,rfl,hqa0,hkx0,hky0,(S.num 8 rfl),(S.num 9 rfl)⟩) (show QT 85 ((zba q0 q1) - (1/2^s:Rat)) ((aG b3 x3 y3)) _ from⟨b3,x3,y3,rfl,hq3,hk5,hk6,(S.num 1 rfl),(S.num 0 rfl)⟩).any (by decide) (by decide)) fun v a V67 hF hb S=>?_
      subst hF
      refine tvg S (S.at 3 rfl) (zbc (zdj rfl (S.at 0 rfl) rfl) (show(decide (zaK q0 ((zba q0 q1) - (1/2^s:Rat))<0))=false from(zgT (hnp (zsF hc75 hs15))))) fun a S=>?_
      refine tv S (zaM true rfl (S.at 4 rfl) (S.at 0 rfl)) fun a S=>?_
      refine tv S (zad rfl (S.at 0 rfl)) fun a S=>?_
      refine tk S (S.at 0 rfl) fun a S=>?_
      refine tk S (S.at 1 rfl) fun a S=>?_
      refine tk S (S.at 2 rfl) fun a S=>?_
      refine tk S (S.at 3 rfl) fun a S=>?_
      refine tv S (zaM false rfl (S.at 4 rfl) rfl) fun a S=>?_
      refine hK31 _ _ ?_
      refine wp_cond_false (S.at 0 rfl) ?_
      refine wp_skip ?_
      refine hK30 _ _ ?_
      refine wp_seq_k fun K38 hK38=>?_
      refine wp_seq_k fun K39 hK39=>?_
      have S:=S.keep [7,3,2] (ls':=[(7,.int .i64 (((s+1:Nat):Int))),(3,pT g2 0),(2,pT g1 0)]) rfl
      refine zaa ?_
      refine tv S (zad rfl (S.at 0 rfl)) fun a S=>?_
      refine tv S (zct _ (by decide) rfl (S.at 0 rfl) rfl) fun a S=>?_
      refine hK39 _ _ ?_
      rcases zuJ (decide (((s+1:Nat):Int)=1))with hc96|hc96
      ·refine wp_cond_true ((S.at 0 rfl).trans (congrArg Value.bool hc96)) ?_
       refine wp_seq_k fun K40 hK40=>?_
       refine zaa ?_
       refine tc S (F:=(fun v _=>v= .bool true)) (rc0 Tryz.func10) (zcl (T.keep S.below)) fun v a V68 hF hb S=>?_
       subst hF
       refine tv S (zam rfl (S.at 0 rfl)) fun a S=>?_
       refine hK40 _ _ ?_
       refine wp_ret ?_
       exact za5 rfl S (S.at 0 rfl) ⟨_,rfl,rfl,S.below⟩
      ·refine wp_cond_false ((S.at 0 rfl).trans (congrArg Value.bool hc96)) ?_
       have hs1:1≤s:=by have:=of_decide_eq_false hc96;omega
       refine wp_skip ?_
       refine hK38 _ _ ?_
       refine wp_seq_k fun K41 hK41=>?_
       refine zaa ?_
       refine ty S (F:=NT 1 ((1:Nat))) (zbQ (c:=1) rfl (by decide) (by decide)) fun v a V69 hF hb S=>?_
       obtain⟨x23,rfl,hN13,hn13,hk30,ok30⟩:=hF
       have S:=S.know ok30
       refine tv S (zad rfl (S.at 3 rfl)) fun a S=>?_
       refine tv S (zeC (k:=s+1) (m:=2) (by omega) rfl (S.at 0 rfl) rfl (by omega)) fun a S=>?_
       refine tc S (F:=NT 42 ((1:Nat)*2^((s+1) - 2))) (rc2 Tryz.func43 (S.at 2 rfl) (S.at 0 rfl)) (zbn (zhS (k:=(s+1) - 2) (show NT 1 ((1:Nat)) (aS x23) _ from⟨x23,rfl,hN13,hn13,hk30,(S.num 0 rfl)⟩).any (by decide) (by omega)) (fun v V2 h=>h.to rfl (by omega))) fun v a V70 hF hb S=>?_
       obtain⟨x24,rfl,hN14,hn14,hk31,ok31⟩:=hF
       have S:=S.know ok31
       refine tv S (zbp rfl (S.at 0 rfl) (zdQ _ _ _)) fun a S=>?_
       refine ty S (F:=NT 1 ((1:Nat))) (zbQ (c:=1) rfl (by decide) (by decide)) fun v a V71 hF hb S=>?_
       obtain⟨x25,rfl,hN15,hn15,hk32,ok32⟩:=hF
       have S:=S.know ok32
       refine tv S (zaL rfl (S.at 1 rfl) (S.at 0 rfl) (zcs _ _ _ _ _ _ _)) fun a S=>?_
       refine ti S (cs:=[.bool false,.slice none 0 0,.slice none 0 0]) (zap rfl (Tryz.zeroValue27 _) rfl) (fun g12=>[⟨g1,27,(aL b0_ x0_ y0_)⟩,⟨g2,27,(aL b1_ x1_ y1_)⟩,⟨g3,27,(aL b1 x1 y1)⟩,⟨g4,27,(aL b2 x2 y2)⟩,⟨g5,27,(aL b3 x3 y3)⟩,⟨g12,27,[.bool false,.slice none 0 0,.slice none 0 0]⟩]) fun g12 a V72 hgg12 S=>?_
       refine zal S (i:=5) (vs:=(aL false x24 x25)) rfl (fun ht=>zah rfl (S.at 0 rfl) (S.at 1 rfl) zae rfl (zuz rfl) ht) (zuz rfl) rfl rfl rfl (lb':=[⟨g1,27,(aL b0_ x0_ y0_)⟩,⟨g2,27,(aL b1_ x1_ y1_)⟩,⟨g3,27,(aL b1 x1 y1)⟩,⟨g4,27,(aL b2 x2 y2)⟩,⟨g5,27,(aL b3 x3 y3)⟩,⟨g12,27,(aL false x24 x25)⟩]) rfl (fun V73 S=>?_)
       refine hK41 _ _ ?_
       refine wp_seq_k fun K42 hK42=>?_
       refine zaa ?_
       refine tv S (zab rfl (S.at 12 rfl) (S.bx 0 rfl) Tryz.underlying27 rfl (vs:=(aL b0_ x0_ y0_)) zae rfl) fun a S=>?_
       refine tv S (zab rfl (S.at 1 rfl) (S.bx 5 rfl) Tryz.underlying27 rfl (vs:=(aL false x24 x25)) zae rfl) fun a S=>?_
       refine ty S (F:=QL 42 6 ([q0,((2:Rat)^((s+1) - 2))])) (zbI rfl (S.at 1 rfl) (S.at 0 rfl) (((show Q1 40 (q0) ((aG b0_ x0_ y0_)) _ from⟨b0_,x0_,y0_,rfl,hqa0,hkx0,hky0,(S.num 11 rfl),(S.num 12 rfl)⟩)).to rfl (by omega)) (show Q1 42 (((2:Rat)^((s+1) - 2))) ((aG false x24 x25)) _ from⟨false,x24,x25,rfl,zeg rfl hN14 hN15,zuC hk31 (by decide),zuC hk32 (by decide),(S.num 1 rfl),(S.num 0 rfl)⟩)) fun v a V74 hF hb S=>?_
       obtain⟨ov6,hov6⟩:∃z,z=v:=⟨_,rfl⟩
       rw[←hov6]at hF S
       have rov6:=hF
       refine tc S (F:=QT 84 (q0*((2:Rat)^((s+1) - 2)))) (rc1 Tryz.func31 (S.at 0 rfl)) (zek (rov6).row (by decide)) fun v a V75 hF hb S=>?_
       replace rov6:=rov6.keep hb
       obtain⟨b11,x26,y8,rfl,hq8,hk33,hk34,ok33,ok34⟩:=hF
       have S:=S.know ok33
       have S:=S.know ok34
       refine tc S (F:=ZT 42 (Rat.floor (q0*((2:Rat)^((s+1) - 2))))) (rc1 Tryz.func40 (S.at 0 rfl)) (zbn (zfA (show QT 84 (q0*((2:Rat)^((s+1) - 2))) ((aG b11 x26 y8)) _ from⟨b11,x26,y8,rfl,hq8,hk33,hk34,(S.num 1 rfl),(S.num 0 rfl)⟩).any (by decide)) (fun v V2 h=>h.lim (zfC hn0 (by omega)))) fun v a V76 hF hb S=>?_
       replace rov6:=rov6.keep hb
       obtain⟨b12,x27,rfl,hz4,hk35,ok35⟩:=hF
       have S:=S.know ok35
       refine ty S (F:=NT 1 ((1:Nat))) (zbQ (c:=1) rfl (by decide) (by decide)) fun v a V77 hF hb S=>?_
       replace rov6:=rov6.keep hb
       obtain⟨x28,rfl,hN16,hn16,hk36,ok36⟩:=hF
       have S:=S.know ok36
       refine tv S (zaL rfl (S.at 1 rfl) (S.at 0 rfl) (zcs _ _ _ _ _ _ _)) fun a S=>?_
       refine ti S (cs:=[.bool false,.slice none 0 0,.slice none 0 0]) (zap rfl (Tryz.zeroValue27 _) rfl) (fun g13=>[⟨g1,27,(aL b0_ x0_ y0_)⟩,⟨g2,27,(aL b1_ x1_ y1_)⟩,⟨g3,27,(aL b1 x1 y1)⟩,⟨g4,27,(aL b2 x2 y2)⟩,⟨g5,27,(aL b3 x3 y3)⟩,⟨g12,27,(aL false x24 x25)⟩,⟨g13,27,[.bool false,.slice none 0 0,.slice none 0 0]⟩]) fun g13 a V78 hgg13 S=>?_
       refine zal S (i:=6) (vs:=(aL b12 x27 x28)) rfl (fun ht=>zah rfl (S.at 0 rfl) (S.at 1 rfl) zae rfl (zuz rfl) ht) (zuz rfl) rfl rfl rfl (lb':=[⟨g1,27,(aL b0_ x0_ y0_)⟩,⟨g2,27,(aL b1_ x1_ y1_)⟩,⟨g3,27,(aL b1 x1 y1)⟩,⟨g4,27,(aL b2 x2 y2)⟩,⟨g5,27,(aL b3 x3 y3)⟩,⟨g12,27,(aL false x24 x25)⟩,⟨g13,27,(aL b12 x27 x28)⟩]) rfl (fun V79 S=>?_)
       refine hK42 _ _ ?_
       refine wp_seq_k fun K43 hK43=>?_
       have S:=S.keep [11,10,3] (ls':=[(11,pT g13 0),(10,pT g12 0),(3,pT g2 0)]) rfl
       obtain⟨W6,hW6⟩:∃W,W=V79:=⟨_,rfl⟩
       rw[←hW6]at S ⊢
       have S0:=S
       refine fr 13 [112,113,114,115,116,117,118,119,120,121,122,123,124] [IsV ((aG b12 x27 x28)),QT 2 ((1:Int)),QL 42 6 ([((Rat.floor (q0*((2:Rat)^((s+1) - 2))):Int):Rat),(1:Int)]),QT 85 (((Rat.floor (q0*((2:Rat)^((s+1) - 2))):Int):Rat)+(1:Int)),IsV ((aG b1_ x1_ y1_)),IsV ((aG false x24 x25)),QL 42 6 ([q1,((2:Rat)^((s+1) - 2))]),QT 84 (q1*((2:Rat)^((s+1) - 2))),IsV (.int .i64 (zaK (((Rat.floor (q0*((2:Rat)^((s+1) - 2))):Int):Rat)+(1:Int)) (q1*((2:Rat)^((s+1) - 2))))),IsV (.bool true),IsV (.bool true),IsV (.bool true),IsV (.bool true)] S ?_ ?_
       ·refine sc (fun _ _ S _ _=>sv rfl (zab rfl (S.at 0 rfl) (S.bx 6 rfl) Tryz.underlying27 rfl (vs:=(aL b12 x27 x28)) zae rfl)) ?_
        refine sc (fun _ _ _ _ _=>sl rfl (rcc Tryz.func23) (zhR (n:=1) (by decide))) ?_
        refine sc (fun _ _ S _ hd=>sy rfl (zbI rfl (hd.v 0 rfl rfl) rfl (show QT 42 (((Rat.floor (q0*((2:Rat)^((s+1) - 2))):Int):Rat)) ((aG b12 x27 x28)) _ from⟨b12,x27,x28,rfl,zj3 hz4 hN16 hn16,zuC hk35 (by decide),zuC hk36 (by decide),(S.num 1 rfl),(S.num 0 rfl)⟩).any ((((hd.r 1 rfl rfl)).any).to rfl (by omega)))) ?_
        refine sc (fun _ _ _ _ hd=>sl rfl (rc1 Tryz.func29 rfl) (zfa ((hd.r 2 rfl rfl)).row (by decide))) ?_
        refine sc (fun _ _ S _ _=>sv rfl (zab rfl (S.at 2 rfl) (S.bx 1 rfl) Tryz.underlying27 rfl (vs:=(aL b1_ x1_ y1_)) zae rfl)) ?_
        refine sc (fun _ _ S _ _=>sv rfl (zab rfl (S.at 1 rfl) (S.bx 5 rfl) Tryz.underlying27 rfl (vs:=(aL false x24 x25)) zae rfl)) ?_
        refine sc (fun _ _ S _ hd=>sy rfl (zbI rfl (hd.v 4 rfl rfl) (hd.v 5 rfl rfl) (((show Q1 40 (q1) ((aG b1_ x1_ y1_)) _ from⟨b1_,x1_,y1_,rfl,hqa1,hkx1,hky1,(S.num 13 rfl),(S.num 14 rfl)⟩)).to rfl (by omega)) (show Q1 42 (((2:Rat)^((s+1) - 2))) ((aG false x24 x25)) _ from⟨false,x24,x25,rfl,zeg rfl hN14 hN15,zuC hk31 (by decide),zuC hk32 (by decide),(S.num 5 rfl),(S.num 4 rfl)⟩))) ?_
        refine sc (fun _ _ _ _ hd=>sl rfl (rc1 Tryz.func31 rfl) (zek ((hd.r 6 rfl rfl)).row (by decide))) ?_
        refine sc (fun _ _ _ _ hd=>sl rfl (rc2 Tryz.func19 rfl rfl) (zds ((hd.r 3 rfl rfl)).any ((hd.r 7 rfl rfl)).any (by decide) (by decide))) ?_
        refine sc (fun _ _ _ _ hd=>sv rfl (zbc (zc3 rfl (hd.v 8 rfl rfl) rfl) (show(decide (0≤zaK (((Rat.floor (q0*((2:Rat)^((s+1) - 2))):Int):Rat)+(1:Int)) (q1*((2:Rat)^((s+1) - 2)))))=true from(decide_eq_true (zeG (hnr _ (by omega))))))) ?_
        refine sc (fun _ _ _ _ hd=>sv rfl (zad rfl (hd.v 9 rfl rfl))) ?_
        refine sc (fun _ _ S _ hd=>slg rfl (hd.v 10 rfl rfl) (rc0 Tryz.func10) (zcl (T.keep S.below))) ?_
        refine sc (fun _ _ _ _ hd=>sv rfl (zaM true rfl (hd.v 10 rfl rfl) (hd.v 11 rfl rfl))) ?_
        exact sn
       ·intro a6 V80 S hB hf
        have S:=S.add (hf.v 12 rfl rfl)
        clear hf S0
        show wpList _ _ _ [_] _ _
        refine tv S (zam rfl (S.at 0 rfl)) fun a S=>?_
        refine hK43 _ _ ?_
        refine wp_ret ?_
        exact za5 rfl S (S.at 0 rfl) ⟨_,rfl,rfl,S.below⟩
 ·skip
  have hno:=of_decide_eq_false hs0
  have hsm:Sm 42 (zba q0 q1):=by rw[zgG hno];exact zjf.mono (by decide)
  have S:=S.keep [3,2] (ls':=[(3,pT g2 0),(2,pT g1 0)]) rfl
  refine zaa ?_
  refine tv S (zab rfl (S.at 1 rfl) (S.bx 0 rfl) Tryz.underlying27 rfl (vs:=(aL b0_ x0_ y0_)) zae rfl) fun a S=>?_
  refine tv S (zab rfl (S.at 1 rfl) (S.bx 1 rfl) Tryz.underlying27 rfl (vs:=(aL b1_ x1_ y1_)) zae rfl) fun a S=>?_
  refine tc S (F:=QV 42 (zba q0 q1) (.bool (decide (q0<q1)))) (rc2 Tryz.func32 (S.at 1 rfl) (S.at 0 rfl)) (zbn (zfT (T.keep S.below) (show Q1 40 (q0) ((aG b0_ x0_ y0_)) _ from⟨b0_,x0_,y0_,rfl,hqa0,hkx0,hky0,(S.num 2 rfl),(S.num 3 rfl)⟩) (show Q1 40 (q1) ((aG b1_ x1_ y1_)) _ from⟨b1_,x1_,y1_,rfl,hqa1,hkx1,hky1,(S.num 0 rfl),(S.num 1 rfl)⟩) (by omega) (by omega)) (fun v V2 h=>h.sml hsm)) fun v a V81 hF hb S=>?_
  obtain⟨b13,x29,y9,rfl,hq9,hk37,hk38,ok37,ok38⟩:=hF
  have S:=S.know ok37
  have S:=S.know ok38
  refine tv S (zad rfl (S.at 0 rfl)) fun a S=>?_
  refine tv S (zaq rfl (S.at 0 rfl) rfl) fun a S=>?_
  refine tv S (zbc (zaq rfl (S.at 1 rfl) rfl) (show(decide (q0<q1))=false from hs0)) fun a S=>?_
  refine ti S (cs:=[.bool false,.slice none 0 0,.slice none 0 0]) (zap rfl (Tryz.zeroValue27 _) rfl) (fun g14=>[⟨g1,27,(aL b0_ x0_ y0_)⟩,⟨g2,27,(aL b1_ x1_ y1_)⟩,⟨g14,27,[.bool false,.slice none 0 0,.slice none 0 0]⟩]) fun g14 a V82 hgg14 S=>?_
  refine zal S (i:=2) (vs:=(aL b13 x29 y9)) rfl (fun ht=>zah rfl (S.at 0 rfl) (S.at 2 rfl) zae rfl (zuz rfl) ht) (zuz rfl) rfl rfl rfl (lb':=[⟨g1,27,(aL b0_ x0_ y0_)⟩,⟨g2,27,(aL b1_ x1_ y1_)⟩,⟨g14,27,(aL b13 x29 y9)⟩]) rfl (fun V83 S=>?_)
  refine tv S (zam rfl (S.at 1 rfl)) fun a S=>?_
  refine hK4 _ _ ?_
  refine wp_seq_k fun K44 hK44=>?_
  refine wp_seq_k fun K45 hK45=>?_
  refine zaa ?_
  refine tv S (zab rfl (S.at 9 rfl) (S.bx 0 rfl) Tryz.underlying27 rfl (vs:=(aL b0_ x0_ y0_)) zae rfl) fun a S=>?_
  refine tv S (zab rfl (S.at 9 rfl) (S.bx 1 rfl) Tryz.underlying27 rfl (vs:=(aL b1_ x1_ y1_)) zae rfl) fun a S=>?_
  refine tc S (F:=(fun v _=>v= .int .i64 (zaK q0 q1))) (rc2 Tryz.func19 (S.at 1 rfl) (S.at 0 rfl)) (zds (show Q1 40 (q0) ((aG b0_ x0_ y0_)) _ from⟨b0_,x0_,y0_,rfl,hqa0,hkx0,hky0,(S.num 4 rfl),(S.num 5 rfl)⟩) (show Q1 40 (q1) ((aG b1_ x1_ y1_)) _ from⟨b1_,x1_,y1_,rfl,hqa1,hkx1,hky1,(S.num 2 rfl),(S.num 3 rfl)⟩) (by decide) (by decide)) fun v a V84 hF hb S=>?_
  subst hF
  refine tv S (zbc (zc3 rfl (S.at 0 rfl) rfl) (show(decide (0≤zaK q0 q1))=true from(zcp.2 hno))) fun a S=>?_
  refine hK45 _ _ ?_
  refine wp_cond_true (S.at 0 rfl) ?_
  refine wp_seq_k fun K46 hK46=>?_
  have S:=S.keep [6,5] (ls':=[(6,.bool false),(5,pT g14 0)]) rfl
  obtain⟨W7,hW7⟩:∃W,W=V84:=⟨_,rfl⟩
  rw[←hW7]at S ⊢
  have S0:=S
  refine fr 10 [27,28,29,30,31,32,33,34,35,36] [IsV (.bool false),IsV (.bool true),IsV (.bool true),IsV ((aG b13 x29 y9)),QT 2 ((0:Int)),IsV (.bool true),IsV (.bool true),IsV (.bool true),IsV (.bool true),IsV (.bool true)] S ?_ ?_
  ·refine sc (fun _ _ S _ _=>sv rfl (zad rfl (S.at 0 rfl))) ?_
   refine sc (fun _ _ _ _ hd=>sv rfl (zcO (b:=false) rfl (hd.v 0 rfl rfl))) ?_
   refine sc (fun _ _ _ _ hd=>sv rfl (zad rfl (hd.v 1 rfl rfl))) ?_
   refine sc (fun _ _ S _ hd=>svg rfl (hd.v 2 rfl rfl) (zab rfl (S.at 1 rfl) (S.bx 2 rfl) Tryz.underlying27 rfl (vs:=(aL b13 x29 y9)) zae rfl)) ?_
   refine sc (fun _ _ _ _ hd=>slg rfl (hd.v 2 rfl rfl) (rcc Tryz.func23) (zhR (n:=0) (by decide))) ?_
   refine sc (fun _ _ S _ hd=>slg rfl (hd.v 2 rfl rfl) (rc2 Tryz.func15 (hd.v 3 rfl rfl) rfl) (zdm (show QT 42 (zba q0 q1) ((aG b13 x29 y9)) _ from⟨b13,x29,y9,rfl,hq9,hk37,hk38,(S.num 1 rfl),(S.num 0 rfl)⟩) (hd.r 4 rfl rfl) ((zgG hno).trans rfl))) ?_
   refine sc (fun _ _ _ _ hd=>sv rfl (zaM true rfl (hd.v 2 rfl rfl) (hd.v 5 rfl rfl))) ?_
   refine sc (fun _ _ _ _ hd=>sv rfl (zad rfl (hd.v 6 rfl rfl))) ?_
   refine sc (fun _ _ S _ hd=>slg rfl (hd.v 7 rfl rfl) (rc0 Tryz.func10) (zcl (T.keep S.below))) ?_
   refine sc (fun _ _ _ _ hd=>sv rfl (zaM true rfl (hd.v 7 rfl rfl) (hd.v 8 rfl rfl))) ?_
   exact sn
  ·intro a7 V85 S hB hf
   have S:=S.add (hf.v 9 rfl rfl)
   clear hf S0
   show wpList _ _ _ [_] _ _
   refine tv S (zam rfl (S.at 0 rfl)) fun a S=>?_
   refine hK46 _ _ ?_
   refine wp_ret ?_
   exact za5 rfl S (S.at 0 rfl) ⟨_,rfl,rfl,S.below⟩
theorem zk5 (b0_:Bool)(x0_ y0_:Num)(b1_:Bool)(x1_ y1_:Num){V:World}(T:TT V)(ox0:x0_.ok V V.heap.size)(oy0:y0_.ok V V.heap.size)(ox1:x1_.ok V V.heap.size)(oy1:y1_.ok V V.heap.size)(hG:zbR [(b0_,x0_,y0_),(b1_,x1_,y1_)]=true):
  Calls Tryz.prog 4 #[(aG b0_ x0_ y0_),(aG b1_ x1_ y1_)] V (zao V (fun v _=>v= .bool true)):=by
 obtain⟨q0,hqa0⟩:∃q,qOf b0_ x0_.N y0_.N=q:=⟨_,rfl⟩
 obtain⟨q1,hqa1⟩:∃q,qOf b1_ x1_.N y1_.N=q:=⟨_,rfl⟩
 refine zaD (e:=[x1_,y1_,x0_,y0_]) Tryz.func4 rfl Tryz.ntmps4 (zuz rfl) [(0,(aG b0_ x0_ y0_)),(1,(aG b1_ x1_ y1_))] rfl (zak ox1 (zak oy1 (zak ox0 (zak oy0 zaW)))) (fun a S=>?_)
 refine wp_seq_k fun K1 hK1=>?_
 refine zaa ?_
 refine ti S (cs:=(aL b0_ x0_ y0_)) (zaH rfl (S.at 0 rfl) rfl) (fun g1=>[⟨g1,27,(aL b0_ x0_ y0_)⟩]) fun g1 a V1 hgg1 S=>?_
 refine ti S (cs:=(aL b1_ x1_ y1_)) (zaH rfl (S.at 2 rfl) rfl) (fun g2=>[⟨g1,27,(aL b0_ x0_ y0_)⟩,⟨g2,27,(aL b1_ x1_ y1_)⟩]) fun g2 a V2 hgg2 S=>?_
 refine tv S (zau rfl) fun a S=>?_
 refine hK1 _ _ ?_
 refine wp_seq_k fun K2 hK2=>?_
 refine wp_seq_k fun K3 hK3=>?_
 refine zaa ?_
 refine tv S (zab rfl (S.at 2 rfl) (S.bx 0 rfl) Tryz.underlying27 rfl (vs:=(aL b0_ x0_ y0_)) zae rfl) fun a S=>?_
 refine tv S (zab rfl (S.at 2 rfl) (S.bx 1 rfl) Tryz.underlying27 rfl (vs:=(aL b1_ x1_ y1_)) zae rfl) fun a S=>?_
 refine ty S (F:=GL ([(b0_,x0_,y0_),(b1_,x1_,y1_)])) (zel rfl (S.at 1 rfl) (S.at 0 rfl) (S.num 2 rfl) (S.num 3 rfl) (S.num 0 rfl) (S.num 1 rfl)) fun v a V3 hF hb S=>?_
 obtain⟨ov1,hov1⟩:∃z,z=v:=⟨_,rfl⟩
 rw[←hov1]at hF S
 have rov1:=hF
 refine tc S (F:=(fun v _=>v= .bool true)) (rc1 Tryz.func9 (S.at 0 rfl)) (zdU rov1 hG) fun v a V4 hF hb S=>?_
 replace rov1:=rov1.keep hb
 subst hF
 refine hK3 _ _ ?_
 refine wp_cond_true (S.at 0 rfl) ?_
 refine wp_seq_k fun K4 hK4=>?_
 have S:=S.keep [4] (ls':=[(4,.bool false)]) rfl
 refine zaa ?_
 refine tc S (F:=(fun v _=>v= .bool true)) (rc0 Tryz.func10) (zcl (T.keep S.below)) fun v a V5 hF hb S=>?_
 subst hF
 refine zbk S (v:= .bool true) (zam rfl (S.at 0 rfl)) rfl rfl (by decide) (ls':=[(16,.bool true)]) rfl (fun a S=>?_)
 refine hK4 _ _ ?_
 refine wp_ret ?_
 exact za5 rfl S (S.at 0 rfl) ⟨_,rfl,rfl,S.below⟩
end Go.Proofs.YtafokgknenienaaGreatDoor
