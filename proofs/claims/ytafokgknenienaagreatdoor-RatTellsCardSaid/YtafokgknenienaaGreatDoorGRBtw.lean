/- A part. -/
import Derived.Test.YtafokgknenienaaGreatDoorGROps
set_option maxHeartbeats 4000000
set_option maxRecDepth 100000
namespace Go.Proofs.YtafokgknenienaaGreatDoor
open Go Go.RowKit
variable {v v' v1 v2:Value}{V:World}{K K' N M:Nat}{q q' q1 q2:Rat}{Z Z':Int}
theorem zlx {q1 q2:Rat}{s m:Nat}(_h:∀u,u<s→zb4 q1 q2 u=false)(hm:zb4 q1 q2 m=false):∀u,u<m+1→zb4 q1 q2 u=false:=fun u hu=>by
 rw[zc0]at hm ⊢
 exact fun hr=>hm (znS hr (by omega))
theorem znI {q1 q2:Rat}{v1 v2:Value}{V:World}(h1:Q1 40 (q1) v1 V)(h2:Q1 40 (q2) v2 V)(hden:zkD q1 q2):
  Calls Tryz.prog 33 #[v1,v2] V (zao V (QV 128 (zba q1 q2) (.bool (decide (q1<q2))))):=by
 obtain⟨b1,x1,y1,rfl,hq1,hk1,hk2,ok1,ok2⟩:=h1
 obtain⟨b2,x2,y2,rfl,hq2,hk3,hk4,ok3,ok4⟩:=h2
 refine zaD (e:=[x2,y2,x1,y1]) Tryz.func33 rfl Tryz.ntmps33 (zuz rfl) [(0,(aG b1 x1 y1)),(1,(aG b2 x2 y2))] rfl (zak ok3 (zak ok4 (zak ok1 (zak ok2 zaW)))) (fun a S=>?_)
 refine wp_seq_k fun K1 hK1=>?_
 refine zaa ?_
 refine ti S (cs:=(aL b1 x1 y1)) (zaH rfl (S.at 0 rfl) rfl) (fun g1=>[⟨g1,27,(aL b1 x1 y1)⟩]) fun g1 a V1 hgg1 S=>?_
 refine ti S (cs:=(aL b2 x2 y2)) (zaH rfl (S.at 2 rfl) rfl) (fun g2=>[⟨g1,27,(aL b1 x1 y1)⟩,⟨g2,27,(aL b2 x2 y2)⟩]) fun g2 a V2 hgg2 S=>?_
 refine ti S (cs:=[.bool false,.slice none 0 0,.slice none 0 0]) (zap rfl (Tryz.zeroValue27 _) rfl) (fun g3=>[⟨g1,27,(aL b1 x1 y1)⟩,⟨g2,27,(aL b2 x2 y2)⟩,⟨g3,27,[.bool false,.slice none 0 0,.slice none 0 0]⟩]) fun g3 a V3 hgg3 S=>?_
 refine tv S (zau rfl) fun a S=>?_
 refine hK1 _ _ ?_
 refine wp_seq_k fun K2 hK2=>?_
 obtain⟨W1,hW1⟩:∃W,W=V3:=⟨_,rfl⟩
 rw[←hW1]at S ⊢
 have S0:=S
 refine fr 4 [12,13,14,15] [IsV ((aG b1 x1 y1)),QT 40 (q1),IsV ((aG b2 x2 y2)),QT 40 (q2)] S ?_ ?_
 ·refine sc (fun _ _ S _ _=>sv rfl (zab rfl (S.at 3 rfl) (S.bx 0 rfl) Tryz.underlying27 rfl (vs:=(aL b1 x1 y1)) zae rfl)) ?_
  refine sc (fun _ _ S _ hd=>sl rfl (rc1 Tryz.func25 (hd.v 0 rfl rfl)) (zdl (show Q1 40 (q1) ((aG b1 x1 y1)) _ from⟨b1,x1,y1,rfl,hq1,hk1,hk2,(S.num 2 rfl),(S.num 3 rfl)⟩) (by decide))) ?_
  refine sc (fun _ _ S _ _=>sv rfl (zab rfl (S.at 2 rfl) (S.bx 1 rfl) Tryz.underlying27 rfl (vs:=(aL b2 x2 y2)) zae rfl)) ?_
  refine sc (fun _ _ S _ hd=>sl rfl (rc1 Tryz.func25 (hd.v 2 rfl rfl)) (zdl (show Q1 40 (q2) ((aG b2 x2 y2)) _ from⟨b2,x2,y2,rfl,hq2,hk3,hk4,(S.num 0 rfl),(S.num 1 rfl)⟩) (by decide))) ?_
  exact sn
 ·intro a1 V4 S hB hf
  obtain⟨b3,x3,y3,hv1,hq3,hk5,hk6,ok5,ok6⟩:=hf.r 1 rfl rfl
  have S:=S.add hv1
  have S:=S.know ok5
  have S:=S.know ok6
  obtain⟨b4,x4,y4,hv2,hq4,hk7,hk8,ok7,ok8⟩:=hf.r 3 rfl rfl
  have S:=S.add hv2
  have S:=S.know ok7
  have S:=S.know ok8
  clear hf S0
  show wpList _ _ _ [_,_] _ _
  refine zal S (i:=0) (vs:=(aL b3 x3 y3)) rfl (fun ht=>zah rfl (S.at 5 rfl) (S.at 1 rfl) zae rfl (zuz rfl) ht) (zuz rfl) rfl rfl rfl (lb':=[⟨g1,27,(aL b3 x3 y3)⟩,⟨g2,27,(aL b2 x2 y2)⟩,⟨g3,27,[.bool false,.slice none 0 0,.slice none 0 0]⟩]) rfl (fun V5 S=>?_)
  refine zal S (i:=1) (vs:=(aL b4 x4 y4)) rfl (fun ht=>zah rfl (S.at 4 rfl) (S.at 0 rfl) zae rfl (zuz rfl) ht) (zuz rfl) rfl rfl rfl (lb':=[⟨g1,27,(aL b3 x3 y3)⟩,⟨g2,27,(aL b4 x4 y4)⟩,⟨g3,27,[.bool false,.slice none 0 0,.slice none 0 0]⟩]) rfl (fun V6 S=>?_)
  refine hK2 _ _ ?_
  refine wp_seq_k fun K3 hK3=>?_
  refine wp_seq_k fun K4 hK4=>?_
  refine zaa ?_
  refine tv S (zab rfl (S.at 5 rfl) (S.bx 0 rfl) Tryz.underlying27 rfl (vs:=(aL b3 x3 y3)) zae rfl) fun a S=>?_
  refine tv S (zab rfl (S.at 5 rfl) (S.bx 1 rfl) Tryz.underlying27 rfl (vs:=(aL b4 x4 y4)) zae rfl) fun a S=>?_
  refine tc S (F:=(fun v _=>v= .int .i64 (zaK q1 q2))) (rc2 Tryz.func19 (S.at 1 rfl) (S.at 0 rfl)) (zds (show QT 40 (q1) ((aG b3 x3 y3)) _ from⟨b3,x3,y3,rfl,hq3,hk5,hk6,(S.num 3 rfl),(S.num 2 rfl)⟩).any (show QT 40 (q2) ((aG b4 x4 y4)) _ from⟨b4,x4,y4,rfl,hq4,hk7,hk8,(S.num 1 rfl),(S.num 0 rfl)⟩).any (by decide) (by decide)) fun v a V7 hF hb S=>?_
  subst hF
  refine tv S (zc3 rfl (S.at 0 rfl) rfl) fun a S=>?_
  refine hK4 _ _ ?_
  rcases zuJ (decide (0≤zaK q1 q2))with hc19|hc19
  ·refine wp_cond_true ((S.at 0 rfl).trans (congrArg Value.bool hc19)) ?_
   have hno:=zcp.1 hc19
   refine wp_seq_k fun K5 hK5=>?_
   refine zaa ?_
   refine tc S (F:=QT 2 ((0:Int))) (rcc Tryz.func23) (zhR (n:=0) (by decide)) fun v a V8 hF hb S=>?_
   obtain⟨b5,x5,y5,rfl,hq5,hk9,hk10,ok9,ok10⟩:=hF
   have S:=S.know ok9
   have S:=S.know ok10
   refine zal S (i:=2) (vs:=(aL b5 x5 y5)) rfl (fun ht=>zah rfl (S.at 8 rfl) (S.at 0 rfl) zae rfl (zuz rfl) ht) (zuz rfl) rfl rfl rfl (lb':=[⟨g1,27,(aL b3 x3 y3)⟩,⟨g2,27,(aL b4 x4 y4)⟩,⟨g3,27,(aL b5 x5 y5)⟩]) rfl (fun V9 S=>?_)
   refine zbk S (v:= .bool false) (zau rfl) rfl rfl (by decide) (ls':=[(20,(aG b5 x5 y5)),(19,.bool (decide (0≤zaK q1 q2))),(18,.int .i64 (zaK q1 q2)),(17,(aG b4 x4 y4)),(16,(aG b3 x3 y3)),(15,(aG b4 x4 y4)),(13,(aG b3 x3 y3)),(4,pT g3 0),(3,pT g2 0),(2,pT g1 0),(0,(aG b1 x1 y1)),(1,(aG b2 x2 y2))]) rfl (fun a S=>?_)
   refine hK5 _ _ ?_
   refine wp_ret ?_
   exact zbD rfl S (S.at 8 rfl) (i:=2) rfl Tryz.underlying27 rfl zae (S.at 0 rfl) ⟨_,rfl,⟨b5,x5,y5,congrArg (fun z=>Value.tuple #[(aG b5 x5 y5),.bool z]) (show false=decide (q1<q2)from(decide_eq_false hno).symm),(show _=zba q1 q2 from(zgG hno).symm)▸hq5,zuC hk9 (by decide),zuC hk10 (by decide),(S.num 1 rfl),(S.num 0 rfl)⟩,S.below⟩
  ·refine wp_cond_false ((S.at 0 rfl).trans (congrArg Value.bool hc19)) ?_
   have hlt:q1<q2:=by
    by_cases hc:q1<q2
    ·exact hc
    ·rw[zcp.2 hc]at hc19;cases hc19
   refine wp_skip ?_
   refine hK3 _ _ ?_
   refine wp_seq_k fun K6 hK6=>?_
   refine zaa ?_
   refine tv S (zau rfl) fun a S=>?_
   refine hK6 _ _ ?_
   refine wp_seq_k fun K7 hK7=>?_
   refine wp_block ?_
   have S:=S.keep [6,4,3,2] (ls':=[(6,.int .i64 1),(4,pT g3 0),(3,pT g2 0),(2,pT g1 0)]) rfl
   have S:=S.sel [0,1,2,3] rfl
   have S:=S.seln [0,1,2,3,4,5,6,7] rfl
   have S:=S.reorder [0,1,2] rfl (by decide)
   refine wp_loop (fun aI VI=>∃(m:Nat),(1≤m)∧(m≤2600)∧Frm 68 [(6,.int .i64 (((m:Nat):Int))),(4,pT g3 0),(3,pT g2 0),(2,pT g1 0)] [⟨g1,27,(aL b3 x3 y3)⟩,⟨g2,27,(aL b4 x4 y4)⟩,⟨g3,27,[.bool false,.slice none 0 0,.slice none 0 0]⟩] V [y4,x4,y3,x3,x2,y2,x1,y1] aI VI) (fun aI _=>(2601) - (intOf (aI.tmps.getD 6 undef)).toNat) ⟨1,Nat.le_refl _,(by decide),S⟩ ?_
   rintro a2 V10 ⟨m,hm1,hm2600,S⟩
   have hm0:a2.tmps.getD 6 undef= .int .i64 (((m:Nat):Int)):=S.at 0 rfl
   refine wp_seq_k fun K8 hK8=>?_
   refine wp_seq_k fun K9 hK9=>?_
   refine zaa ?_
   refine tv S (zab rfl (S.at 3 rfl) (S.bx 0 rfl) Tryz.underlying27 rfl (vs:=(aL b3 x3 y3)) zae rfl) fun a S=>?_
   refine tv S (zab rfl (S.at 3 rfl) (S.bx 1 rfl) Tryz.underlying27 rfl (vs:=(aL b4 x4 y4)) zae rfl) fun a S=>?_
   refine tv S (zad rfl (S.at 2 rfl)) fun a S=>?_
   refine tc S (F:=(fun v _=>v= .bool (zb4 q1 q2 m))) (rc3 Tryz.func104 (S.at 2 rfl) (S.at 1 rfl) (S.at 0 rfl)) (zpF (show QT 40 (q1) ((aG b3 x3 y3)) _ from⟨b3,x3,y3,rfl,hq3,hk5,hk6,(S.num 3 rfl),(S.num 2 rfl)⟩) (show QT 40 (q2) ((aG b4 x4 y4)) _ from⟨b4,x4,y4,rfl,hq4,hk7,hk8,(S.num 1 rfl),(S.num 0 rfl)⟩) (by decide) (by decide) (show m≤2600 by omega)) fun v a V11 hF hb S=>?_
   subst hF
   refine tv S (zcO rfl (S.at 0 rfl)) fun a S=>?_
   refine hK9 _ _ ?_
   rcases zuJ (!(zb4 q1 q2 m))with hc25|hc25
   ·refine wp_cond_true ((S.at 0 rfl).trans (congrArg Value.bool hc25)) ?_
    have hnr:zb4 q1 q2 m=false:=by simpa using hc25
    refine wp_skip ?_
    refine hK8 _ _ ?_
    refine wp_block ?_
    refine zaa ?_
    refine tv S (zad rfl (S.at 5 rfl)) fun a S=>?_
    refine tv S (zrJ (k:=2) (m:=m) rfl rfl (S.at 0 rfl) (by omega)) fun a S=>?_
    refine zbk S (v:= .int .i64 (((2*m:Nat):Int))) (zam rfl (S.at 0 rfl)) rfl rfl (by decide) (ls':=[(27,.int .i64 (((2*m:Nat):Int))),(26,.int .i64 (((m:Nat):Int))),(25,.bool (!(zb4 q1 q2 m))),(24,.bool (zb4 q1 q2 m)),(23,.int .i64 (((m:Nat):Int))),(22,(aG b4 x4 y4)),(21,(aG b3 x3 y3)),(4,pT g3 0),(3,pT g2 0),(2,pT g1 0)]) rfl (fun a S=>?_)
    have S:=S.sel [0,8,9,10] rfl
    have S:=S.seln [0,1,2,3,4,5,6,7] rfl
    have S:=S.reorder [0,1,2] rfl (by decide)
    refine⟨⟨2*m,(by omega),(by have:=zqf hlt hden hnr;omega),S⟩,?_⟩
    have hm1:=S.at 0 rfl
    rw[hm0,hm1]
    simp only[intOf];omega
   ·refine wp_cond_false ((S.at 0 rfl).trans (congrArg Value.bool hc25)) ?_
    have hr1:zb4 q1 q2 m=true:=by simpa using hc25
    refine wp_exit ?_
    refine hK7 _ _ ?_
    refine wp_seq_k fun K10 hK10=>?_
    refine zaa ?_
    refine tv S (zau rfl) fun a S=>?_
    refine hK10 _ _ ?_
    refine wp_seq_k fun K11 hK11=>?_
    refine wp_block ?_
    have S:=S.keep [7,6,4,3,2] (ls':=[(7,.int .i64 0),(6,.int .i64 (((m:Nat):Int))),(4,pT g3 0),(3,pT g2 0),(2,pT g1 0)]) rfl
    have S:=S.sel [0,1,2,3,4] rfl
    have S:=S.seln [0,1,2,3,4,5,6,7] rfl
    have S:=S.reorder [0,1,2] rfl (by decide)
    refine wp_loop (fun aI VI=>∃(s:Nat) (t:Nat),(s≤t)∧(t≤2600)∧(zb4 q1 q2 t=true)∧(∀u,u<s→zb4 q1 q2 u=false)∧Frm 68 [(7,.int .i64 (((s:Nat):Int))),(6,.int .i64 (((t:Nat):Int))),(4,pT g3 0),(3,pT g2 0),(2,pT g1 0)] [⟨g1,27,(aL b3 x3 y3)⟩,⟨g2,27,(aL b4 x4 y4)⟩,⟨g3,27,[.bool false,.slice none 0 0,.slice none 0 0]⟩] V [y4,x4,y3,x3,x2,y2,x1,y1] aI VI) (fun aI _=>(intOf (aI.tmps.getD 6 undef)).toNat - (intOf (aI.tmps.getD 7 undef)).toNat) ⟨0,m,Nat.zero_le _,(by omega),hr1,(fun u hu=>by omega),S⟩ ?_
    rintro a3 V12 ⟨s,t,hst,ht26,hrt,hle,S⟩
    have hm0:a3.tmps.getD 7 undef= .int .i64 (((s:Nat):Int)):=S.at 0 rfl
    have hm2:a3.tmps.getD 6 undef= .int .i64 (((t:Nat):Int)):=S.at 1 rfl
    refine wp_seq_k fun K12 hK12=>?_
    refine wp_seq_k fun K13 hK13=>?_
    refine zaa ?_
    refine tv S (zad rfl (S.at 0 rfl)) fun a S=>?_
    refine tv S (zad rfl (S.at 2 rfl)) fun a S=>?_
    refine tv S (zdj rfl (S.at 1 rfl) (S.at 0 rfl)) fun a S=>?_
    refine hK13 _ _ ?_
    rcases zuJ (decide (((s:Nat):Int)<((t:Nat):Int)))with hc30|hc30
    ·refine wp_cond_true ((S.at 0 rfl).trans (congrArg Value.bool hc30)) ?_
     have hst2:s<t:=by have:=of_decide_eq_true hc30;omega
     refine wp_skip ?_
     refine hK12 _ _ ?_
     refine wp_block ?_
     refine wp_seq_k fun K14 hK14=>?_
     refine zaa ?_
     refine tv S (zad rfl (S.at 3 rfl)) fun a S=>?_
     refine tv S (zad rfl (S.at 5 rfl)) fun a S=>?_
     refine tv S (zdS (k:=s) (m:=t) rfl (S.at 1 rfl) (S.at 0 rfl) (by omega)) fun a S=>?_
     refine tv S (zrK (k:=s+t) rfl (S.at 0 rfl) (by omega)) fun a S=>?_
     refine tv S (zam rfl (S.at 0 rfl)) fun a S=>?_
     refine hK14 _ _ ?_
     refine wp_seq_k fun K15 hK15=>?_
     refine zaa ?_
     refine tv S (zab rfl (S.at 12 rfl) (S.bx 0 rfl) Tryz.underlying27 rfl (vs:=(aL b3 x3 y3)) zae rfl) fun a S=>?_
     refine tv S (zab rfl (S.at 12 rfl) (S.bx 1 rfl) Tryz.underlying27 rfl (vs:=(aL b4 x4 y4)) zae rfl) fun a S=>?_
     refine tv S (zad rfl (S.at 2 rfl)) fun a S=>?_
     refine tc S (F:=(fun v _=>v= .bool (zb4 q1 q2 ((s+t)/2)))) (rc3 Tryz.func104 (S.at 2 rfl) (S.at 1 rfl) (S.at 0 rfl)) (zpF (show QT 40 (q1) ((aG b3 x3 y3)) _ from⟨b3,x3,y3,rfl,hq3,hk5,hk6,(S.num 3 rfl),(S.num 2 rfl)⟩) (show QT 40 (q2) ((aG b4 x4 y4)) _ from⟨b4,x4,y4,rfl,hq4,hk7,hk8,(S.num 1 rfl),(S.num 0 rfl)⟩) (by decide) (by decide) (show(s+t)/2≤2600 by omega)) fun v a V13 hF hb S=>?_
     subst hF
     refine hK15 _ _ ?_
     rcases zuJ (zb4 q1 q2 ((s+t)/2))with hc38|hc38
     ·refine wp_cond_true ((S.at 0 rfl).trans (congrArg Value.bool hc38)) ?_
      have hmid:=hc38
      refine zaa ?_
      refine tv S (zad rfl (S.at 4 rfl)) fun a S=>?_
      refine zbk S (v:= .int .i64 ((((s+t)/2:Nat):Int))) (zam rfl (S.at 0 rfl)) rfl rfl (by decide) (ls':=[(39,.int .i64 ((((s+t)/2:Nat):Int))),(38,.bool (zb4 q1 q2 ((s+t)/2))),(37,.int .i64 ((((s+t)/2:Nat):Int))),(36,(aG b4 x4 y4)),(35,(aG b3 x3 y3)),(8,.int .i64 ((((s+t)/2:Nat):Int))),(34,.int .i64 ((((s+t)/2:Nat):Int))),(33,.int .i64 (((s+t:Nat):Int))),(32,.int .i64 (((t:Nat):Int))),(31,.int .i64 (((s:Nat):Int))),(30,.bool (decide (((s:Nat):Int)<((t:Nat):Int)))),(29,.int .i64 (((t:Nat):Int))),(28,.int .i64 (((s:Nat):Int))),(7,.int .i64 (((s:Nat):Int))),(4,pT g3 0),(3,pT g2 0),(2,pT g1 0)]) rfl (fun a S=>?_)
      have S:=S.sel [14,0,15,16,17] rfl
      have S:=S.seln [0,1,2,3,4,5,6,7] rfl
      have S:=S.reorder [0,1,2] rfl (by decide)
      refine⟨⟨s,(s+t)/2,(by omega),(by omega),hmid,hle,S⟩,?_⟩
      have hm1:=S.at 0 rfl
      have hm3:=S.at 1 rfl
      rw[hm0,hm1,hm2,hm3]
      simp only[intOf];omega
     ·refine wp_cond_false ((S.at 0 rfl).trans (congrArg Value.bool hc38)) ?_
      have hmid:=hc38
      refine zaa ?_
      refine tv S (zad rfl (S.at 4 rfl)) fun a S=>?_
      refine tv S (zdS (k:=(s+t)/2) (m:=1) rfl (S.at 0 rfl) rfl (by omega)) fun a S=>?_
      refine zbk S (v:= .int .i64 (((((s+t)/2)+1:Nat):Int))) (zam rfl (S.at 0 rfl)) rfl rfl (by decide) (ls':=[(41,.int .i64 (((((s+t)/2)+1:Nat):Int))),(40,.int .i64 ((((s+t)/2:Nat):Int))),(38,.bool (zb4 q1 q2 ((s+t)/2))),(37,.int .i64 ((((s+t)/2:Nat):Int))),(36,(aG b4 x4 y4)),(35,(aG b3 x3 y3)),(8,.int .i64 ((((s+t)/2:Nat):Int))),(34,.int .i64 ((((s+t)/2:Nat):Int))),(33,.int .i64 (((s+t:Nat):Int))),(32,.int .i64 (((t:Nat):Int))),(31,.int .i64 (((s:Nat):Int))),(30,.bool (decide (((s:Nat):Int)<((t:Nat):Int)))),(29,.int .i64 (((t:Nat):Int))),(28,.int .i64 (((s:Nat):Int))),(6,.int .i64 (((t:Nat):Int))),(4,pT g3 0),(3,pT g2 0),(2,pT g1 0)]) rfl (fun a S=>?_)
      have S:=S.sel [0,15,16,17,18] rfl
      have S:=S.seln [0,1,2,3,4,5,6,7] rfl
      have S:=S.reorder [0,1,2] rfl (by decide)
      refine⟨⟨((s+t)/2)+1,t,(by omega),ht26,hrt,(zlx hle hmid),S⟩,?_⟩
      have hm1:=S.at 0 rfl
      have hm3:=S.at 1 rfl
      rw[hm0,hm1,hm2,hm3]
      simp only[intOf];omega
    ·refine wp_cond_false ((S.at 0 rfl).trans (congrArg Value.bool hc30)) ?_
     have hst2:t≤s:=by have:=of_decide_eq_false hc30;omega
     have hrs:zb4 q1 q2 s=true:=by rw[show s=t by omega];exact hrt
     refine wp_exit ?_
     refine hK11 _ _ ?_
     refine wp_seq_k fun K16 hK16=>?_
     refine zaa ?_
     refine tc S (F:=ZT 2 (0)) (rcc Tryz.func44) (zjg (n:=0) (by decide)) fun v a V14 hF hb S=>?_
     obtain⟨b6,x6,rfl,hz1,hk11,ok11⟩:=hF
     have S:=S.know ok11
     refine ti S (cs:=[.bool false,.slice none 0 0]) (zap rfl (Tryz.zeroValue25 _) rfl) (fun g4=>[⟨g1,27,(aL b3 x3 y3)⟩,⟨g2,27,(aL b4 x4 y4)⟩,⟨g3,27,[.bool false,.slice none 0 0,.slice none 0 0]⟩,⟨g4,25,[.bool false,.slice none 0 0]⟩]) fun g4 a V15 hgg4 S=>?_
     refine zal S (i:=3) (vs:=[.bool b6,aS x6]) rfl (fun ht=>zah rfl (S.at 0 rfl) (S.at 1 rfl) zav rfl (zuz rfl) ht) (zuz rfl) rfl rfl rfl (lb':=[⟨g1,27,(aL b3 x3 y3)⟩,⟨g2,27,(aL b4 x4 y4)⟩,⟨g3,27,[.bool false,.slice none 0 0,.slice none 0 0]⟩,⟨g4,25,[.bool b6,aS x6]⟩]) rfl (fun V16 S=>?_)
     refine hK16 _ _ ?_
     refine wp_seq_k fun K17 hK17=>?_
     refine wp_block ?_
     refine wp_seq_k fun K18 hK18=>?_
     refine zaa ?_
     refine tv S (zab rfl (S.at 9 rfl) (S.bx 0 rfl) Tryz.underlying27 rfl (vs:=(aL b3 x3 y3)) zae rfl) fun a S=>?_
     refine tc S (F:=(fun v _=>v= .int .i64 (zaK q1 0))) (rc1 Tryz.func17 (S.at 0 rfl)) (zej (show QT 40 (q1) ((aG b3 x3 y3)) _ from⟨b3,x3,y3,rfl,hq3,hk5,hk6,(S.num 4 rfl),(S.num 3 rfl)⟩).any) fun v a V17 hF hb S=>?_
     subst hF
     refine tv S (zc3 rfl (S.at 0 rfl) rfl) fun a S=>?_
     refine tv S (zam rfl (S.at 0 rfl)) fun a S=>?_
     refine hK18 _ _ ?_
     rcases zuJ (decide (0≤zaK q1 0))with hc43|hc43
     ·refine wp_cond_true ((S.at 0 rfl).trans (congrArg Value.bool hc43)) ?_
      refine zaa ?_
      refine tv S (zab rfl (S.at 13 rfl) (S.bx 0 rfl) Tryz.underlying27 rfl (vs:=(aL b3 x3 y3)) zae rfl) fun a S=>?_
      refine tv S (zad rfl (S.at 10 rfl)) fun a S=>?_
      refine tc S (F:=ZT 128 (Rat.floor (q1*2^s)+1)) (rc2 Tryz.func105 (S.at 1 rfl) (S.at 0 rfl)) (zi5 (show QT 40 (q1) ((aG b3 x3 y3)) _ from⟨b3,x3,y3,rfl,hq3,hk5,hk6,(S.num 4 rfl),(S.num 3 rfl)⟩) (by decide) (show s≤2600 by omega)) fun v a V18 hF hb S=>?_
      obtain⟨b7,x7,rfl,hz2,hk12,ok12⟩:=hF
      have S:=S.know ok12
      refine zal S (i:=3) (vs:=[.bool b7,aS x7]) rfl (fun ht=>zah rfl (S.at 7 rfl) (S.at 0 rfl) zav rfl (zuz rfl) ht) (zuz rfl) rfl rfl rfl (lb':=[⟨g1,27,(aL b3 x3 y3)⟩,⟨g2,27,(aL b4 x4 y4)⟩,⟨g3,27,[.bool false,.slice none 0 0,.slice none 0 0]⟩,⟨g4,25,[.bool b7,aS x7]⟩]) rfl (fun V19 S=>?_)
      refine hK17 _ _ ?_
      refine wp_seq_k fun K19 hK19=>?_
      have S:=S.keep [9,7,4] (ls':=[(9,pT g4 0),(7,.int .i64 (((s:Nat):Int))),(4,pT g3 0)]) rfl
      obtain⟨W2,hW2⟩:∃W,W=V19:=⟨_,rfl⟩
      rw[←hW2]at S ⊢
      have S0:=S
      refine frs [(27,3)] [some 60,some 61,some 62,some 63,some 64,some 59,some 65,some 66,some 10,none,some 11] [IsV ((aZ b7 x7)),NT 1 ((1:Nat)),IsV (.int .i64 (((s:Nat):Int))),NT 83 ((1:Nat)*2^s),QE 128 (mkRat (Rat.floor (q1*2^s)+1) ((1:Nat)*2^s)) (erz ((1:Nat)*2^s)),QE 128 (mkRat (Rat.floor (q1*2^s)+1) ((1:Nat)*2^s)) (erz ((1:Nat)*2^s)),QT 128 (mkRat (Rat.floor (q1*2^s)+1) ((1:Nat)*2^s)),IsV (.int .i64 (erz ((1:Nat)*2^s))),zcQ,zcQ,IsV (.int .i64 (erz ((1:Nat)*2^s)))] [⟨8,10,27,[.bool false,.slice none 0 0,.slice none 0 0]⟩] [⟨9,10,27,QT 128 (mkRat (Rat.floor (q1*2^s)+1) ((1:Nat)*2^s))⟩] [] (lb:=[⟨g1,27,(aL b3 x3 y3)⟩,⟨g2,27,(aL b4 x4 y4)⟩,⟨g3,27,[.bool false,.slice none 0 0,.slice none 0 0]⟩,⟨g4,25,[.bool b7,aS x7]⟩]) S (all_cons (zc4 0 rfl rfl) zat) ?_ (all_cons ⟨rfl,_,rfl,rfl,rfl,fun _ _ _=>(zap rfl (Tryz.zeroValue27 _) rfl)⟩ zat) (all_cons ⟨_,3,rfl,rfl,rfl,List.mem_of_getElem? (i:=0) rfl,(all_cons (fun h=>⟨rfl,rfl⟩) zat),zat,fun _ _ _ _ hg hd=>zcN (hd.r 6 rfl rfl) (hd.r 6 rfl rfl).parts rfl hg rfl zae⟩ zat) zat ?_
      ·refine va (fun _ _ S _ _ _=>sv rfl (zab rfl (S.at 0 rfl) (S.bx 3 rfl) Tryz.underlying25 rfl (vs:=[.bool b7,aS x7]) zav rfl)) ?_
       refine va (fun _ _ _ _ _ _=>sy rfl (zbQ (c:=1) rfl (by decide) (by decide))) ?_
       refine va (fun _ _ S _ _ _=>sv rfl (zad rfl (S.at 1 rfl))) ?_
       refine va (fun _ _ _ _ hd _=>sl rfl (rc2 Tryz.func43 rfl (hd.v 2 rfl rfl)) (zbn (zhS (k:=s) ((hd.r 1 rfl rfl)).any (by decide) (by omega)) (fun v V2 h=>h.to rfl (by omega)))) ?_
       refine va (fun _ _ S _ hd _=>sl rfl (rc2 Tryz.func12 (hd.v 0 rfl rfl) rfl) (zhp (show ZT 128 (Rat.floor (q1*2^s)+1) ((aZ b7 x7)) _ from⟨b7,x7,rfl,hz2,hk12,(S.num 0 rfl)⟩).any ((hd.r 3 rfl rfl)).any (by decide) (by decide))) ?_
       refine va (fun _ _ _ _ hd _=>sv rfl (zad rfl rfl) (hd.r 4 rfl rfl)) ?_
       refine va (fun _ _ _ _ hd _=>by
        obtain⟨b,x,y,hv,hq,k1,k2,o1,o2⟩:=(hd.r 5 rfl rfl)
        exact sv rfl (zaq rfl hv rfl) ⟨b,x,y,rfl,hq,k1,k2,o1,o2⟩) ?_
       refine va (fun _ _ _ _ hd _=>by
        obtain⟨b,x,y,hv,hq,k1,k2,o1,o2⟩:=(hd.r 5 rfl rfl)
        exact sv rfl (zaq rfl hv rfl)) ?_
       refine vb ?_
       refine vs ?_
       refine va (fun _ _ _ _ hd _=>sv rfl (zam rfl (hd.v 7 rfl rfl))) ?_
       exact vn
      ·intro a4 V20 S hB hf hl hdis hs hp
       obtain⟨g5,csg5,hvg5,hgg5,hbg5,hlg5,hng5,hkg5⟩:=hl _ (List.mem_of_getElem? (i:=0) rfl)
       obtain⟨gs1,vsgs1,hvgs1,-,hbgs1,hngs1,hPgs1⟩:=hs _ (List.mem_of_getElem? (i:=0) rfl)
       have hegs1:=zch ((hvg5).symm.trans hvgs1)
       subst hegs1
       obtain⟨b8,x8,y6,hv3,hq6,hk13,hk14,ok13,ok14⟩:=(show QT 128 (mkRat (Rat.floor (q1*2^s)+1) ((1:Nat)*2^s)) (.agg vsgs1.toArray) V20 from hPgs1)
       have hvsgs1:=zci (ws:=(aL b8 x8 y6)) hv3
       subst hvsgs1
       have S:=S.know ok13
       have S:=S.know ok14
       have S:=Frm.readd (S.add hvg5) (zuC S0.below.size hgg5) hbgs1 rfl (zaR (zax (S0.lt 0 rfl) hgg5) (zaR (zax (S0.lt 1 rfl) hgg5) (zaR (zax (S0.lt 2 rfl) hgg5) (zaR (zax (S0.lt 3 rfl) hgg5) zcM))))
       have S:Frm 68 [(10,pT g5 0),(9,pT g4 0),(7,.int .i64 (((s:Nat):Int))),(4,pT g3 0)] [⟨g1,27,(aL b3 x3 y3)⟩,⟨g2,27,(aL b4 x4 y4)⟩,⟨g3,27,[.bool false,.slice none 0 0,.slice none 0 0]⟩,⟨g4,25,[.bool b7,aS x7]⟩,⟨g5,27,(aL b8 x8 y6)⟩] V _ _ _:=S
       clear hf hl hdis hs hp S0
       refine hK19 _ _ ?_
       refine wp_seq_k fun K20 hK20=>?_
       refine zaa ?_
       refine tv S (zab rfl (S.at 0 rfl) (S.bx 4 rfl) Tryz.underlying27 rfl (vs:=(aL b8 x8 y6)) zae rfl) fun a S=>?_
       refine zal S (i:=2) (vs:=(aL b8 x8 y6)) rfl (fun ht=>zah rfl (S.at 4 rfl) (S.at 0 rfl) zae rfl (zuz rfl) ht) (zuz rfl) rfl rfl rfl (lb':=[⟨g1,27,(aL b3 x3 y3)⟩,⟨g2,27,(aL b4 x4 y4)⟩,⟨g3,27,(aL b8 x8 y6)⟩,⟨g4,25,[.bool b7,aS x7]⟩,⟨g5,27,(aL b8 x8 y6)⟩]) rfl (fun V21 S=>?_)
       refine tv S (zau rfl) fun a S=>?_
       refine hK20 _ _ ?_
       refine wp_ret ?_
       exact zbD rfl S (S.at 5 rfl) (i:=2) rfl Tryz.underlying27 rfl zae (S.at 0 rfl) ⟨_,rfl,⟨b8,x8,y6,congrArg (fun z=>Value.tuple #[(aG b8 x8 y6),.bool z]) (show true=decide (q1<q2)from(decide_eq_true hlt).symm),((ztl hc43).trans (zc9 hlt (ze9.1 hrs) (fun u hu=>zc0.1 (hle u hu))).symm)▸hq6,zuC hk13 (by decide),zuC hk14 (by decide),(S.num 1 rfl),(S.num 0 rfl)⟩,S.below⟩
     ·refine wp_cond_false ((S.at 0 rfl).trans (congrArg Value.bool hc43)) ?_
      refine wp_seq_k fun K21 hK21=>?_
      refine zaa ?_
      refine tv S (zab rfl (S.at 12 rfl) (S.bx 1 rfl) Tryz.underlying27 rfl (vs:=(aL b4 x4 y4)) zae rfl) fun a S=>?_
      refine tc S (F:=(fun v _=>v= .int .i64 (zaK q2 0))) (rc1 Tryz.func17 (S.at 0 rfl)) (zej (show QT 40 (q2) ((aG b4 x4 y4)) _ from⟨b4,x4,y4,rfl,hq4,hk7,hk8,(S.num 2 rfl),(S.num 1 rfl)⟩).any) fun v a V22 hF hb S=>?_
      subst hF
      refine tv S (zp3 rfl (S.at 0 rfl) rfl) fun a S=>?_
      refine tv S (zam rfl (S.at 0 rfl)) fun a S=>?_
      refine hK21 _ _ ?_
      rcases zuJ (decide (zaK q2 0≤0))with hc50|hc50
      ·refine wp_cond_true ((S.at 0 rfl).trans (congrArg Value.bool hc50)) ?_
       have S:=S.keep [9,7,4,3] (ls':=[(9,pT g4 0),(7,.int .i64 (((s:Nat):Int))),(4,pT g3 0),(3,pT g2 0)]) rfl
       refine zaa ?_
       refine tv S (zab rfl (S.at 3 rfl) (S.bx 1 rfl) Tryz.underlying27 rfl (vs:=(aL b4 x4 y4)) zae rfl) fun a S=>?_
       refine tc S (F:=QT 40 (-q2)) (rc1 Tryz.func27 (S.at 0 rfl)) (zqg (show QT 40 (q2) ((aG b4 x4 y4)) _ from⟨b4,x4,y4,rfl,hq4,hk7,hk8,(S.num 2 rfl),(S.num 1 rfl)⟩).any (by decide)) fun v a V23 hF hb S=>?_
       obtain⟨b9,x9,y7,rfl,hq7,hk15,hk16,ok15,ok16⟩:=hF
       have S:=S.know ok15
       have S:=S.know ok16
       refine tv S (zad rfl (S.at 3 rfl)) fun a S=>?_
       refine tc S (F:=ZT 128 (Rat.floor (-q2*2^s)+1)) (rc2 Tryz.func105 (S.at 1 rfl) (S.at 0 rfl)) (zi5 (show QT 40 (-q2) ((aG b9 x9 y7)) _ from⟨b9,x9,y7,rfl,hq7,hk15,hk16,(S.num 1 rfl),(S.num 0 rfl)⟩) (by decide) (show s≤2600 by omega)) fun v a V24 hF hb S=>?_
       obtain⟨b10,x10,rfl,hz3,hk17,ok17⟩:=hF
       have S:=S.know ok17
       refine tc S (F:=ZT 128 (-(Rat.floor (-q2*2^s)+1))) (rc1 Tryz.func99 (S.at 0 rfl)) (zsx (show ZT 128 (Rat.floor (-q2*2^s)+1) ((aZ b10 x10)) _ from⟨b10,x10,rfl,hz3,hk17,(S.num 0 rfl)⟩).any) fun v a V25 hF hb S=>?_
       obtain⟨b11,x11,rfl,hz4,hk18,ok18⟩:=hF
       have S:=S.know ok18
       refine zal S (i:=3) (vs:=[.bool b11,aS x11]) rfl (fun ht=>zah rfl (S.at 5 rfl) (S.at 0 rfl) zav rfl (zuz rfl) ht) (zuz rfl) rfl rfl rfl (lb':=[⟨g1,27,(aL b3 x3 y3)⟩,⟨g2,27,(aL b4 x4 y4)⟩,⟨g3,27,[.bool false,.slice none 0 0,.slice none 0 0]⟩,⟨g4,25,[.bool b11,aS x11]⟩]) rfl (fun V26 S=>?_)
       refine hK17 _ _ ?_
       refine wp_seq_k fun K22 hK22=>?_
       obtain⟨W3,hW3⟩:∃W,W=V26:=⟨_,rfl⟩
       rw[←hW3]at S ⊢
       have S0:=S
       refine frs [(27,3)] [some 60,some 61,some 62,some 63,some 64,some 59,some 65,some 66,some 10,none,some 11] [IsV ((aZ b11 x11)),NT 1 ((1:Nat)),IsV (.int .i64 (((s:Nat):Int))),NT 83 ((1:Nat)*2^s),QE 128 (mkRat (-(Rat.floor (-q2*2^s)+1)) ((1:Nat)*2^s)) (erz ((1:Nat)*2^s)),QE 128 (mkRat (-(Rat.floor (-q2*2^s)+1)) ((1:Nat)*2^s)) (erz ((1:Nat)*2^s)),QT 128 (mkRat (-(Rat.floor (-q2*2^s)+1)) ((1:Nat)*2^s)),IsV (.int .i64 (erz ((1:Nat)*2^s))),zcQ,zcQ,IsV (.int .i64 (erz ((1:Nat)*2^s)))] [⟨8,10,27,[.bool false,.slice none 0 0,.slice none 0 0]⟩] [⟨9,10,27,QT 128 (mkRat (-(Rat.floor (-q2*2^s)+1)) ((1:Nat)*2^s))⟩] [] (lb:=[⟨g1,27,(aL b3 x3 y3)⟩,⟨g2,27,(aL b4 x4 y4)⟩,⟨g3,27,[.bool false,.slice none 0 0,.slice none 0 0]⟩,⟨g4,25,[.bool b11,aS x11]⟩]) S (all_cons (zc4 0 rfl rfl) zat) ?_ (all_cons ⟨rfl,_,rfl,rfl,rfl,fun _ _ _=>(zap rfl (Tryz.zeroValue27 _) rfl)⟩ zat) (all_cons ⟨_,3,rfl,rfl,rfl,List.mem_of_getElem? (i:=0) rfl,(all_cons (fun h=>⟨rfl,rfl⟩) zat),zat,fun _ _ _ _ hg hd=>zcN (hd.r 6 rfl rfl) (hd.r 6 rfl rfl).parts rfl hg rfl zae⟩ zat) zat ?_
       ·refine va (fun _ _ S _ _ _=>sv rfl (zab rfl (S.at 5 rfl) (S.bx 3 rfl) Tryz.underlying25 rfl (vs:=[.bool b11,aS x11]) zav rfl)) ?_
        refine va (fun _ _ _ _ _ _=>sy rfl (zbQ (c:=1) rfl (by decide) (by decide))) ?_
        refine va (fun _ _ S _ _ _=>sv rfl (zad rfl (S.at 6 rfl))) ?_
        refine va (fun _ _ _ _ hd _=>sl rfl (rc2 Tryz.func43 rfl (hd.v 2 rfl rfl)) (zbn (zhS (k:=s) ((hd.r 1 rfl rfl)).any (by decide) (by omega)) (fun v V2 h=>h.to rfl (by omega)))) ?_
        refine va (fun _ _ S _ hd _=>sl rfl (rc2 Tryz.func12 (hd.v 0 rfl rfl) rfl) (zhp (show ZT 128 (-(Rat.floor (-q2*2^s)+1)) ((aZ b11 x11)) _ from⟨b11,x11,rfl,hz4,hk18,(S.num 0 rfl)⟩).any ((hd.r 3 rfl rfl)).any (by decide) (by decide))) ?_
        refine va (fun _ _ _ _ hd _=>sv rfl (zad rfl rfl) (hd.r 4 rfl rfl)) ?_
        refine va (fun _ _ _ _ hd _=>by
         obtain⟨b,x,y,hv,hq,k1,k2,o1,o2⟩:=(hd.r 5 rfl rfl)
         exact sv rfl (zaq rfl hv rfl) ⟨b,x,y,rfl,hq,k1,k2,o1,o2⟩) ?_
        refine va (fun _ _ _ _ hd _=>by
         obtain⟨b,x,y,hv,hq,k1,k2,o1,o2⟩:=(hd.r 5 rfl rfl)
         exact sv rfl (zaq rfl hv rfl)) ?_
        refine vb ?_
        refine vs ?_
        refine va (fun _ _ _ _ hd _=>sv rfl (zam rfl (hd.v 7 rfl rfl))) ?_
        exact vn
       ·intro a5 V27 S hB hf hl hdis hs hp
        obtain⟨g6,csg6,hvg6,hgg6,hbg6,hlg6,hng6,hkg6⟩:=hl _ (List.mem_of_getElem? (i:=0) rfl)
        obtain⟨gs2,vsgs2,hvgs2,-,hbgs2,hngs2,hPgs2⟩:=hs _ (List.mem_of_getElem? (i:=0) rfl)
        have hegs2:=zch ((hvg6).symm.trans hvgs2)
        subst hegs2
        obtain⟨b12,x12,y8,hv4,hq8,hk19,hk20,ok19,ok20⟩:=(show QT 128 (mkRat (-(Rat.floor (-q2*2^s)+1)) ((1:Nat)*2^s)) (.agg vsgs2.toArray) V27 from hPgs2)
        have hvsgs2:=zci (ws:=(aL b12 x12 y8)) hv4
        subst hvsgs2
        have S:=S.know ok19
        have S:=S.know ok20
        have S:=Frm.readd (S.add hvg6) (zuC S0.below.size hgg6) hbgs2 rfl (zaR (zax (S0.lt 0 rfl) hgg6) (zaR (zax (S0.lt 1 rfl) hgg6) (zaR (zax (S0.lt 2 rfl) hgg6) (zaR (zax (S0.lt 3 rfl) hgg6) zcM))))
        have S:Frm 68 [(10,pT g6 0),(58,(aZ b11 x11)),(57,(aZ b10 x10)),(56,.int .i64 (((s:Nat):Int))),(55,(aG b9 x9 y7)),(54,(aG b4 x4 y4)),(9,pT g4 0),(7,.int .i64 (((s:Nat):Int))),(4,pT g3 0),(3,pT g2 0)] [⟨g1,27,(aL b3 x3 y3)⟩,⟨g2,27,(aL b4 x4 y4)⟩,⟨g3,27,[.bool false,.slice none 0 0,.slice none 0 0]⟩,⟨g4,25,[.bool b11,aS x11]⟩,⟨g6,27,(aL b12 x12 y8)⟩] V _ _ _:=S
        clear hf hl hdis hs hp S0
        refine hK22 _ _ ?_
        refine wp_seq_k fun K23 hK23=>?_
        refine zaa ?_
        refine tv S (zab rfl (S.at 0 rfl) (S.bx 4 rfl) Tryz.underlying27 rfl (vs:=(aL b12 x12 y8)) zae rfl) fun a S=>?_
        refine zal S (i:=2) (vs:=(aL b12 x12 y8)) rfl (fun ht=>zah rfl (S.at 9 rfl) (S.at 0 rfl) zae rfl (zuz rfl) ht) (zuz rfl) rfl rfl rfl (lb':=[⟨g1,27,(aL b3 x3 y3)⟩,⟨g2,27,(aL b4 x4 y4)⟩,⟨g3,27,(aL b12 x12 y8)⟩,⟨g4,25,[.bool b11,aS x11]⟩,⟨g6,27,(aL b12 x12 y8)⟩]) rfl (fun V28 S=>?_)
        refine tv S (zau rfl) fun a S=>?_
        refine hK23 _ _ ?_
        refine wp_ret ?_
        exact zbD rfl S (S.at 10 rfl) (i:=2) rfl Tryz.underlying27 rfl zae (S.at 0 rfl) ⟨_,rfl,⟨b12,x12,y8,congrArg (fun z=>Value.tuple #[(aG b12 x12 y8),.bool z]) (show true=decide (q1<q2)from(decide_eq_true hlt).symm),((ztm hc43 hc50).trans (zc9 hlt (ze9.1 hrs) (fun u hu=>zc0.1 (hle u hu))).symm)▸hq8,zuC hk19 (by decide),zuC hk20 (by decide),(S.num 1 rfl),(S.num 0 rfl)⟩,S.below⟩
      ·refine wp_cond_false ((S.at 0 rfl).trans (congrArg Value.bool hc50)) ?_
       refine wp_skip ?_
       refine hK17 _ _ ?_
       refine wp_seq_k fun K24 hK24=>?_
       have S:=S.keep [9,7,4] (ls':=[(9,pT g4 0),(7,.int .i64 (((s:Nat):Int))),(4,pT g3 0)]) rfl
       obtain⟨W4,hW4⟩:∃W,W=V22:=⟨_,rfl⟩
       rw[←hW4]at S ⊢
       have S0:=S
       refine frs [(27,3)] [some 60,some 61,some 62,some 63,some 64,some 59,some 65,some 66,some 10,none,some 11] [IsV ((aZ b6 x6)),NT 1 ((1:Nat)),IsV (.int .i64 (((s:Nat):Int))),NT 83 ((1:Nat)*2^s),QE 83 (mkRat 0 ((1:Nat)*2^s)) (erz ((1:Nat)*2^s)),QE 83 (mkRat 0 ((1:Nat)*2^s)) (erz ((1:Nat)*2^s)),QT 83 (mkRat 0 ((1:Nat)*2^s)),IsV (.int .i64 (erz ((1:Nat)*2^s))),zcQ,zcQ,IsV (.int .i64 (erz ((1:Nat)*2^s)))] [⟨8,10,27,[.bool false,.slice none 0 0,.slice none 0 0]⟩] [⟨9,10,27,QT 83 (mkRat 0 ((1:Nat)*2^s))⟩] [] (lb:=[⟨g1,27,(aL b3 x3 y3)⟩,⟨g2,27,(aL b4 x4 y4)⟩,⟨g3,27,[.bool false,.slice none 0 0,.slice none 0 0]⟩,⟨g4,25,[.bool b6,aS x6]⟩]) S (all_cons (zc4 0 rfl rfl) zat) ?_ (all_cons ⟨rfl,_,rfl,rfl,rfl,fun _ _ _=>(zap rfl (Tryz.zeroValue27 _) rfl)⟩ zat) (all_cons ⟨_,3,rfl,rfl,rfl,List.mem_of_getElem? (i:=0) rfl,(all_cons (fun h=>⟨rfl,rfl⟩) zat),zat,fun _ _ _ _ hg hd=>zcN (hd.r 6 rfl rfl) (hd.r 6 rfl rfl).parts rfl hg rfl zae⟩ zat) zat ?_
       ·refine va (fun _ _ S _ _ _=>sv rfl (zab rfl (S.at 0 rfl) (S.bx 3 rfl) Tryz.underlying25 rfl (vs:=[.bool b6,aS x6]) zav rfl)) ?_
        refine va (fun _ _ _ _ _ _=>sy rfl (zbQ (c:=1) rfl (by decide) (by decide))) ?_
        refine va (fun _ _ S _ _ _=>sv rfl (zad rfl (S.at 1 rfl))) ?_
        refine va (fun _ _ _ _ hd _=>sl rfl (rc2 Tryz.func43 rfl (hd.v 2 rfl rfl)) (zbn (zhS (k:=s) ((hd.r 1 rfl rfl)).any (by decide) (by omega)) (fun v V2 h=>h.to rfl (by omega)))) ?_
        refine va (fun _ _ S _ hd _=>sl rfl (rc2 Tryz.func12 (hd.v 0 rfl rfl) rfl) (zhp (show ZT 2 (0) ((aZ b6 x6)) _ from⟨b6,x6,rfl,hz1,hk11,(S.num 0 rfl)⟩).any ((hd.r 3 rfl rfl)).any (by decide) (by decide))) ?_
        refine va (fun _ _ _ _ hd _=>sv rfl (zad rfl rfl) (hd.r 4 rfl rfl)) ?_
        refine va (fun _ _ _ _ hd _=>by
         obtain⟨b,x,y,hv,hq,k1,k2,o1,o2⟩:=(hd.r 5 rfl rfl)
         exact sv rfl (zaq rfl hv rfl) ⟨b,x,y,rfl,hq,k1,k2,o1,o2⟩) ?_
        refine va (fun _ _ _ _ hd _=>by
         obtain⟨b,x,y,hv,hq,k1,k2,o1,o2⟩:=(hd.r 5 rfl rfl)
         exact sv rfl (zaq rfl hv rfl)) ?_
        refine vb ?_
        refine vs ?_
        refine va (fun _ _ _ _ hd _=>sv rfl (zam rfl (hd.v 7 rfl rfl))) ?_
        exact vn
       ·intro a6 V29 S hB hf hl hdis hs hp
        obtain⟨g7,csg7,hvg7,hgg7,hbg7,hlg7,hng7,hkg7⟩:=hl _ (List.mem_of_getElem? (i:=0) rfl)
        obtain⟨gs3,vsgs3,hvgs3,-,hbgs3,hngs3,hPgs3⟩:=hs _ (List.mem_of_getElem? (i:=0) rfl)
        have hegs3:=zch ((hvg7).symm.trans hvgs3)
        subst hegs3
        obtain⟨b13,x13,y9,hv5,hq9,hk21,hk22,ok21,ok22⟩:=(show QT 83 (mkRat 0 ((1:Nat)*2^s)) (.agg vsgs3.toArray) V29 from hPgs3)
        have hvsgs3:=zci (ws:=(aL b13 x13 y9)) hv5
        subst hvsgs3
        have S:=S.know ok21
        have S:=S.know ok22
        have S:=Frm.readd (S.add hvg7) (zuC S0.below.size hgg7) hbgs3 rfl (zaR (zax (S0.lt 0 rfl) hgg7) (zaR (zax (S0.lt 1 rfl) hgg7) (zaR (zax (S0.lt 2 rfl) hgg7) (zaR (zax (S0.lt 3 rfl) hgg7) zcM))))
        have S:Frm 68 [(10,pT g7 0),(9,pT g4 0),(7,.int .i64 (((s:Nat):Int))),(4,pT g3 0)] [⟨g1,27,(aL b3 x3 y3)⟩,⟨g2,27,(aL b4 x4 y4)⟩,⟨g3,27,[.bool false,.slice none 0 0,.slice none 0 0]⟩,⟨g4,25,[.bool b6,aS x6]⟩,⟨g7,27,(aL b13 x13 y9)⟩] V _ _ _:=S
        clear hf hl hdis hs hp S0
        refine hK24 _ _ ?_
        refine wp_seq_k fun K25 hK25=>?_
        refine zaa ?_
        refine tv S (zab rfl (S.at 0 rfl) (S.bx 4 rfl) Tryz.underlying27 rfl (vs:=(aL b13 x13 y9)) zae rfl) fun a S=>?_
        refine zal S (i:=2) (vs:=(aL b13 x13 y9)) rfl (fun ht=>zah rfl (S.at 4 rfl) (S.at 0 rfl) zae rfl (zuz rfl) ht) (zuz rfl) rfl rfl rfl (lb':=[⟨g1,27,(aL b3 x3 y3)⟩,⟨g2,27,(aL b4 x4 y4)⟩,⟨g3,27,(aL b13 x13 y9)⟩,⟨g4,25,[.bool b6,aS x6]⟩,⟨g7,27,(aL b13 x13 y9)⟩]) rfl (fun V30 S=>?_)
        refine tv S (zau rfl) fun a S=>?_
        refine hK25 _ _ ?_
        refine wp_ret ?_
        exact zbD rfl S (S.at 5 rfl) (i:=2) rfl Tryz.underlying27 rfl zae (S.at 0 rfl) ⟨_,rfl,⟨b13,x13,y9,congrArg (fun z=>Value.tuple #[(aG b13 x13 y9),.bool z]) (show true=decide (q1<q2)from(decide_eq_true hlt).symm),((zrS hc43 hc50).trans (zc9 hlt (ze9.1 hrs) (fun u hu=>zc0.1 (hle u hu))).symm)▸hq9,zuC hk21 (by decide),zuC hk22 (by decide),(S.num 1 rfl),(S.num 0 rfl)⟩,S.below⟩
theorem znJ (h1:Q1 K q1 v1 V)(h2:Q1 K' q2 v2 V)(b:K≤40)(b':K'≤40)(hd:zkD q1 q2):Calls Tryz.prog 33 #[v1,v2] V (zao V (QV 128 (zba q1 q2) (.bool (decide (q1<q2))))):=znI (h1.to rfl b) (h2.to rfl b') hd
end Go.Proofs.YtafokgknenienaaGreatDoor
